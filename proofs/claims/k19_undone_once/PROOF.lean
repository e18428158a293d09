import PyProof.Rows.All
import Wide.All
import OpenK.AllK
import Wide.FinOn
import Lean
import PyProof.EqAt
import PyProof.EqKinds
import PyProof.TupleCall
import PySem.Challenge.RW_costorder_k19_undone_once
-- CHANGE: your row's module here, as the last of these rows
set_option Elab.async false
set_option linter.all false
set_option maxRecDepth 100000
/-! THE HAND LAYER, for ints, bools, texts, own classes, LISTS and tuples (index, slices, in, append, pop ..), calls, loops. Paste it whole ahead of your own text; what your proof does not reach may be deleted. -/
namespace L2
open PySem PySem.Spec PyProof.Rows

/-- a key: an int or a str -/
abbrev Key := Sum Int Str
def keyIs : Key → Value → Bool
  | .inl k, v => Value.isInt k v
  | .inr x, v => Value.isStrOf x v
def keyH (w : World) : Key → Int
  | .inl k => hashInt k
  | .inr x => hashStr w x
theorem keyIs_shape : ∀ {k : Key} {v : Value}, keyIs k v = true → (∃ i t, k = Sum.inl i ∧ v = Value.int i t) ∨ (∃ x t, k = Sum.inr x ∧ v = Value.str x t)
  | .inl i, v, h => by
    obtain ⟨t, e⟩ := Value.isInt_shape (k := i) (v := v) h
    exact .inl ⟨i, t, rfl, e⟩
  | .inr x, v, h => by
    obtain ⟨t, e⟩ := Value.isStrOf_shape (x := x) (v := v) h
    exact .inr ⟨x, t, rfl, e⟩
theorem key_ll (a b : Int) : decide ((Sum.inl a : Key) = Sum.inl b) = (a == b) := by
  by_cases e : a = b
  · subst e; simp
  · have h : ¬ (Sum.inl a : Key) = Sum.inl b := fun q => e (Sum.inl.inj q)
    rw [decide_eq_false h]
    exact (beq_eq_false_iff_ne.mpr e).symm
theorem key_rr (a b : Str) : decide ((Sum.inr a : Key) = Sum.inr b) = decide (a = b) := by
  by_cases e : a = b
  · subst e; simp
  · have h : ¬ (Sum.inr a : Key) = Sum.inr b := fun q => e (Sum.inr.inj q)
    rw [decide_eq_false h, decide_eq_false e]
theorem key_lr (a : Int) (b : Str) : decide ((Sum.inl a : Key) = Sum.inr b) = false := decide_eq_false (fun q => nomatch q)
theorem key_rl (a : Str) (b : Int) : decide ((Sum.inr a : Key) = Sum.inl b) = false := decide_eq_false (fun q => nomatch q)

def mixKind (prog : Program) (w : World) : PySem.KeyKind prog w Key where
  is := keyIs
  hash := keyH w
  inj := fun v a b ha hb => by
    rcases keyIs_shape ha with ⟨i, t, rfl, rfl⟩ | ⟨x, t, rfl, rfl⟩
    · rcases keyIs_shape hb with ⟨j, u, rfl, e⟩ | ⟨y, u, rfl, e⟩
      · injection e with e1 _; rw [e1]
      · exact nomatch e
    · rcases keyIs_shape hb with ⟨j, u, rfl, e⟩ | ⟨y, u, rfl, e⟩
      · exact nomatch e
      · injection e with e1 _; rw [e1]
  byValue := fun k v h => by
    rcases keyIs_shape h with ⟨i, t, rfl, rfl⟩ | ⟨x, t, rfl, rfl⟩ <;> rfl
  pyHash := fun hv h => by
    rcases keyIs_shape hv with ⟨i, t, rfl, rfl⟩ | ⟨x, t, rfl, rfl⟩
    · exact wpAny_pyHash_int h
    · exact wpAny_pyHash_str h
  eqBool := fun hu hv h => by
    rcases keyIs_shape hu with ⟨i, t, rfl, rfl⟩ | ⟨x, t, rfl, rfl⟩
    · rcases keyIs_shape hv with ⟨j, u, rfl, rfl⟩ | ⟨y, u, rfl, rfl⟩
      · rw [key_ll] at h; exact wpAny_eqBool_int h
      · rw [key_lr] at h; exact SeqAt.EqAt.int_str i t y u _ _ _ _ h
    · rcases keyIs_shape hv with ⟨j, u, rfl, rfl⟩ | ⟨y, u, rfl, rfl⟩
      · rw [key_rl] at h; exact SeqAt.EqAt.str_int x t j u _ _ _ _ h
      · rw [key_rr] at h; exact wpAny_eqBool_str h
  «strs» := fun k x t v h => by
    rcases keyIs_shape h with ⟨i, u, rfl, e⟩ | ⟨y, u, rfl, e⟩
    · exact nomatch e
    · injection e with e1 _
      subst e1
      cases v <;> rfl

end L2

namespace L2
open PySem PySem.Spec PyProof.Rows

/-- a value, without the heap -/
inductive V where
  | non | bl (b : Bool) | int (i : Int) | str (x : Str) | byt (b : Array UInt8) | flt (b : UInt64) | ref (a : Addr) | ty (n : String)
  deriving DecidableEq

def RelV : V → Value → Prop
  | .non, u => u = Value.none
  | .bl b, u => u = Value.bool b
  | .int i, u => ∃ t, u = Value.int i t
  | .str x, u => ∃ t, u = Value.str x t
  | .byt b, u => ∃ t, u = Value.bytes b t
  | .flt b, u => ∃ t, u = Value.float b t
  | .ref a, u => u = Value.ref a
  | .ty n, u => u = Value.type n

abbrev Vals : List V → List Value → Prop := Paired RelV
theorem Vals.length {xs : List V} {us : List Value} (r : Vals xs us) : xs.length = us.length := Paired.length r
theorem Vals.get : ∀ {xs : List V} {us : List Value} {i : Nat} {x : V}, Vals xs us → xs[i]? = some x → ∃ u, us[i]? = some u ∧ RelV x u
  | _, _, _, _, .nil, e => by simp at e
  | _, _, 0, _, .cons r _, e => by simp at e; subst e; exact ⟨_, rfl, r⟩
  | _, _, i + 1, x, .cons _ t, e => by
    obtain ⟨u, h1, h2⟩ := Vals.get (i := i) (x := x) t (by simpa using e)
    exact ⟨u, by simpa using h1, h2⟩
theorem Vals.set {x : V} {u : Value} (r : RelV x u) : ∀ {xs : List V} {us : List Value} (i : Nat), Vals xs us → Vals (xs.set i x) (us.set i u)
  | _, _, _, .nil => .nil
  | _, _, 0, .cons _ t => .cons r t
  | _, _, i + 1, .cons q t => .cons q (Vals.set r i t)
theorem Vals.append : ∀ {xs ys : List V} {us ws : List Value}, Vals xs us → Vals ys ws → Vals (xs ++ ys) (us ++ ws)
  | _, _, _, _, .nil, s => s
  | _, _, _, _, .cons r t, s => .cons r (Vals.append t s)
theorem Vals.take : ∀ {xs : List V} {us : List Value} (n : Nat), Vals xs us → Vals (xs.take n) (us.take n)
  | _, _, 0, _ => .nil
  | _, _, _ + 1, .nil => .nil
  | _, _, n + 1, .cons r t => .cons r (Vals.take n t)
theorem Vals.drop : ∀ {xs : List V} {us : List Value} (n : Nat), Vals xs us → Vals (xs.drop n) (us.drop n)
  | _, _, 0, r => r
  | _, _, _ + 1, .nil => .nil
  | _, _, n + 1, .cons _ t => Vals.drop n t
theorem Vals.none_of : ∀ {xs : List V} {us : List Value} {i : Nat}, Vals xs us → xs[i]? = none → us[i]? = none := fun {xs us i} r e => by
  have h1 := r.length
  have h2 : xs.length ≤ i := List.getElem?_eq_none_iff.mp e
  exact List.getElem?_eq_none_iff.mpr (by omega)

def RelO : Option V → Option Value → Prop
  | some v, some u => RelV v u
  | none, none => True
  | _, _ => False
def KV {κ : Type} : List (κ × V) → List (κ × Value) → Prop := Paired fun (p : κ × V) (q : κ × Value) => p.1 = q.1 ∧ RelV p.2 q.2

/-- a key of a dict (00_mix): an int or a text -/
def kV : Key → V
  | .inl i => .int i
  | .inr x => .str x

/-- what stands at a tracked address -/
inductive HO where
  /-- a list -/
  | lst (xs : List V)
  /-- a tuple (never changes) -/
  | tup (xs : List V)
  /-- a dict whose keys are ints and texts; one whose keys are tuples of ints and texts (the empty one is both) -/
  | dK (kvs : List (Key × V)) | dT (kvs : List (List Key × V))
  /-- a set of ints: its members, its size -/
  | set (S : Int → Bool) (n : Nat)
  /-- an instance of the class at C, its dict at dx, its attributes -/
  | ins (C dx : Addr) (fs : List (Str × V))
  /-- the dict of the instance at x -/
  | own (x : Addr)
  /-- the dict of an exception -/
  | xd (fs : List (Str × V))
  /-- a bound method, f of x -/
  | met (f x : Addr)
  /-- a range object lo, lo + 1, .. below hi -/
  | rng (lo hi : Int)
  /-- a thing that is known to the object (the script; a dict while a loop walks it): read, never written while it is so -/
  | frz (o : Obj) (u : HO)
  /-- a code object's table -/
  | tbl (ps : Array Value)
  /-- any other thing, by what is true of its one object (a def of one's own: SetO a S n := HO.ext fun h => ..) -/
  | ext (φ : Heap → Prop)

abbrev Hp := Addr → Option HO
def upd (H : Hp) (a : Addr) (o : HO) : Hp := fun b => if b = a then some o else H b
theorem upd_same {H : Hp} {a : Addr} {o : HO} : upd H a o a = some o := by unfold upd; rw [if_pos rfl]
theorem upd_ne {H : Hp} {a b : Addr} {o : HO} (h : b ≠ a) : upd H a o b = H b := by unfold upd; rw [if_neg h]
/-- two objects of different content stand apart -/
theorem ne_of {H : Hp} {a b : Addr} {o u : HO} (h : H a = some o) (h' : H b = some u) (d : o ≠ u) : a ≠ b := by
  intro e; subst e; rw [h] at h'; exact d (Option.some.inj h')
theorem ne_of_none {H : Hp} {a b : Addr} {o : HO} (h : H a = some o) (h' : H b = none) : a ≠ b := by
  intro e; subst e; rw [h] at h'; cases h'

section
variable (P : Program) (w : World)
def ObjOk (H : Hp) (h : Heap) (a : Addr) : HO → Prop
  | .lst xs => xs.length ≤ sizeLine ∧ ∃ (its : List Value) (n : Nat), Vals xs its ∧ h.get? a = some { cls := .type "list", data := .seq its.toArray n }
  | .tup xs => xs.length ≤ sizeLine ∧ ∃ its : List Value, Vals xs its ∧ IsTup h a its.toArray
  | .dK kvs => kvs.length ≤ sizeLine ∧ (a == sysModules) = false ∧ ∃ vs, KV kvs vs ∧ h.DictOf (mixKind P w) a vs
  | .dT kvs => kvs.length ≤ sizeLine ∧ (a == sysModules) = false ∧ ∃ xs : List (List Key × Addr × Value),
      Paired (fun (p : List Key × V) (q : List Key × Addr × Value) => p.1 = q.1 ∧ H q.2.1 = some (.tup (p.1.map kV)) ∧ RelV p.2 q.2.2) kvs xs ∧
      ∃ o es ep, h.get? a = some o ∧ o.ExactDict ∧ o.data = .dict es ep ∧ es.toList = xs.map (entryOfKey (tupleKind (mixKind P w))) ∧ (xs.map (·.1)).Nodup
  | .set S n => h.SetOf (intKind P w) a S n
  | .ins C dx fs => H dx = some (.own a) ∧ fs.length ≤ 1000 ∧ dx ≠ a ∧ h.get? a = some (PySem.W.instObj C dx) ∧
      ∃ mA, h.Ns1 dx mA ∧ (∀ f, RelO (fs.lookup f) (mA f)) ∧ PySem.Within mA (fs.map (·.1))
  | .own _ => ∃ o, h.get? a = some o
  | .xd fs => ∃ mA, h.Ns1 a mA ∧ ∀ f, RelO (fs.lookup f) (mA f)
  | .rng lo hi => ∃ t u v, h.get? a = some { cls := .type "range", data := .fields #[.int lo t, .int hi u, .int 1 v] }
  | .frz o u => h.get? a = some o ∧ ObjOk H h a u
  | .tbl ps => h.get? a = some { cls := .none, data := .fields ps }
  | .met f x => h.get? a = some (PySem.W.methodObj (.ref f) (.ref x))
  | .ext φ => φ h ∧ (∃ o, h.get? a = some o) ∧ ∀ h1 h2 : Heap, φ h1 → (∀ o, h1.get? a = some o → h2.get? a = some o) → φ h2
/-- the abstract heap is held -/
def HOk (H : Hp) (h : Heap) : Prop := ∀ a o, H a = some o → ObjOk P w H h a o
end

section
variable {P : Program} {w : World} {H H' : Hp} {h h' : Heap} {a : Addr} {o : HO}
theorem ObjOk.lt (x : ObjOk P w H h a o) : a < h.objs.size := by
  cases o with
  | lst xs => obtain ⟨_, _, _, _, e⟩ := x; exact Heap.lt_size e
  | tup xs => obtain ⟨_, _, _, p⟩ := x; exact p.lt
  | dK kvs => obtain ⟨_, _, _, _, o, _, _, e, _⟩ := x; exact Heap.lt_size e
  | dT kvs => obtain ⟨_, _, _, _, o, _, _, e, _⟩ := x; exact Heap.lt_size e
  | set S n => obtain ⟨o, _, _, _, e, _⟩ := x; exact Heap.lt_size e
  | ins C dx fs => obtain ⟨_, _, _, e, _⟩ := x; exact Heap.lt_size e
  | own y => obtain ⟨_, e⟩ := x; exact Heap.lt_size e
  | xd fs => obtain ⟨_, ⟨_, _, _, e, _⟩, _⟩ := x; exact Heap.lt_size e
  | rng lo hi => obtain ⟨_, _, _, e⟩ := x; exact Heap.lt_size e
  | frz ob u => obtain ⟨e, _⟩ := x; exact Heap.lt_size e
  | tbl ps => exact Heap.lt_size (show h.get? a = some _ from x)
  | met f y => exact Heap.lt_size (show h.get? a = some _ from x)
  | ext φ => obtain ⟨_, ⟨_, e⟩, _⟩ := x; exact Heap.lt_size e
theorem Paired.mapP {α β : Type} {F G : α → β → Prop} : ∀ {l₁ : List α} {l₂ : List β}, Paired F l₁ l₂ → (∀ a b, F a b → G a b) → Paired G l₁ l₂
  | _, _, .nil, _ => .nil
  | _, _, .cons r t, f => .cons (f _ _ r) (Paired.mapP t f)
/-- what an object's description leans on: its own object, its own dict, the tuples -/
theorem ObjOk.stay (x : ObjOk P w H h a o) (k : ∀ b u, (b = a ∨ H b = some (.own a)) → h.get? b = some u → h'.get? b = some u)
    (ho : ∀ b, H b = some (.own a) → H' b = some (.own a)) (ht : ∀ b xs, H b = some (.tup xs) → H' b = some (.tup xs)) : ObjOk P w H' h' a o := by
  induction o with
  | lst xs => obtain ⟨z, its, n, r, e⟩ := x; exact ⟨z, its, n, r, k _ _ (.inl rfl) e⟩
  | tup xs => obtain ⟨z, its, r, ob, e, c⟩ := x; exact ⟨z, its, r, ob, k _ _ (.inl rfl) e, c⟩
  | dK kvs => obtain ⟨z, y, vs, r, ob, es, ep, e, c⟩ := x; exact ⟨z, y, vs, r, ob, es, ep, k _ _ (.inl rfl) e, c⟩
  | dT kvs =>
    obtain ⟨z, y, xs, r, ob, es, ep, e, c⟩ := x
    exact ⟨z, y, xs, Paired.mapP r fun p q z => ⟨z.1, ht _ _ z.2.1, z.2.2⟩, ob, es, ep, k _ _ (.inl rfl) e, c⟩
  | set S n => obtain ⟨ob, es, ep, t, e, c⟩ := x; exact ⟨ob, es, ep, t, k _ _ (.inl rfl) e, c⟩
  | ins C dx fs =>
    obtain ⟨d, z, ne, e, mA, ⟨od, es, ep, e2, c⟩, r⟩ := x
    exact ⟨ho _ d, z, ne, k _ _ (.inl rfl) e, mA, ⟨od, es, ep, k _ _ (.inr d) e2, c⟩, r⟩
  | own y => obtain ⟨ob, e⟩ := x; exact ⟨ob, k _ _ (.inl rfl) e⟩
  | xd fs => obtain ⟨mA, ⟨od, es, ep, e, c⟩, r⟩ := x; exact ⟨mA, ⟨od, es, ep, k _ _ (.inl rfl) e, c⟩, r⟩
  | rng lo hi => obtain ⟨t, u, v, e⟩ := x; exact ⟨t, u, v, k _ _ (.inl rfl) e⟩
  | frz ob u ih => obtain ⟨e, q⟩ := x; exact ⟨k _ _ (.inl rfl) e, ih q⟩
  | tbl ps =>
    have e : h.get? a = some { cls := .none, data := .fields ps } := x
    show h'.get? a = some { cls := .none, data := .fields ps }
    exact k a _ (.inl rfl) e
  | met f y =>
    have e : h.get? a = some (PySem.W.methodObj (.ref f) (.ref y)) := x
    show h'.get? a = some (PySem.W.methodObj (.ref f) (.ref y))
    exact k a _ (.inl rfl) e
  | ext φ => obtain ⟨p, ⟨o, e⟩, st⟩ := x; exact ⟨st _ _ p fun o q => k _ _ (.inl rfl) q, ⟨o, k _ _ (.inl rfl) e⟩, st⟩
theorem HOk.lt (x : HOk P w H h) (e : H a = some o) : a < h.objs.size := (x a o e).lt
theorem HOk.fresh (x : HOk P w H h) (e : h.objs.size ≤ a) : H a = none := by
  cases q : H a with
  | none => rfl
  | some u => exact absurd (Nat.lt_of_lt_of_le (x.lt q) e) (Nat.lt_irrefl _)
/-- every object of the heap is kept -/
theorem HOk.kept (x : HOk P w H h) (k : ∀ b u, h.get? b = some u → h'.get? b = some u) : HOk P w H h' := fun a o e =>
  (x a o e).stay (fun b u _ q => k b u q) (fun _ q => q) fun _ _ q => q
/-- a new object is laid and tracked -/
theorem HOk.laid (x : HOk P w H h) (k : ∀ b u, h.get? b = some u → h'.get? b = some u) (hp : h.objs.size ≤ a) (new : ObjOk P w (upd H a o) h' a o) : HOk P w (upd H a o) h' := fun b u e => by
  have hn := x.fresh hp
  by_cases hb : b = a
  · subst hb; rw [upd_same] at e; cases e; exact new
  · rw [upd_ne hb] at e
    exact (x b u e).stay (fun c v _ q => k c v q) (fun c q => by rw [upd_ne (ne_of_none q hn)]; exact q) fun c xs q => by rw [upd_ne (ne_of_none q hn)]; exact q
end

/-- what may be read as u: it is u, or a known u -/
def Rd (H : Hp) (a : Addr) (u : HO) : Prop := H a = some u ∨ ∃ o, H a = some (.frz o u)
theorem Rd.of {H : Hp} {a : Addr} {u : HO} (h : H a = some u) : Rd H a u := .inl h
theorem Rd.ok {P : Program} {w : World} {H : Hp} {h : Heap} {a : Addr} {u : HO} (r : Rd H a u) (x : HOk P w H h) : ObjOk P w H h a u := by
  rcases r with r | ⟨o, r⟩
  · exact x a u r
  · obtain ⟨_, q⟩ := x a _ r
    exact q
/-- what may be written -/
def Mut : Option HO → Prop
  | some (.lst _) => True
  | some (.dK _) => True
  | some (.dT _) => True
  | some (.set _ _) => True
  | some (.ins _ _ _) => True
  | some (.ext _) => True
  | _ => False
section
variable {P : Program} {w : World} {H : Hp} {h h' : Heap} {x e : Addr} {o' : HO}
/-- the object at e is changed: x itself, or the dict of the instance x -/
theorem HOk.write (ok : HOk P w H h) (mu : Mut (H x)) (he : e = x ∨ H e = some (.own x)) (k : ∀ b u, b ≠ e → h.get? b = some u → h'.get? b = some u) (heo : ∃ u, h'.get? e = some u)
    (new : ObjOk P w (upd H x o') h' x o') : HOk P w (upd H x o') h' := fun b u q => by
  have nown : ∀ c y, H c = some (.own y) → c ≠ x := fun c y r z => by subst z; rw [r] at mu; exact mu
  have ntup : ∀ c xs, H c = some (.tup xs) → c ≠ x := fun c xs r z => by subst z; rw [r] at mu; exact mu
  by_cases hb : b = x
  · subst hb; rw [upd_same] at q; cases q; exact new
  · rw [upd_ne hb] at q
    by_cases hbe : b = e
    · have q' : H b = some (.own x) := by
        rcases he with z | z
        · exact absurd (hbe.trans z) hb
        · rw [hbe]; exact z
      rw [q] at q'; cases q'
      obtain ⟨v, hv⟩ := heo
      exact ⟨v, by rw [hbe]; exact hv⟩
    · refine (ok b u q).stay (fun c v hc r => k c v ?_ r) (fun c r => by rw [upd_ne (nown c b r)]; exact r) fun c xs r => by rw [upd_ne (ntup c xs r)]; exact r
      rcases hc with rfl | hc
      · exact hbe
      · rintro rfl
        rcases he with z | z
        · exact nown c b hc z
        · rw [hc] at z; cases z; exact hb rfl
end

/-! ### kept unless tracked; of the frames at fs (the callers') the slots may change (an exception that passes writes there); of the records at ex (iterators) nothing is said -/
structure Un (fs ex : List Addr) (H H' : Hp) (h h' : Heap) : Prop where
  keep : ∀ b o, h.get? b = some o → H b = none → b ∉ fs → b ∉ ex → h'.get? b = some o
  slot : ∀ b o, h.get? b = some o → H b = none → b ∈ fs → b ∉ ex → ∃ sl, h'.get? b = some { o with slots := sl }
  free : ∀ b o, h.get? b = some o → H b = none → b ∉ ex → H' b = none
  there : ∀ b o, h.get? b = some o → b ∉ ex → ∃ o', h'.get? b = some o'
  tups : ∀ b xs, H b = some (.tup xs) → H' b = some (.tup xs)
  frzs : ∀ b o u, H b = some (.frz o u) → H' b = some (.frz o u)
  tbls : ∀ b ps, H b = some (.tbl ps) → ∃ more, H' b = some (.tbl (ps ++ more))
section
variable {fs fs' ex ex' : List Addr} {H H1 H2 : Hp} {h h1 h2 h' : Heap} {a x e : Addr} {o : HO}
theorem Un.any (u : Un fs ex H H1 h h1) {b : Addr} {ob : Obj} (q : h.get? b = some ob) (n : H b = none) (hx : b ∉ ex) : ∃ sl, h1.get? b = some { ob with slots := sl } := by
  by_cases hb : b ∈ fs
  · exact u.slot b ob q n hb hx
  · exact ⟨ob.slots, u.keep b ob q n hb hx⟩
theorem Un.trans (a : Un fs ex H H1 h h1) (b : Un fs ex H1 H2 h1 h2) : Un fs ex H H2 h h2 where
  keep := fun c ob q n hc hx => b.keep c ob (a.keep c ob q n hc hx) (a.free c ob q n hx) hc hx
  slot := fun c ob q n hc hx => by
    obtain ⟨sl, e1⟩ := a.slot c ob q n hc hx
    obtain ⟨sl', e2⟩ := b.slot c _ e1 (a.free c ob q n hx) hc hx
    exact ⟨sl', e2⟩
  free := fun c ob q n hx => by
    obtain ⟨o', e1⟩ := a.there c ob q hx
    exact b.free c o' e1 (a.free c ob q n hx) hx
  there := fun c ob q hx => by
    obtain ⟨o', e1⟩ := a.there c ob q hx
    exact b.there c o' e1 hx
  tups := fun c xs q => b.tups c xs (a.tups c xs q)
  frzs := fun c ob xs q => b.frzs c ob xs (a.frzs c ob xs q)
  tbls := fun c ps q => by
    obtain ⟨m1, e1⟩ := a.tbls c ps q
    obtain ⟨m2, e2⟩ := b.tbls c _ e1
    exact ⟨m1 ++ m2, by rw [e2, Array.append_assoc]⟩
theorem Un.kept (k : ∀ b u, h.get? b = some u → h'.get? b = some u) : Un fs ex H H h h' :=
  ⟨fun b ob q _ _ _ => k b ob q, fun b ob q _ _ _ => ⟨ob.slots, k b ob q⟩, fun _ _ _ n _ => n, fun b ob q _ => ⟨ob, k b ob q⟩, fun _ _ q => q, fun _ _ _ q => q, fun _ ps q => ⟨#[], by rw [q]; simp⟩⟩
theorem Un.refl : Un fs ex H H h h := Un.kept fun _ _ q => q
theorem Un.laid (k : ∀ b u, h.get? b = some u → h'.get? b = some u) (hp : h.objs.size ≤ a) (hn : H a = none) : Un fs ex H (upd H a o) h h' where
  keep := fun b u q _ _ _ => k b u q
  slot := fun b u q _ _ _ => ⟨u.slots, k b u q⟩
  free := fun b u q n _ => by rw [upd_ne (Nat.ne_of_lt (Nat.lt_of_lt_of_le (Heap.lt_size q) hp))]; exact n
  there := fun b u q _ => ⟨u, k b u q⟩
  tups := fun b xs q => by rw [upd_ne (ne_of_none q hn)]; exact q
  frzs := fun b u xs q => by rw [upd_ne (ne_of_none q hn)]; exact q
  tbls := fun b ps q => ⟨#[], by rw [upd_ne (ne_of_none q hn), q]; simp⟩
theorem Un.write (mu : Mut (H x)) (he : e = x ∨ H e = some (.own x)) (k : ∀ b u, b ≠ e → h.get? b = some u → h'.get? b = some u) (heo : ∃ u, h'.get? e = some u) : Un fs ex H (upd H x o) h h' := by
  have hx : ∀ b, H b = none → b ≠ x := fun b n z => by subst z; rw [n] at mu; exact mu
  have hb : ∀ b, H b = none → b ≠ e := fun b n z => by
    subst z
    rcases he with r | r
    · exact hx b n r
    · rw [n] at r; cases r
  have hm : ∀ b u, H b = some u → ¬ Mut (some u) → b ≠ x := fun b u q nm z => by subst z; rw [q] at mu; exact nm mu
  refine ⟨fun b u q n _ _ => k b u (hb b n) q, fun b u q n _ _ => ⟨u.slots, k b u (hb b n) q⟩, fun b u q n _ => by rw [upd_ne (hx b n)]; exact n, fun b u q _ => ?_,
    fun b xs q => by rw [upd_ne (hm b _ q fun z => z)]; exact q, fun b u xs q => by rw [upd_ne (hm b _ q fun z => z)]; exact q, fun b ps q => ⟨#[], by rw [upd_ne (hm b _ q fun z => z), q]; simp⟩⟩
  by_cases hbe : b = e
  · subst hbe; exact heo
  · exact ⟨u, k b u hbe q⟩
theorem Un.mono (u : Un fs ex H H1 h h1) (hs : ∀ b ∈ fs, b ∈ fs') (hx : ∀ b ∈ ex, b ∈ ex') : Un fs' ex' H H1 h h1 :=
  ⟨fun b ob q n hb he => u.keep b ob q n (fun z => hb (hs b z)) fun z => he (hx b z), fun _ _ q n _ he => u.any q n fun z => he (hx _ z), fun b ob q n he => u.free b ob q n fun z => he (hx b z), fun b ob q he => u.there b ob q fun z => he (hx b z), u.tups, u.frzs, u.tbls⟩
end

/-! ### the heap without what is tracked -/
def trk (h : Heap) (H : Hp) : List Addr := (List.range h.objs.size).filter fun a => (H a).isSome
def hidT (h : Heap) (H : Hp) : Heap := PySem.W.hideAll h (trk h H)
theorem hidT_size (h : Heap) (H : Hp) : (hidT h H).objs.size = h.objs.size := PySem.W.hideAll_size _ _
theorem hidT_get {h : Heap} {H : Hp} {b : Addr} {o : Obj} (e : h.get? b = some o) (n : H b = none) : (hidT h H).get? b = some o :=
  PySem.W.hideAll_get _ e fun hm => by
    have q : (H b).isSome = true := (List.mem_filter.mp hm).2
    rw [n] at q; simp at q
theorem of_hidT {h : Heap} {H : Hp} {b : Addr} {o : Obj} (e : (hidT h H).get? b = some o) : h.get? b = some o ∧ H b = none := by
  have e' : h.get? b = some o := PySem.W.of_hideAll (trk h H) e
  refine ⟨e', ?_⟩
  cases q : H b with
  | none => rfl
  | some x =>
    have hm : b ∈ trk h H := List.mem_filter.mpr ⟨List.mem_range.mpr (Heap.lt_size e'), by simp [q]⟩
    have z : (hidT h H).get? b = none := PySem.W.hideAll_none (trk h H) hm
    rw [z] at e; cases e

/-! ### OpenK's ledger, filled with every new object but one -/
def allNews (g h : Heap) (L : Addr) : List (Addr × Obj) := (List.range h.objs.size).filterMap fun a => if a = L ∨ (g.get? a).isSome = true then none else (h.get? a).map fun o => (a, o)
def rest (g h : Heap) (L d : Addr) : List (Addr × Obj) := (allNews g h L).filter fun p => decide (p.1 ≠ d)
end L2

namespace L2
open PySem PySem.Spec PyProof.Rows

/-- the module's facts, over the base: the heap at the law's entry without what is tracked there -/
structure Mod (K : PySem.W.Frag) (mg : Str → Option Value) (base : Heap) : Prop where
  kin : K.In base
  glob : base.Ns mainGlobals mg
  blt : ∃ mb, base.Ns builtinsNs mb ∧ ∀ x : Str, x ≠ "__name__" → mb x = bootBuiltins x
  nolimit : base.NoLimit

/-- the context: a def's body (or a comprehension's block) running. base: fixed through the whole law; s₀, H₀: the entry; outer: the frames whose slots others may change (a def's callers); stack: all frames that run;
   ex: iterators that were made ahead of the entry and are walked here (a comprehension's); fn: the names whose cells were made at the entry (a def: all; a comprehension's block: its own); calm: not within an except suite; pn: pins that every state bears; xe: what is wanted of an exception that leaves the code -/
structure Cx where
  prog : Program
  w : World
  K : PySem.W.Frag
  mg : Str → Option Value
  base : Heap
  A : Around
  N : List Str
  s₀ : Shared
  H₀ : Hp
  env : Env
  outer : List Env
  stack : List Env
  ex : List Addr
  fn : Str → Bool
  calm : Bool
  pn : List (Addr × Obj)
  xe : Value → Shared → Prop
/-- the callers' frames -/
def frs (l : List Env) : List Addr := l.filterMap (·.frame)
abbrev Cx.fs (X : Cx) : List Addr := frs X.outer

def Vis (sc : Scope) (x : Str) : Prop := sc.names.lookup x = some .local ∨ sc.names.lookup x = some .cell ∨ sc.names.lookup x = some .free
def Loc (sc : Scope) (x : Str) : Prop := sc.names.lookup x = some .local ∨ sc.names.lookup x = some .cell
def Look (env : Env) (h : Heap) (m : Str → Option Value) (x : Str) (u : Value) : Prop :=
  (env.kindOf x = some .local ∧ m x = some u) ∨ ((env.kindOf x = some .cell ∨ env.kindOf x = some .free) ∧ ∃ c, env.cells.lookup x = some c ∧ h.IsCell c (some u))

structure Cx.Ok (X : Cx) : Prop where
  mod : Mod X.K X.mg X.base
  kind : X.env.scope.kind = .function
  glob : X.env.globals = mainGlobals
  blt : X.env.builtins = builtinsNs
  above : X.s₀.heap.objs.size ≤ X.env.locals
  inj : ∀ x y c, X.env.cells.lookup x = some c → X.env.cells.lookup y = some c → x = y
  has : ∀ x, (X.env.kindOf x = some .cell ∨ X.env.kindOf x = some .free) → ∃ c, X.env.cells.lookup x = some c
  cab : ∀ x c, X.fn x = true → X.env.cells.lookup x = some c → X.s₀.heap.objs.size ≤ c
  hd : X.calm = true → X.A.handled = none
  frames : X.A.frames = some X.stack
  stk : X.stack = X.outer ∨ (X.stack = X.env :: X.outer ∧ X.env.frame = some X.env.locals)
  exf : ∀ b ∈ X.ex, b ≠ X.env.locals ∧ ∀ x c, X.env.cells.lookup x = some c → c ≠ b
  bs : ∀ b o, X.base.get? b = some o → X.s₀.heap.get? b = some o ∧ X.H₀ b = none
  bsz : X.base.objs.size ≤ X.s₀.heap.objs.size
  noex : ∀ b o, X.base.get? b = some o → b ∉ X.ex
  exfs : ∀ b ∈ X.ex, b ∉ X.fs
  funs : X.s₀.heap.FunFrames X.base X.outer
  frf : ∀ b ∈ X.fs, X.H₀ b = none

structure Inv (X : Cx) (pins : List (Addr × Obj)) (σ : List (Option V)) (H : Hp) (s : Shared) : Prop where
  ok : X.Ok
  os : s.os = X.s₀.os
  bare : AllBare s.gens
  base : Un X.fs X.ex X.H₀ H X.s₀.heap s.heap
  loc : ∃ m, s.heap.Ns X.env.locals m ∧ ∀ (i : Nat) (x : Str) (v : V), X.N[i]? = some x → σ[i]? = some (some v) → Vis X.env.scope x → ∃ u, RelV v u ∧ Look X.env s.heap m x u
  cell : ∀ x c, X.env.cells.lookup x = some c → ∃ v, s.heap.IsCell c v
  free : H X.env.locals = none
  freeC : ∀ x c, X.env.cells.lookup x = some c → H c = none
  pin : ∀ p ∈ X.pn ++ pins, s.heap.get? p.1 = some p.2 ∧ H p.1 = none ∧ p.1 ≠ X.env.locals ∧ p.1 ∉ X.fs ∧ ∀ v, p.2.data ≠ .cell v
  hok : HOk X.prog X.w H s.heap
  len : σ.length = X.N.length

section
variable {X : Cx} {pins : List (Addr × Obj)} {σ : List (Option V)} {H H' : Hp} {s : Shared} {h' : Heap}

theorem Cx.Ok.nofr (ok : X.Ok) {b : Addr} {o : Obj} (e : X.base.get? b = some o) : b ∉ X.fs := fun hb => by
  have := (ok.funs.mem hb).1
  rw [e] at this; cases this
theorem Inv.bs (I : Inv X pins σ H s) : ∀ b o, X.base.get? b = some o → s.heap.get? b = some o ∧ H b = none := fun b o e =>
  ⟨I.base.keep b o (I.ok.bs b o e).1 (I.ok.bs b o e).2 (I.ok.nofr e) (I.ok.noex b o e), I.base.free b o (I.ok.bs b o e).1 (I.ok.bs b o e).2 (I.ok.noex b o e)⟩
theorem Inv.bk (I : Inv X pins σ H s) : ∀ b o, X.base.get? b = some o → s.heap.get? b = some o := fun b o e => (I.bs b o e).1
theorem Inv.mod (I : Inv X pins σ H s) : Mod X.K X.mg X.base := I.ok.mod
theorem Inv.kIn (I : Inv X pins σ H s) : X.K.In s.heap := I.ok.mod.kin.keeps I.bk
theorem Inv.nolimit (I : Inv X pins σ H s) : s.heap.NoLimit := I.ok.mod.nolimit.keeps I.bk
/-- the frame over the base: for OpenK's rules (K.In X.base is I.mod.kin) -/
theorem Inv.fr (I : Inv X pins σ H s) : ∃ m, Fr X.base X.env.locals s.heap m :=
  let ⟨m, hn, _⟩ := I.loc
  ⟨m, hn, I.bk, Nat.le_trans I.ok.bsz I.ok.above⟩
theorem Inv.lt (I : Inv X pins σ H s) : X.env.locals < s.heap.objs.size := let ⟨_, hn, _⟩ := I.loc; hn.lt
theorem Inv.sz (I : Inv X pins σ H s) : X.s₀.heap.objs.size ≤ s.heap.objs.size := Nat.le_trans I.ok.above (Nat.le_of_lt I.lt)
theorem Inv.nofs (I : Inv X pins σ H s) {a : Addr} (h : s.heap.objs.size ≤ a) : a ∉ X.fs := fun hb => by
  obtain ⟨_, o, ho, _⟩ := I.ok.funs.mem hb
  exact absurd (Nat.lt_of_lt_of_le (Heap.lt_size ho) (Nat.le_trans I.sz h)) (Nat.lt_irrefl _)
theorem Inv.cne (I : Inv X pins σ H s) : ∀ x c, X.env.cells.lookup x = some c → c ≠ X.env.locals := fun x c e z => by
  obtain ⟨v, o, ho, hd⟩ := I.cell x c e
  obtain ⟨m, ⟨o', es, ep, ho', hd', _⟩, _⟩ := I.loc
  rw [z, ho'] at ho; cases ho; rw [hd'] at hd; cases hd
theorem Inv.funs (I : Inv X pins σ H s) : s.heap.FunFrames X.base X.outer := by
  have all : ∀ (l : List Env), (∀ b ∈ frs l, b ∈ X.fs) → X.s₀.heap.FunFrames X.base l → s.heap.FunFrames X.base l := by
    intro l
    induction l with
    | nil => intro _ _; trivial
    | cons env r ih =>
      intro hs hl
      obtain ⟨hk, ⟨L, o, hf, hn, ho, hd⟩, hr⟩ := hl
      have hL : L ∈ X.fs := hs L (by unfold frs; rw [List.filterMap_cons, hf]; exact List.mem_cons_self)
      obtain ⟨sl, e⟩ := I.base.slot L o ho (I.ok.frf L hL) hL fun z => I.ok.exfs L z hL
      exact ⟨hk, ⟨L, _, hf, hn, e, hd⟩, ih (fun b hb => hs b (by unfold frs; rw [List.filterMap_cons, hf]; exact List.mem_cons_of_mem _ hb)) hr⟩
  exact all X.outer (fun _ hb => hb) I.ok.funs

/-- the frames that run, for a call -/
theorem Inv.stack (I : Inv X pins σ H s) : s.heap.FunFrames X.base X.stack := by
  rcases I.ok.stk with e | ⟨e, hf⟩
  · rw [e]; exact I.funs
  · rw [e]
    obtain ⟨m, hn, _⟩ := I.loc
    refine .cons (by rw [I.ok.kind]; decide) hf hn ?_ I.funs
    exact Heap.get?_none_of_le (Nat.le_trans I.ok.bsz I.ok.above)
theorem Inv.stkSub (I : Inv X pins σ H s) : ∀ b ∈ frs X.stack, b ∈ X.env.locals :: X.fs := fun b hb => by
  rcases I.ok.stk with e | ⟨e, hf⟩
  · rw [e] at hb; exact List.mem_cons_of_mem _ hb
  · rw [e] at hb
    unfold frs at hb
    rw [List.filterMap_cons, hf] at hb
    exact hb
theorem Inv.stkFree (I : Inv X pins σ H s) : ∀ b ∈ frs X.stack, H b = none := fun b hb => by
  rcases List.mem_cons.mp (I.stkSub b hb) with e | hb
  · rw [e]; exact I.free
  · obtain ⟨_, o, ho, _⟩ := I.ok.funs.mem hb
    exact I.base.free b o ho (I.ok.frf b hb) fun z => I.ok.exfs b z hb

/-- THE STEP: the untracked objects but the frame and the records at ch are kept (the callers' frames up to slots), the frame's map is kept, the new abstract heap is held -/
theorem Inv.step {g' : Array GenState} {t' : Nat} {d' : Drawn} {ch : List Addr} (I : Inv X pins σ H s)
    (hch : ∀ b ∈ ch, (b ∈ X.ex ∨ X.s₀.heap.objs.size ≤ b) ∧ b ≠ X.env.locals ∧ (∀ x c, X.env.cells.lookup x = some c → c ≠ b) ∧ ∀ p ∈ X.pn ++ pins, p.1 ≠ b)
    (keep : ∀ b o, b ≠ X.env.locals → b ∉ X.fs → b ∉ ch → s.heap.get? b = some o → H b = none → h'.get? b = some o)
    (slot : ∀ b o, b ≠ X.env.locals → b ∈ X.fs → b ∉ ch → s.heap.get? b = some o → H b = none → ∃ sl, h'.get? b = some { o with slots := sl }) (free : ∀ b o, b ∉ ch → s.heap.get? b = some o → H b = none → H' b = none)
    (there : ∀ b o, b ∉ ch → s.heap.get? b = some o → ∃ o', h'.get? b = some o')
    (tups : ∀ b xs, H b = some (.tup xs) → H' b = some (.tup xs)) (frzs : ∀ b o u, H b = some (.frz o u) → H' b = some (.frz o u)) (tbls : ∀ b ps, H b = some (.tbl ps) → ∃ more, H' b = some (.tbl (ps ++ more)))
    (ns : ∀ m, s.heap.Ns X.env.locals m → h'.Ns X.env.locals m) (hok : HOk X.prog X.w H' h') (hg : AllBare g') :
    Inv X pins σ H' { s with heap := h', gens := g', drawn := d', toks := t' } := by
  have neL : ∀ b o, X.s₀.heap.get? b = some o → b ≠ X.env.locals := fun b o e => Nat.ne_of_lt (Nat.lt_of_lt_of_le (Heap.lt_size e) I.ok.above)
  have neC : ∀ b o, X.s₀.heap.get? b = some o → b ∉ X.ex → b ∉ ch := fun b o e hx hb => by
    rcases (hch b hb).1 with z | z
    · exact hx z
    · exact absurd (Nat.lt_of_lt_of_le (Heap.lt_size e) z) (Nat.lt_irrefl _)
  have cellK : ∀ x c, X.env.cells.lookup x = some c → ∀ v, s.heap.IsCell c v → h'.IsCell c v := fun x c e v ⟨o, ho, hd⟩ => by
    have nch : c ∉ ch := fun z => (hch c z).2.2.1 x c e rfl
    by_cases hc : c ∈ X.fs
    · obtain ⟨sl, q⟩ := slot c o (I.cne x c e) hc nch ho (I.freeC x c e)
      exact ⟨_, q, hd⟩
    · exact ⟨o, keep c o (I.cne x c e) hc nch ho (I.freeC x c e), hd⟩
  refine ⟨I.ok, I.os, hg, ⟨fun b o e n hb hx => ?_, fun b o e n hb hx => ?_, fun b o e n hx => ?_, fun b o e hx => ?_, fun b xs e => tups b xs (I.base.tups b xs e), fun b o xs e => frzs b o xs (I.base.frzs b o xs e), fun b ps e => ?_⟩, ?_, fun x c e => ?_, ?_, fun x c e => ?_, fun p hp => ?_, hok, I.len⟩
  · exact keep b o (neL b o e) hb (neC b o e hx) (I.base.keep b o e n hb hx) (I.base.free b o e n hx)
  · obtain ⟨sl, e1⟩ := I.base.slot b o e n hb hx
    obtain ⟨sl', e2⟩ := slot b _ (neL b o e) hb (neC b o e hx) e1 (I.base.free b o e n hx)
    exact ⟨sl', e2⟩
  · obtain ⟨o', e1⟩ := I.base.there b o e hx
    exact free b o' (neC b o e hx) e1 (I.base.free b o e n hx)
  · obtain ⟨o', e1⟩ := I.base.there b o e hx
    exact there b o' (neC b o e hx) e1
  · obtain ⟨m1, e1⟩ := I.base.tbls b ps e
    obtain ⟨m2, e2⟩ := tbls b _ e1
    exact ⟨m1 ++ m2, by rw [e2, Array.append_assoc]⟩
  · obtain ⟨m, hn, hl⟩ := I.loc
    refine ⟨m, ns m hn, fun i x v e1 e2 e3 => ?_⟩
    obtain ⟨u, r, l⟩ := hl i x v e1 e2 e3
    refine ⟨u, r, ?_⟩
    rcases l with l | ⟨k, c, e, z⟩
    · exact .inl l
    · exact .inr ⟨k, c, e, cellK x c e _ z⟩
  · obtain ⟨v, z⟩ := I.cell x c e
    exact ⟨v, cellK x c e v z⟩
  · obtain ⟨m, ⟨o, _, _, ho, _⟩, _⟩ := I.loc
    exact free _ o (fun z => (hch _ z).2.1 rfl) ho I.free
  · obtain ⟨v, o, ho, hd⟩ := I.cell x c e
    exact free c o (fun z => (hch c z).2.2.1 x c e rfl) ho (I.freeC x c e)
  · obtain ⟨e, n, ne, nf, d⟩ := I.pin p hp
    have nch : p.1 ∉ ch := fun z => (hch p.1 z).2.2.2 p hp rfl
    exact ⟨keep p.1 p.2 ne nf nch e n, free p.1 p.2 nch e n, ne, nf, d⟩
/-- .. where the frame's own object is kept too -/
theorem Inv.un {t' : Nat} (I : Inv X pins σ H s) (u : Un X.fs [] H H' s.heap h') (hok : HOk X.prog X.w H' h') : Inv X pins σ H' { s with heap := h', toks := t' } := by
  obtain ⟨m, ⟨o, es, ep, ho, r⟩, _⟩ := id I.loc
  obtain ⟨sl, hL⟩ := u.any ho I.free (by simp)
  exact I.step (g' := s.gens) (d' := s.drawn) (ch := []) (fun _ z => nomatch z) (fun b o _ hb _ e n => u.keep b o e n hb (by simp)) (fun b o _ hb _ e n => u.slot b o e n hb (by simp)) (fun b o _ e n => u.free b o e n (by simp)) (fun b o _ e => u.there b o e (by simp)) u.tups u.frzs u.tbls (fun m' hm => by
    obtain ⟨o', es', ep', ho', r'⟩ := hm
    rw [ho] at ho'; cases ho'
    exact ⟨_, es', ep', hL, r'⟩) hok I.bare
/-- behind a call (or a comprehension's block): the slots of this frame may have changed too, the records at ch may have turned -/
theorem Inv.call {g' : Array GenState} {t' : Nat} {d' : Drawn} {ch : List Addr} (I : Inv X pins σ H s) (u : Un (frs X.stack) ch H H' s.heap h') (hok : HOk X.prog X.w H' h') (hg : AllBare g')
    (hch : ∀ b ∈ ch, (b ∈ X.ex ∨ X.s₀.heap.objs.size ≤ b) ∧ b ≠ X.env.locals ∧ (∀ x c, X.env.cells.lookup x = some c → c ≠ b) ∧ ∀ p ∈ X.pn ++ pins, p.1 ≠ b) :
    Inv X pins σ H' { s with heap := h', gens := g', drawn := d', toks := t' } := by
  obtain ⟨m, ⟨o, es, ep, ho, r⟩, _⟩ := id I.loc
  obtain ⟨sl, hL⟩ := u.any ho I.free fun z => (hch _ z).2.1 rfl
  exact I.step (ch := ch) hch (fun b o hL hb hc e n => u.keep b o e n (fun z => (List.mem_cons.mp (I.stkSub b z)).elim hL hb) hc) (fun b o _ _ hc e n => u.any e n hc) (fun b o hc e n => u.free b o e n hc) (fun b o hc e => u.there b o e hc) u.tups u.frzs u.tbls (fun m' hm => by
    obtain ⟨o', es', ep', ho', r'⟩ := hm
    rw [ho] at ho'; cases ho'
    exact ⟨_, es', ep', hL, r'⟩) hok hg
/-- an untracked record of ours (an iterator) has turned -/
theorem Inv.turned {t' : Nat} {it : Addr} (I : Inv X pins σ H s) (k : ∀ b o, b ≠ it → s.heap.get? b = some o → h'.get? b = some o) (hn : H it = none) (hL : it ≠ X.env.locals)
    (h1 : it ∈ X.ex ∨ X.s₀.heap.objs.size ≤ it) (h2 : ∀ x c, X.env.cells.lookup x = some c → c ≠ it) (h3 : ∀ p ∈ X.pn ++ pins, p.1 ≠ it) : Inv X pins σ H { s with heap := h', toks := t' } := by
  have nit : ∀ b u, H b = some u → b ≠ it := fun b u e z => by rw [z, hn] at e; cases e
  refine I.step (g' := s.gens) (d' := s.drawn) (ch := [it]) (fun b hb => ?_) (fun b o _ _ hc e _ => k b o (fun z => hc (by simp [z])) e) (fun b o _ _ hc e _ => ⟨o.slots, k b o (fun z => hc (by simp [z])) e⟩) (fun _ _ _ _ n => n)
    (fun b o hc e => ⟨o, k b o (fun z => hc (by simp [z])) e⟩) (fun _ _ e => e) (fun _ _ _ e => e) (fun b ps e => ⟨#[], by rw [e]; simp⟩) (fun m hm => ?_) (fun b u e => ?_) I.bare
  · have e : b = it := by simpa using hb
    subst e
    exact ⟨h1, hL, h2, h3⟩
  · obtain ⟨o, es, ep, ho, r⟩ := hm
    exact ⟨o, es, ep, k _ o (Ne.symm hL) ho, r⟩
  · refine (I.hok b u e).stay (fun c v hc q => k c v ?_ q) (fun _ q => q) fun _ _ q => q
    rcases hc with z | z
    · rw [z]; exact nit b u e
    · exact nit c _ z
theorem Inv.tok (I : Inv X pins σ H s) (t : Nat) : Inv X pins σ H { s with toks := t } := I.un (h' := s.heap) (t' := t) Un.refl I.hok
/-- all objects kept -/
theorem Inv.kept {t' : Nat} (I : Inv X pins σ H s) (k : ∀ b u, s.heap.get? b = some u → h'.get? b = some u) : Inv X pins σ H { s with heap := h', toks := t' } := I.un (Un.kept k) (I.hok.kept k)
/-- a new object laid and tracked -/
theorem Inv.laid {a : Addr} {o : HO} {t' : Nat} (I : Inv X pins σ H s) (k : ∀ b u, s.heap.get? b = some u → h'.get? b = some u) (hp : s.heap.objs.size ≤ a) (new : ObjOk X.prog X.w (upd H a o) h' a o) :
    Inv X pins σ (upd H a o) { s with heap := h', toks := t' } := I.un (Un.laid k hp (I.hok.fresh hp)) (I.hok.laid k hp new)
/-- an object written -/
theorem Inv.write {x e : Addr} {o : HO} {t' : Nat} (I : Inv X pins σ H s) (mu : Mut (H x)) (he : e = x ∨ H e = some (.own x)) (k : ∀ b u, b ≠ e → s.heap.get? b = some u → h'.get? b = some u) (heo : ∃ u, h'.get? e = some u)
    (new : ObjOk X.prog X.w (upd H x o) h' x o) : Inv X pins σ (upd H x o) { s with heap := h', toks := t' } := I.un (Un.write mu he k heo) (I.hok.write mu he k heo new)
/-- forgetting slots, pins -/
theorem Inv.weak {σ' : List (Option V)} (I : Inv X pins σ H s) (hl : σ'.length = σ.length) (w : ∀ (i : Nat) v, σ'[i]? = some (some v) → σ[i]? = some (some v)) : Inv X pins σ' H s :=
  ⟨I.ok, I.os, I.bare, I.base, let ⟨m, hn, hl'⟩ := I.loc; ⟨m, hn, fun i x v e1 e2 e3 => hl' i x v e1 (w i v e2) e3⟩, I.cell, I.free, I.freeC, I.pin, I.hok, hl.trans I.len⟩
theorem Inv.pins_of {pins' : List (Addr × Obj)} (I : Inv X pins σ H s) (h : ∀ p ∈ pins', s.heap.get? p.1 = some p.2 ∧ H p.1 = none ∧ p.1 ≠ X.env.locals ∧ p.1 ∉ X.fs ∧ ∀ v, p.2.data ≠ .cell v) : Inv X pins' σ H s :=
  ⟨I.ok, I.os, I.bare, I.base, I.loc, I.cell, I.free, I.freeC, fun p hp => (List.mem_append.mp hp).elim (fun z => I.pin p (List.mem_append_left _ z)) (h p), I.hok, I.len⟩

theorem nodup_ix {N : List Str} (hN : N.Nodup) {i j : Nat} {x : Str} (a : N[i]? = some x) (b : N[j]? = some x) : i = j := by
  obtain ⟨h1, e1⟩ := List.getElem?_eq_some_iff.mp a
  obtain ⟨h2, e2⟩ := List.getElem?_eq_some_iff.mp b
  exact (List.getElem_inj hN).mp (e1.trans e2.symm)

/-- a name is stored; what changed -/
theorem store_ok2 {M : Model} {A : Around} {E : Value → Shared → Prop} {i : Nat} {x : Str} {v : V} {u : Value} {Q : Unit → Shared → Prop} (I : Inv X pins σ H s) (hN : X.N.Nodup) (hi : X.N[i]? = some x) (hx : Loc X.env.scope x) (r : RelV v u)
    (h : ∀ s', Inv X pins (σ.set i (some v)) H s' → (∃ a, Heap.SameBut a s.heap s'.heap ∧ (a = X.env.locals ∨ X.env.cells.lookup x = some a)) → Q () s') (hf : X.fn x = true ∨ X.env.scope.names.lookup x = some .local := by first | exact .inl rfl | exact .inr rfl | assumption) : wpAny M A (storeName X.env x u) Q E s := by
  obtain ⟨m, hn, hl⟩ := id I.loc
  have hcls : (X.env.scope.kind == .class || (X.env.scope.kind == .module && X.env.locals != X.env.globals)) = false := by rw [I.ok.kind]; rfl
  have hiσ : i < σ.length := by rw [I.len]; exact (List.getElem?_eq_some_iff.mp hi).1
  have cne := I.cne
  have tracked : ∀ {a : Addr} {h' : Heap}, (∃ o, s.heap.get? a = some o ∧ H a = none) → Heap.SameBut a s.heap h' → HOk X.prog X.w H h' := fun {a h'} ha hs b ob e => by
    obtain ⟨_, _, hfree⟩ := ha
    refine (I.hok b ob e).stay (fun c w' hc q => (hs.2 c ?_).trans q) (fun _ q => q) fun _ _ q => q
    rintro rfl
    rcases hc with rfl | hc
    · rw [hfree] at e; cases e
    · rw [hfree] at hc; cases hc
  rcases hx with hk | hk
  · refine wpAny_storeName_local hk hn (fun h' hn' hs => ?_) hcls
    obtain ⟨oL, _, _, hoL, _⟩ := id hn
    refine h _ ⟨I.ok, I.os, I.bare, ⟨fun b o e n hb hx => ?_, fun b o e n hb hx => ?_, I.base.free, fun b o e hx => ?_, I.base.tups, I.base.frzs, I.base.tbls⟩, ⟨_, hn', fun j y v' e1 e2 e3 => ?_⟩, fun y c e => ?_, I.free, I.freeC, fun p hp => ?_, tracked ⟨oL, hoL, I.free⟩ hs, by simpa using I.len⟩ ⟨_, hs, .inl rfl⟩
    · exact (hs.2 b (Nat.ne_of_lt (Nat.lt_of_lt_of_le (Heap.lt_size e) I.ok.above))).trans (I.base.keep b o e n hb hx)
    · obtain ⟨sl, e1⟩ := I.base.slot b o e n hb hx
      exact ⟨sl, (hs.2 b (Nat.ne_of_lt (Nat.lt_of_lt_of_le (Heap.lt_size e) I.ok.above))).trans e1⟩
    · obtain ⟨o', e1⟩ := I.base.there b o e hx
      exact ⟨o', (hs.2 b (Nat.ne_of_lt (Nat.lt_of_lt_of_le (Heap.lt_size e) I.ok.above))).trans e1⟩
    · by_cases hj : j = i
      · subst hj
        rw [hi] at e1; cases e1
        rw [List.getElem?_set_self hiσ] at e2
        cases e2
        exact ⟨u, r, .inl ⟨hk, by simp⟩⟩
      · rw [List.getElem?_set_ne (Ne.symm hj)] at e2
        obtain ⟨u', r', q⟩ := hl j y v' e1 e2 e3
        refine ⟨u', r', ?_⟩
        rcases q with ⟨k, e⟩ | ⟨k, c, e, z⟩
        · refine .inl ⟨k, ?_⟩
          have : y ≠ x := fun e => hj (nodup_ix hN e1 (e ▸ hi))
          simp [this, e]
        · exact .inr ⟨k, c, e, z.sameBut hs (cne y c e)⟩
    · obtain ⟨w', z⟩ := I.cell y c e
      exact ⟨w', z.sameBut hs (cne y c e)⟩
    · obtain ⟨e, n, ne, nf, d⟩ := I.pin p hp
      exact ⟨(hs.2 p.1 ne).trans e, n, ne, nf, d⟩
  · have hfn : X.fn x = true := by
      rcases hf with z | z
      · exact z
      · rw [z] at hk; cases hk
    obtain ⟨c, hc⟩ := I.ok.has x (.inl hk)
    obtain ⟨w', z⟩ := I.cell x c hc
    refine wpAny_storeName_cell I.ok.kind hk hc z (fun h' hc' hs => ?_)
    obtain ⟨oc, hoc, hocd⟩ := id z
    refine h { s with heap := h' } ⟨I.ok, I.os, I.bare, ⟨fun b o e n hb hx => ?_, fun b o e n hb hx => ?_, I.base.free, fun b o e hx => ?_, I.base.tups, I.base.frzs, I.base.tbls⟩, ⟨m, hn.sameBut hs (Ne.symm (cne x c hc)), fun j y v' e1 e2 e3 => ?_⟩, fun y c' e => ?_, I.free, I.freeC, fun p hp => ?_, tracked ⟨oc, hoc, I.freeC x c hc⟩ hs, by simpa using I.len⟩ ⟨c, hs, .inr hc⟩
    · exact (hs.2 b (Nat.ne_of_lt (Nat.lt_of_lt_of_le (Heap.lt_size e) (I.ok.cab x c hfn hc)))).trans (I.base.keep b o e n hb hx)
    · obtain ⟨sl, e1⟩ := I.base.slot b o e n hb hx
      exact ⟨sl, (hs.2 b (Nat.ne_of_lt (Nat.lt_of_lt_of_le (Heap.lt_size e) (I.ok.cab x c hfn hc)))).trans e1⟩
    · obtain ⟨o', e1⟩ := I.base.there b o e hx
      exact ⟨o', (hs.2 b (Nat.ne_of_lt (Nat.lt_of_lt_of_le (Heap.lt_size e) (I.ok.cab x c hfn hc)))).trans e1⟩
    · by_cases hj : j = i
      · subst hj
        rw [hi] at e1; cases e1
        rw [List.getElem?_set_self hiσ] at e2
        cases e2
        exact ⟨u, r, .inr ⟨.inl hk, c, hc, hc'⟩⟩
      · rw [List.getElem?_set_ne (Ne.symm hj)] at e2
        obtain ⟨u', r', q⟩ := hl j y v' e1 e2 e3
        refine ⟨u', r', ?_⟩
        rcases q with q | ⟨k, c', e, z'⟩
        · exact .inl q
        · refine .inr ⟨k, c', e, z'.sameBut hs ?_⟩
          rintro rfl
          exact hj (nodup_ix hN e1 (I.ok.inj _ _ _ e hc ▸ hi))
    · by_cases hcc : c' = c
      · subst hcc; exact ⟨_, hc'⟩
      · obtain ⟨w2, z2⟩ := I.cell y c' e
        exact ⟨w2, z2.sameBut hs hcc⟩
    · obtain ⟨e, n, ne, nf, d⟩ := I.pin p hp
      refine ⟨(hs.2 p.1 ?_).trans e, n, ne, nf, d⟩
      intro q
      rw [q, hoc] at e
      have q' : oc = p.2 := Option.some.inj e
      exact d w' (by rw [← q']; exact hocd)
theorem store_ok {M : Model} {A : Around} {E : Value → Shared → Prop} {i : Nat} {x : Str} {v : V} {u : Value} {Q : Unit → Shared → Prop} (I : Inv X pins σ H s) (hN : X.N.Nodup) (hi : X.N[i]? = some x) (hx : Loc X.env.scope x) (r : RelV v u)
    (h : ∀ s', Inv X pins (σ.set i (some v)) H s' → Q () s') (hf : X.fn x = true ∨ X.env.scope.names.lookup x = some .local := by first | exact .inl rfl | exact .inr rfl | assumption) : wpAny M A (storeName X.env x u) Q E s :=
  store_ok2 I hN hi hx r (fun s' I' _ => h s' I') hf
/-- behind a call or a block, the state as it is -/
theorem Inv.call' {s' : Shared} {ch : List Addr} (I : Inv X pins σ H s) (ho : s'.os = s.os) (u : Un (frs X.stack) ch H H' s.heap s'.heap) (hok : HOk X.prog X.w H' s'.heap) (hg : AllBare s'.gens)
    (hch : ∀ b ∈ ch, (b ∈ X.ex ∨ X.s₀.heap.objs.size ≤ b) ∧ b ≠ X.env.locals ∧ (∀ x c, X.env.cells.lookup x = some c → c ≠ b) ∧ ∀ p ∈ X.pn ++ pins, p.1 ≠ b) : Inv X pins σ H' s' := by
  obtain ⟨h', g', d', t', o'⟩ := s'
  have e : o' = s.os := ho
  subst e
  exact I.call (g' := g') (t' := t') (d' := d') u hok hg hch
end

/-! ### the judgements -/
/-- an exception: its class, its own dict's address (where it has one), the abstract heap behind it -/
abbrev XK := Value → Option Addr → Hp → Prop
abbrev St := List (Option V)
abbrev VK := V → Hp → Prop
/-- an expression's reading; a test's; an argument list's -/
abbrev TE := St → Hp → VK → Prop
abbrev TT := St → Hp → (Bool → Hp → Prop) → Prop
abbrev TA := St → Hp → (List V → Hp → Prop) → Prop
/-- what is wanted behind a statement -/
structure Ends where
  nx : St → Hp → Prop
  rt : VK
  bk : St → Hp → Prop := fun _ _ => False
  ct : St → Hp → Prop := fun _ _ => False
abbrev TS := Ends → St → Hp → Prop

def EP (X : Cx) (pins : List (Addr × Obj)) (σ : St) (Q : VK) (u : Value) (s' : Shared) : Prop := ∃ v H', Inv X pins σ H' s' ∧ RelV v u ∧ Q v H'
def TP (X : Cx) (pins : List (Addr × Obj)) (σ : St) (Q : Bool → Hp → Prop) (b : Bool) (s' : Shared) : Prop := ∃ H', Inv X pins σ H' s' ∧ Q b H'
def AP (X : Cx) (pins : List (Addr × Obj)) (σ : St) (Q : List V → Hp → Prop) (us : List Value) (s' : Shared) : Prop := ∃ vs H', Inv X pins σ H' s' ∧ Vals vs us ∧ Q vs H'
def SP (X : Cx) (pins : List (Addr × Obj)) (D : Ends) (f : Flow) (s' : Shared) : Prop :=
  match f with
  | .next => ∃ σ' H', Inv X pins σ' H' s' ∧ D.nx σ' H'
  | .brk => ∃ σ' H', Inv X pins σ' H' s' ∧ D.bk σ' H'
  | .cont => ∃ σ' H', Inv X pins σ' H' s' ∧ D.ct σ' H'
  | .ret u => ∃ v σ' H', Inv X pins σ' H' s' ∧ RelV v u ∧ D.rt v H'

def PE (X : Cx) (e : Expr) (t : TE) : Prop :=
  ∀ (pins : List (Addr × Obj)) (s : Shared) (σ : St) (H : Hp) (Q : VK), Inv X pins σ H s → t σ H Q → wpAny (model X.prog X.w) X.A (eval e X.env) (EP X pins σ Q) X.xe s
def PT (X : Cx) (e : Expr) (t : TT) : Prop :=
  ∀ (pins : List (Addr × Obj)) (s : Shared) (σ : St) (H : Hp) (Q : Bool → Hp → Prop), Inv X pins σ H s → t σ H Q → wpAny (model X.prog X.w) X.A (isTrue e X.env (eval e X.env)) (TP X pins σ Q) X.xe s
/-- a test whatever its 'whole' is (and, or) -/
def PW (X : Cx) (e : Expr) (t : TT) : Prop :=
  ∀ (whole : Sem Value) (pins : List (Addr × Obj)) (s : Shared) (σ : St) (H : Hp) (Q : Bool → Hp → Prop), Inv X pins σ H s → t σ H Q → wpAny (model X.prog X.w) X.A (isTrue e X.env whole) (TP X pins σ Q) X.xe s
theorem PW.pt {X : Cx} {e : Expr} {t : TT} (h : PW X e t) : PT X e t := h _
/-- an argument list (no star), from the left -/
def PA (X : Cx) (es : List Expr) (t : TA) : Prop :=
  ∀ (pos : Pos) (pins : List (Addr × Obj)) (s : Shared) (σ : St) (H : Hp) (Q : List V → Hp → Prop), Inv X pins σ H s → t σ H Q → wpAny (model X.prog X.w) X.A (spliced (backTo pos (starEach es X.env))) (AP X pins σ Q) X.xe s
def PS (X : Cx) (st : Stmt) (t : TS) : Prop :=
  ∀ (pins : List (Addr × Obj)) (s : Shared) (σ : St) (H : Hp) (D : Ends), Inv X pins σ H s → t D σ H → wpAny (model X.prog X.w) X.A (exec st X.env) (SP X pins D) X.xe s
def PSs (X : Cx) (st : List Stmt) (t : TS) : Prop :=
  ∀ (pins : List (Addr × Obj)) (s : Shared) (σ : St) (H : Hp) (D : Ends), Inv X pins σ H s → t D σ H → wpAny (model X.prog X.w) X.A (execs st X.env) (SP X pins D) X.xe s
/-- weaken the end -/
theorem thn {α : Type} {t : Sem α} {Q Q' : α → Shared → Prop} {M : Model} {A : Around} {E : Value → Shared → Prop} {s : Shared} (h : wpAny M A t Q E s) (hQ : ∀ a s, Q a s → Q' a s) : wpAny M A t Q' E s := wpAny_mono h hQ fun _ _ x => x
end L2

namespace L2
open PySem PySem.Spec PyProof.Rows
section
variable {X : Cx}

/-! ### names and constants -/
def tVar (i : Nat) : TE := fun σ H Q => ∃ v, σ[i]? = some (some v) ∧ Q v H
def tC (v : V) : TE := fun _ H Q => Q v H
theorem pe_var {i : Nat} {x : Str} {pos : Pos} (hN : X.N[i]? = some x) (hv : Vis X.env.scope x) (hd : (x == ("__debug__" : Str)) = false := by decide) (hcd : (x == ("__classdict__" : Str)) = false := by decide) : PE X (.Name x pos) (tVar i) := by
  intro pins s σ H Q I h
  obtain ⟨v, e, h⟩ := h
  obtain ⟨m, hn, hl⟩ := I.loc
  obtain ⟨u, r, l⟩ := hl i x v hN e hv
  have fin : EP X pins σ Q u s := ⟨v, H, I, r, h⟩
  rcases l with ⟨hk, hm⟩ | ⟨hk, c, hc, hcell⟩
  · exact wpAny_Name (wpAny_loadName_local I.ok.kind hk hn hm fin) hd
  · rcases hk with hk | hk
    · exact wpAny_Name (wpAny_loadName_cell I.ok.kind hk hc hcell fin) hd
    · exact wpAny_Name (wpAny_loadName_free I.ok.kind hk hc hcell fin hcd) hd
theorem pe_int {i j pos} : PE X (.Constant (.int i) j pos) (tC (.int i)) := fun _ _ _ H _ I h => wpAny_Constant_int ⟨.int i, H, I.tok _, ⟨_, rfl⟩, h⟩
theorem pe_bl {b j pos} : PE X (.Constant (.bool b) j pos) (tC (.bl b)) := fun _ _ _ H _ I h => Constant_bool ⟨.bl b, H, I, rfl, h⟩
theorem pe_non {j pos} : PE X (.Constant .none j pos) (tC .non) := fun _ _ _ H _ I h => Constant_none ⟨.non, H, I, rfl, h⟩
theorem pe_str {x j pos} : PE X (.Constant (.str x) j pos) (tC (.str x)) := fun _ _ _ H _ I h => Calls.Constant_str ⟨.str x, H, I.tok _, ⟨_, rfl⟩, h⟩

/-- a global name of the def -/
def Gl (X : Cx) (x : Str) : Prop := X.env.kindOf x = some .globalImplicit
theorem ld_glob {E : Value → Shared → Prop} {pins : List (Addr × Obj)} {s : Shared} {σ : St} {H : Hp} {x : Str} {u : Value} {pos : Pos} {Q : Value → Shared → Prop} (I : Inv X pins σ H s) (hg : Gl X x) (hm : X.mg x = some u) (h : Q u s)
    (hd : (x == ("__debug__" : Str)) = false := by decide) : wpAny (model X.prog X.w) X.A (eval (.Name x pos) X.env) Q E s :=
  Calls.Name_function_global I.ok.kind hg (Calls.loadGlobal_global (by rw [I.ok.glob]; exact I.mod.glob.keeps I.bk) hm h) hd
theorem ld_blt {E : Value → Shared → Prop} {pins : List (Addr × Obj)} {s : Shared} {σ : St} {H : Hp} {x : Str} {u : Value} {pos : Pos} {Q : Value → Shared → Prop} (I : Inv X pins σ H s) (hg : Gl X x) (hm : X.mg x = none) (hv : bootBuiltins x = some u) (h : Q u s)
    (hn : x ≠ "__name__" := by decide) (hd : (x == ("__debug__" : Str)) = false := by decide) : wpAny (model X.prog X.w) X.A (eval (.Name x pos) X.env) Q E s := by
  obtain ⟨mb, h1, h2⟩ := I.mod.blt
  exact Calls.Name_function_global I.ok.kind hg (Calls.loadGlobal_builtin (by rw [I.ok.glob]; exact I.mod.glob.keeps I.bk) hm (by rw [I.ok.blt]; exact h1.keeps I.bk) ((h2 x hn).trans hv) h) hd
/-- a module's constant, a class, a function, as a value -/
theorem pe_glob {x : Str} {v : V} {u : Value} {pos : Pos} (hg : Gl X x) (hm : X.mg x = some u) (r : RelV v u) (hd : (x == ("__debug__" : Str)) = false := by decide) : PE X (.Name x pos) (tC v) :=
  fun _ _ _ H _ I h => ld_glob I hg hm ⟨v, H, I, r, h⟩ hd
theorem pe_bltn {x : Str} {v : V} {u : Value} {pos : Pos} (hg : Gl X x) (hm : X.mg x = none) (hv : bootBuiltins x = some u) (r : RelV v u) (hn : x ≠ "__name__" := by decide) (hd : (x == ("__debug__" : Str)) = false := by decide) : PE X (.Name x pos) (tC v) :=
  fun _ _ _ H _ I h => ld_blt I hg hm hv ⟨v, H, I, r, h⟩ hn hd

/-! ### arithmetic -/
variable {a b : Expr} {ta tb : TE} {pos : Pos}
/-! ### comparisons -/
/-- a comparison as a value, as a test -/
def tB (t : TE) : TT := fun σ H Q => t σ H fun x H1 => ∃ c, x = .bl c ∧ Q c H1
/-- an expression whose value is a bool, as a test -/
theorem pt_val {e : Expr} {t : TE} (h : PE X e t) (he : ∀ whole, isTrue e X.env whole = (do let v ← whole; standAt e.pos; holding [v] (truthy v)) := by intro _; rfl) : PT X e (tB t) := by
  intro pins s σ H Q I hw
  refine isTrue_plain (thn (h pins s σ H _ I hw) fun v s1 ⟨x, H1, I1, r1, q1⟩ => ?_) (he _)
  obtain ⟨d, rfl, q⟩ := q1
  cases r1
  exact wpAny_truthy_bool ⟨H1, I1, q⟩

/-! ### and, or, not -/
variable {tA tB' : TT} {rest : List Expr}
def tAnd (t u : TT) : TT := fun σ H Q => t σ H fun c H1 => if c = true then u σ H1 Q else Q false H1
def tOr (t u : TT) : TT := fun σ H Q => t σ H fun c H1 => if c = true then Q true H1 else u σ H1 Q
def tNot (t : TT) : TT := fun σ H Q => t σ H fun c H1 => Q (!c) H1
theorem pw_and1 (ha : PT X a tA) : PW X (.BoolOp .And [a] pos) tA := by
  intro wh pins s σ H Q I h
  refine isTrue_and (thn (ha pins s σ H Q I h) fun c s1 e => ?_)
  cases c with
  | true => exact isTrue_and_nil e
  | false => exact e
theorem pw_or1 (ha : PT X a tA) : PW X (.BoolOp .Or [a] pos) tA := by
  intro wh pins s σ H Q I h
  refine isTrue_or (thn (ha pins s σ H Q I h) fun c s1 e => ?_)
  cases c with
  | false => exact isTrue_or_nil e
  | true => exact e
theorem pw_and (ha : PT X a tA) (hb : PW X (.BoolOp .And (b :: rest) pos) tB') : PW X (.BoolOp .And (a :: b :: rest) pos) (tAnd tA tB') := by
  intro wh pins s σ H Q I h
  refine isTrue_and (thn (ha pins s σ H _ I h) fun c s1 ⟨H1, I1, q1⟩ => ?_)
  cases c with
  | true => exact hb wh pins s1 σ H1 Q I1 q1
  | false => exact ⟨H1, I1, q1⟩
theorem pw_or (ha : PT X a tA) (hb : PW X (.BoolOp .Or (b :: rest) pos) tB') : PW X (.BoolOp .Or (a :: b :: rest) pos) (tOr tA tB') := by
  intro wh pins s σ H Q I h
  refine isTrue_or (thn (ha pins s σ H _ I h) fun c s1 ⟨H1, I1, q1⟩ => ?_)
  cases c with
  | true => exact ⟨H1, I1, q1⟩
  | false => exact hb wh pins s1 σ H1 Q I1 q1
theorem pt_not (ha : PT X a tA) : PT X (.UnaryOp .Not a pos) (tNot tA) := by
  intro pins s σ H Q I h
  exact isTrue_not (ha pins s σ H (fun c H1 => Q (!c) H1) I h)
/-- .. as values (bools) -/
def tAndV (ta tb : TE) : TE := fun σ H Q => ta σ H fun x H1 => ∃ c, x = .bl c ∧ if c = true then tb σ H1 Q else Q (.bl false) H1
def tOrV (ta tb : TE) : TE := fun σ H Q => ta σ H fun x H1 => ∃ c, x = .bl c ∧ if c = true then Q (.bl true) H1 else tb σ H1 Q
def tNotV (ta : TE) : TE := fun σ H Q => ta σ H fun x H1 => ∃ c, x = .bl c ∧ Q (.bl (!c)) H1
theorem pe_one {op} {t : TE} (h : PE X a t) : PE X (.BoolOp op [a] pos) t := fun pins s σ H Q I hw => BoolOp_one (h pins s σ H Q I hw)
theorem pe_and (ha : PE X a ta) (hb : PE X (.BoolOp .And (b :: rest) pos) tb) : PE X (.BoolOp .And (a :: b :: rest) pos) (tAndV ta tb) := by
  intro pins s σ H Q I h
  refine BoolOp_and (thn (ha pins s σ H _ I h) fun v s1 ⟨x, H1, I1, r1, q1⟩ => ?_)
  obtain ⟨c, rfl, q1⟩ := q1
  cases r1
  refine wpAny_truthy_bool ?_
  cases c with
  | true => exact hb pins s1 σ H1 Q I1 q1
  | false => exact ⟨.bl false, H1, I1, rfl, q1⟩
theorem pe_or (ha : PE X a ta) (hb : PE X (.BoolOp .Or (b :: rest) pos) tb) : PE X (.BoolOp .Or (a :: b :: rest) pos) (tOrV ta tb) := by
  intro pins s σ H Q I h
  refine BoolOp_or (thn (ha pins s σ H _ I h) fun v s1 ⟨x, H1, I1, r1, q1⟩ => ?_)
  obtain ⟨c, rfl, q1⟩ := q1
  cases r1
  refine wpAny_truthy_bool ?_
  cases c with
  | false => exact hb pins s1 σ H1 Q I1 q1
  | true => exact ⟨.bl true, H1, I1, rfl, q1⟩
theorem pe_not (ha : PE X a ta) : PE X (.UnaryOp .Not a pos) (tNotV ta) := by
  intro pins s σ H Q I h
  refine UnaryOp_ (thn (ha pins s σ H _ I h) fun v s1 ⟨x, H1, I1, r1, q1⟩ => ?_)
  obtain ⟨c, rfl, q1⟩ := q1
  cases r1
  exact not_of (wpAny_truthy_bool ⟨.bl (!c), H1, I1, rfl, q1⟩)
/-- a if t else b -/
def tIf (t : TT) (ta tb : TE) : TE := fun σ H Q => t σ H fun c H1 => if c = true then ta σ H1 Q else tb σ H1 Q
theorem pe_ifExp {c : Expr} (hc : PT X c tA) (ha : PE X a ta) (hb : PE X b tb) : PE X (.IfExp c a b pos) (tIf tA ta tb) := by
  intro pins s σ H Q I h
  refine wpAny_IfExp (thn (hc pins s σ H _ I h) fun d s1 ⟨H1, I1, q1⟩ => ?_)
  cases d with
  | true => exact ha pins s1 σ H1 Q I1 q1
  | false => exact hb pins s1 σ H1 Q I1 q1
end
end L2

namespace L2
open PySem PySem.Spec PyProof.Rows

/-! ### a list, a tuple that is read: tracked, frozen, or an object of the module -/
def SqL (K : PySem.W.Frag) (H : Hp) (a : Addr) (xs : List V) : Prop :=
  Rd H a (.lst xs) ∨
    ∃ (o : Obj) (its : Array Value) (n : Nat), K.lookup a = some o ∧ o.cls = .type "list" ∧ o.dict = none ∧ o.data = .seq its n ∧ its.size ≤ sizeLine ∧ Vals xs its.toList
def SqT (K : PySem.W.Frag) (H : Hp) (a : Addr) (xs : List V) : Prop :=
  Rd H a (.tup xs) ∨
    ∃ (o : Obj) (its : Array Value) (n : Nat), K.lookup a = some o ∧ o.cls = .type "tuple" ∧ o.data = .seq its n ∧ its.size ≤ sizeLine ∧ Vals xs its.toList
def absV : Value → Option V
  | .none => some .non
  | .bool b => some (.bl b)
  | .int i _ => some (.int i)
  | .str x _ => some (.str x)
  | .bytes b _ => some (.byt b)
  | .float b _ => some (.flt b)
  | .ref a => some (.ref a)
  | .type n => some (.ty n)
  | _ => none
theorem RelV.abs {x : V} {u : Value} (r : RelV x u) : absV u = some x := by
  cases x with
  | non => cases r; rfl
  | bl _ => cases r; rfl
  | int _ => obtain ⟨t, rfl⟩ := r; rfl
  | str _ => obtain ⟨t, rfl⟩ := r; rfl
  | byt _ => obtain ⟨t, rfl⟩ := r; rfl
  | flt _ => obtain ⟨t, rfl⟩ := r; rfl
  | ref _ => cases r; rfl
  | ty _ => cases r; rfl
theorem RelV.inj {x y : V} {u : Value} (r : RelV x u) (q : RelV y u) : x = y := Option.some.inj (r.abs.symm.trans q.abs)
theorem Vals.inj : ∀ {xs ys : List V} {us : List Value}, Vals xs us → Vals ys us → xs = ys
  | _, _, _, .nil, .nil => rfl
  | _, _, _, .cons r t, .cons r' t' => by rw [r.inj r', Vals.inj t t']
section
variable {X : Cx} {pins : List (Addr × Obj)} {σ : St} {H : Hp} {s : Shared} {a : Addr} {xs ys : List V}
theorem SqL.of {K : PySem.W.Frag} (h : H a = some (.lst xs)) : SqL K H a xs := .inl (.inl h)
theorem SqT.of {K : PySem.W.Frag} (h : H a = some (.tup xs)) : SqT K H a xs := .inl (.inl h)
theorem Inv.list (I : Inv X pins σ H s) (h : SqL X.K H a xs) : ∃ its : List Value, Vals xs its ∧ PlainL s.heap a its.toArray ∧ xs.length ≤ sizeLine := by
  rcases h with h | ⟨o, its, n, hk, hc, hd, hs, hz, r⟩
  · obtain ⟨z, its, n, r, e⟩ := h.ok I.hok
    exact ⟨its, r, ⟨_, n, e, rfl, rfl, rfl⟩, z⟩
  · refine ⟨its.toList, r, ⟨o, n, I.kIn a o hk, hc, hd, by simpa using hs⟩, ?_⟩
    have e := r.length
    simp only [Array.length_toList] at e
    omega
theorem Inv.tuple (I : Inv X pins σ H s) (h : SqT X.K H a xs) : ∃ its : List Value, Vals xs its ∧ IsTup s.heap a its.toArray ∧ xs.length ≤ sizeLine := by
  rcases h with h | ⟨o, its, n, hk, hc, hs, hz, r⟩
  · obtain ⟨z, its, r, p⟩ := h.ok I.hok
    exact ⟨its, r, p, z⟩
  · refine ⟨its.toList, r, ⟨o, I.kIn a o hk, hc, n, by simpa using hs⟩, ?_⟩
    have e := r.length
    simp only [Array.length_toList] at e
    omega
theorem Inv.list_inj (I : Inv X pins σ H s) (h : SqL X.K H a xs) (h' : SqL X.K H a ys) : xs = ys := by
  obtain ⟨its, r, ⟨o, n, e, _, _, d⟩, _⟩ := I.list h
  obtain ⟨its', r', ⟨o', n', e', _, _, d'⟩, _⟩ := I.list h'
  rw [e] at e'; cases e'
  rw [d] at d'
  injection d' with d1 _
  have : its = its' := by simpa using congrArg Array.toList d1
  subst this
  exact r.inj r'
theorem Inv.tuple_inj (I : Inv X pins σ H s) (h : SqT X.K H a xs) (h' : SqT X.K H a ys) : xs = ys := by
  obtain ⟨its, r, ⟨o, e, _, n, d⟩, _⟩ := I.tuple h
  obtain ⟨its', r', ⟨o', e', _, n', d'⟩, _⟩ := I.tuple h'
  rw [e] at e'; cases e'
  rw [d] at d'
  injection d' with d1 _
  have : its = its' := by simpa using congrArg Array.toList d1
  subst this
  exact r.inj r'
end

/-! ### another wish about exceptions -/
abbrev Cx.wish (X : Cx) (E : Value → Shared → Prop) : Cx := { X with xe := E }
/-- no exception leaves -/
abbrev Cx.nox (X : Cx) : Cx := X.wish fun _ _ => False
theorem Cx.Ok.wish {X : Cx} (ok : X.Ok) (E : Value → Shared → Prop) : (X.wish E).Ok :=
  ⟨ok.mod, ok.kind, ok.glob, ok.blt, ok.above, ok.inj, ok.has, ok.cab, ok.hd, ok.frames, ok.stk, ok.exf, ok.bs, ok.bsz, ok.noex, ok.exfs, ok.funs, ok.frf⟩
theorem Cx.Ok.unwish {X : Cx} {E : Value → Shared → Prop} (ok : (X.wish E).Ok) : X.Ok :=
  ⟨ok.mod, ok.kind, ok.glob, ok.blt, ok.above, ok.inj, ok.has, ok.cab, ok.hd, ok.frames, ok.stk, ok.exf, ok.bs, ok.bsz, ok.noex, ok.exfs, ok.funs, ok.frf⟩
section
variable {X : Cx} {pins : List (Addr × Obj)} {σ : St} {H : Hp} {s : Shared} {E : Value → Shared → Prop}
theorem Inv.wish (I : Inv X pins σ H s) (E : Value → Shared → Prop) : Inv (X.wish E) pins σ H s := ⟨I.ok.wish E, I.os, I.bare, I.base, I.loc, I.cell, I.free, I.freeC, I.pin, I.hok, I.len⟩
theorem Inv.unwish (I : Inv (X.wish E) pins σ H s) : Inv X pins σ H s := ⟨I.ok.unwish, I.os, I.bare, I.base, I.loc, I.cell, I.free, I.freeC, I.pin, I.hok, I.len⟩
theorem SP.unwish {D : Ends} {f : Flow} {s' : Shared} (h : SP (X.wish E) pins D f s') : SP X pins D f s' := by
  cases f with
  | next => obtain ⟨σ', H', I, q⟩ := h; exact ⟨σ', H', I.unwish, q⟩
  | brk => obtain ⟨σ', H', I, q⟩ := h; exact ⟨σ', H', I.unwish, q⟩
  | cont => obtain ⟨σ', H', I, q⟩ := h; exact ⟨σ', H', I.unwish, q⟩
  | ret u => obtain ⟨v, σ', H', I, r, q⟩ := h; exact ⟨v, σ', H', I.unwish, r, q⟩
theorem PE.nox {e : Expr} {t : TE} (h : PE X.nox e t) : PE X e t := fun pins s σ H Q I hw =>
  wpAny_mono (h pins s σ H Q (I.wish _) hw) (fun _ _ ⟨v, H', I', r, q⟩ => ⟨v, H', I'.unwish, r, q⟩) fun _ _ z => False.elim z
theorem PT.nox {e : Expr} {t : TT} (h : PT X.nox e t) : PT X e t := fun pins s σ H Q I hw =>
  wpAny_mono (h pins s σ H Q (I.wish _) hw) (fun _ _ ⟨H', I', q⟩ => ⟨H', I'.unwish, q⟩) fun _ _ z => False.elim z
theorem PSs.nox {st : List Stmt} {t : TS} (h : PSs X.nox st t) : PSs X st t := fun pins s σ H D I hw =>
  wpAny_mono (h pins s σ H D (I.wish _) hw) (fun _ _ q => q.unwish) fun _ _ z => False.elim z
end

/-! ### blocks and small statements -/
section
variable {X : Cx} {st : Stmt} {rest : List Stmt} {t u : TS} {e : Expr} {te : TE} {pos : Pos}
def tNext : TS := fun D σ H => D.nx σ H
def tSeq (t u : TS) : TS := fun D σ H => t { D with nx := u D } σ H
theorem pss_nil : PSs X [] tNext := fun _ _ σ H _ I h => wpAny_execs_nil ⟨σ, H, I, h⟩
theorem pss_cons (h1 : PS X st t) (h2 : PSs X rest u) : PSs X (st :: rest) (tSeq t u) := by
  intro pins s σ H D I h
  refine wpAny_execs_cons (thn (h1 pins s σ H { D with nx := u D } I h) fun f s1 q => ?_)
  cases f with
  | next =>
    obtain ⟨σ', H', I', q⟩ := q
    exact h2 pins s1 σ' H' D I' q
  | ret v => exact q
  | brk => exact q
  | cont => exact q
theorem pss_one (h1 : PS X st t) : PSs X [st] t := by
  intro pins s σ H D I h
  refine wpAny_execs_cons (thn (h1 pins s σ H D I h) fun f s1 q => ?_)
  cases f with
  | next => exact wpAny_execs_nil q
  | ret v => exact q
  | brk => exact q
  | cont => exact q
/-- in a def's body nothing is shown -/
theorem Inv.quiet {pins : List (Addr × Obj)} {σ : St} {H : Hp} {s : Shared} (I : Inv X pins σ H s) : interactive X.env = false := by simp [interactive, I.ok.kind]
/-- an expression whose value is dropped -/
def tDrop (te : TE) : TS := fun D σ H => te σ H fun _ H1 => D.nx σ H1
theorem ps_expr (he : PE X e te) (hs : swapsWith e none pos.line X.env = pure false := by rfl) : PS X (.Expr e pos) (tDrop te) := by
  intro pins s σ H D I h
  exact wpAny_Expr_any (thn (he pins s σ H _ I h) fun v s1 ⟨x, H1, I1, r1, q1⟩ => ⟨σ, H1, I1, q1⟩) I.quiet hs
def tRet (te : TE) : TS := fun D σ H => te σ H D.rt
theorem ps_ret (he : PE X e te) : PS X (.Return (some e) pos) (tRet te) := by
  intro pins s σ H D I h
  exact wpAny_Return_some (thn (he pins s σ H _ I h) fun v s1 ⟨x, H1, I1, r1, q1⟩ => ⟨x, σ, H1, I1, r1, q1⟩)
def tIfS (c : TT) (t u : TS) : TS := fun D σ H => c σ H fun b H1 => if b = true then t D σ H1 else u D σ H1
theorem ps_if {c : Expr} {a b : List Stmt} {tc : TT} (hc : PT X c tc) (ha : PSs X a t) (hb : PSs X b u) : PS X (.If c a b pos) (tIfS tc t u) := by
  intro pins s σ H D I h
  refine wpAny_If (thn (hc pins s σ H _ I h) fun d s1 ⟨H1, I1, q1⟩ => ?_)
  cases d with
  | true => exact ha pins s1 σ H1 D I1 q1
  | false => exact hb pins s1 σ H1 D I1 q1
end

/-! ### targets -/
abbrev TG := V → St → Hp → (St → Hp → Prop) → Prop
abbrev TGs := List V → St → Hp → (St → Hp → Prop) → Prop
def PG (X : Cx) (target : Expr) (t : TG) : Prop :=
  ∀ (pins : List (Addr × Obj)) (s : Shared) (σ : St) (H : Hp) (v : V) (u : Value) (Q : St → Hp → Prop), Inv X pins σ H s → RelV v u → t v σ H Q →
    wpAny (model X.prog X.w) X.A (assign target X.env u) (fun _ s' => ∃ σ' H', Inv X pins σ' H' s' ∧ Q σ' H') X.xe s
/-- several targets, one after another -/
def PGs (X : Cx) (ts : List Expr) (t : TGs) : Prop :=
  ∀ (pins : List (Addr × Obj)) (s : Shared) (σ : St) (H : Hp) (vs : List V) (us : List Value) (Q : St → Hp → Prop), Inv X pins σ H s → Vals vs us → t vs σ H Q →
    wpAny (model X.prog X.w) X.A (assignInOrder ((assignEach ts X.env).map (·.2)) us) (fun _ s' => ∃ σ' H', Inv X pins σ' H' s' ∧ Q σ' H') X.xe s
/-- o[i] = v, by values -/
abbrev TSet := V → V → V → Hp → (Hp → Prop) → Prop
def PSet (X : Cx) (t : TSet) : Prop :=
  ∀ (pins : List (Addr × Obj)) (s : Shared) (σ : St) (H : Hp) (o i v : V) (ov iv u : Value) (Q : Hp → Prop), Inv X pins σ H s → RelV o ov → RelV i iv → RelV v u → t o i v H Q →
    wpAny (model X.prog X.w) X.A (setItem ov iv u) (fun _ s' => ∃ H', Inv X pins σ H' s' ∧ Q H') X.xe s
/-- a op= b, by values -/
abbrev TIp := V → V → Hp → VK → Prop
section
variable {X : Cx} {pos : Pos}
def gName (i : Nat) : TG := fun v σ H Q => Q (σ.set i (some v)) H
theorem pg_name {i : Nat} {x : Str} (hN : X.N.Nodup) (hi : X.N[i]? = some x) (hx : Loc X.env.scope x) (hf : X.fn x = true ∨ X.env.scope.names.lookup x = some .local := by first | exact .inl rfl | exact .inr rfl | assumption) : PG X (.Name x pos) (gName i) := by
  intro pins s σ H v u Q I r h
  exact wpAny_assign_Name (store_ok I hN hi hx r (fun s' I' => ⟨_, H, I', h⟩) hf)
def gNil : TGs := fun vs σ H Q => vs = [] ∧ Q σ H
def gCons (t : TG) (u : TGs) : TGs := fun vs σ H Q => ∃ v r, vs = v :: r ∧ t v σ H fun σ' H' => u r σ' H' Q
theorem pgs_nil : PGs X [] gNil := by
  intro pins s σ H vs us Q I r h
  obtain ⟨e, h⟩ := h
  subst e
  cases r
  exact assignInOrder_nil ⟨σ, H, I, h⟩
theorem pgs_cons {e : Expr} {es : List Expr} {t : TG} {u : TGs} (h1 : PG X e t) (h2 : PGs X es u)
    (hs : (assignEach (e :: es) X.env).map (·.2) = assign e X.env :: (assignEach es X.env).map (·.2) := by rfl) : PGs X (e :: es) (gCons t u) := by
  intro pins s σ H vs us Q I r h
  obtain ⟨v, vr, e1, h⟩ := h
  subst e1
  cases r with
  | cons r rr =>
    rw [hs]
    refine assignInOrder_cons (thn (h1 pins s σ H _ _ _ I r h) fun _ s1 ⟨σ1, H1, I1, q1⟩ => ?_)
    exact h2 pins s1 σ1 H1 _ _ Q I1 rr q1
/-- (a, b, ..) = a tuple of that length -/
def gTup (K : PySem.W.Frag) (n : Nat) (t : TGs) : TG := fun v σ H Q => ∃ a xs, v = .ref a ∧ SqT K H a xs ∧ xs.length = n ∧ t xs σ H Q
theorem pg_tup {es : List Expr} {k : Nat} {t : TGs} {n : Nat} (hc : X.calm = true) (h : PGs X es t)
    (hn : (assignEach es X.env).length = n := by rfl) (hst : (assignEach es X.env).findIdx? (·.1) = none := by rfl) : PG X (.Tuple es k pos) (gTup X.K n t) := by
  intro pins s σ H v u Q I r hw
  obtain ⟨a, xs, e1, hq, hl, hw⟩ := hw
  subst e1
  cases r
  obtain ⟨its, rv, ht, hz⟩ := I.tuple hq
  refine assign_Tuple_tuple (I.ok.hd hc) ht (by simp [hn, ← hl, rv.length]) hst fun h' hx => ?_
  have I1 : Inv X pins σ H { s with heap := h' } := I.kept (t' := s.toks) fun b o e => hx b o (Nat.ne_of_lt (Heap.lt_size e)) e
  exact h pins _ σ H xs _ Q I1 (by simpa using rv) hw
/-- o[i] = .. -/
def gSub (to ti : TE) (t : TSet) : TG := fun v σ H Q => to σ H fun o H1 => ti σ H1 fun i H2 => t o i v H2 fun H3 => Q σ H3
theorem pg_sub {o i : Expr} {to ti : TE} {t : TSet} (ho : PE X o to) (hi : PE X i ti) (hs : PSet X t)
    (ha : ∀ v, assign (.Subscript o i pos) X.env v = (do
      let ov ← holding [v] (eval o X.env)
      let iv ← holding [v, ov] (eval i X.env)
      standAt pos
      holding [v, ov, iv] (setItem ov iv v)
      release [v, ov, iv] []) := by intro _; rfl) : PG X (.Subscript o i pos) (gSub to ti t) := by
  intro pins s σ H v u Q I r h
  rw [ha]
  refine wpAny_bind (wpAny_holding (thn (ho pins s σ H _ I h) fun ov s1 ⟨x, H1, I1, r1, q1⟩ => ?_))
  refine wpAny_bind (wpAny_holding (thn (hi pins s1 σ H1 _ I1 q1) fun iv s2 ⟨y, H2, I2, r2, q2⟩ => ?_))
  refine wpAny_bind (wpAny_standAt (wpAny_bind (wpAny_holding (thn (hs pins s2 σ H2 x y v ov iv u _ I2 r1 r2 r q2) fun _ s3 ⟨H3, I3, q3⟩ => ?_))))
  exact wpAny_release ⟨σ, H3, I3, q3⟩
/-- target = value -/
def tAsg (te : TE) (g : TG) : TS := fun D σ H => te σ H fun x H1 => g x σ H1 D.nx
theorem ps_asg {tg e : Expr} {te : TE} {g : TG} (he : PE X e te) (hg : PG X tg g) (hs : swapsWithSole [tg] e pos.line X.env = pure false := by rfl) (hw : swappedStores [tg] e X.env = pure none := by rfl)
    (h1 : (assignEach [tg] X.env).map (·.2) = [assign tg X.env] := by rfl) : PS X (.Assign [tg] e pos) (tAsg te g) := by
  intro pins s σ H D I h
  refine wpAny_Assign_stores (thn (he pins s σ H _ I h) fun v s1 ⟨x, H1, I1, r1, q1⟩ => ?_) hs hw
  rw [h1]
  exact thn (hg pins s1 σ H1 x v _ I1 r1 q1) fun _ s2 q => q
/-- name = value -/
theorem ps_set {i : Nat} {x : Str} {e : Expr} {te : TE} {pos' : Pos} (hN : X.N.Nodup) (hi : X.N[i]? = some x) (hx : Loc X.env.scope x) (he : PE X e te) (hs : swapsWith e (some (.Name x pos')) pos.line X.env = pure false := by rfl) (hf : X.fn x = true ∨ X.env.scope.names.lookup x = some .local := by first | exact .inl rfl | exact .inr rfl | assumption) :
    PS X (.Assign [.Name x pos'] e pos) (tAsg te (gName i)) := by
  intro pins s σ H D I h
  refine wpAny_Assign_Name (thn (he pins s σ H _ I h) fun v s1 ⟨y, H1, I1, r1, q1⟩ => ?_) hs
  exact store_ok I1 hN hi hx r1 (fun s2 I2 => ⟨_, H1, I2, q1⟩) hf
/-- o[i] op= e -/
def tAugS (to ti te : TE) (tget : V → V → Hp → VK → Prop) (tip : TIp) (tset : TSet) : TS := fun D σ H => to σ H fun o H1 => ti σ H1 fun i H2 => tget o i H2 fun x H3 => te σ H3 fun y H4 => tip x y H4 fun z H5 => tset o i z H5 fun H6 => D.nx σ H6
end

/-! ### while -/
section
variable {X : Cx} {pos : Pos}
end

/-! ### what a loop or a comprehension walks -/
/-- at turn i: it yields x (the heap may grow), or it stops -/
structure It where
  go : Nat → Hp → Prop
  yld : Nat → Hp → V → Hp → Prop
  stop : Nat → Hp → Prop
/-- the iterator's own objects may turn: they are not the frame's, not pinned, younger than the entry (or a comprehension's own) -/
def FpOk (X : Cx) (pins : List (Addr × Obj)) (H : Hp) (b : Addr) : Prop :=
  H b = none ∧ b ≠ X.env.locals ∧ b ∉ X.fs ∧ (b ∈ X.ex ∨ X.s₀.heap.objs.size ≤ b) ∧ (∀ x c, X.env.cells.lookup x = some c → c ≠ b) ∧ ∀ p ∈ X.pn ++ pins, p.1 ≠ b
theorem Inv.fpOk {X : Cx} {pins : List (Addr × Obj)} {σ : St} {H H' : Hp} {s : Shared} {b : Addr} (I : Inv X pins σ H s) (hb : s.heap.objs.size ≤ b) (hn : H' b = none) : FpOk X pins H' b := by
  refine ⟨hn, Nat.ne_of_gt (Nat.lt_of_lt_of_le I.lt hb), I.nofs hb, .inr (Nat.le_trans I.sz hb), fun x c e z => ?_, fun p hp z => ?_⟩
  · obtain ⟨v, q⟩ := I.cell x c e
    exact absurd (Nat.lt_of_lt_of_le q.lt (by rw [z]; exact hb)) (Nat.lt_irrefl _)
  · exact absurd (Nat.lt_of_lt_of_le (Heap.lt_size (I.pin p hp).1) (by rw [z]; exact hb)) (Nat.lt_irrefl _)
structure Turn (P : Program) (w : World) (K : PySem.W.Frag) (tg : Expr) (J : It) (fp : List Addr) (it : Addr) (tn : Nat → Heap → Prop) : Prop where
  mem : it ∈ fp
  obj : ∀ i h, tn i h → ∀ b ∈ fp, ∃ o, h.get? b = some o ∧ ∀ v, o.data ≠ .cell v
  keep : ∀ i h h', tn i h → (∀ b ∈ fp, ∀ o, h.get? b = some o → h'.get? b = some o) → tn i h'
  item : ∀ (X : Cx), X.prog = P → X.w = w → X.K = K → X.calm = true → ∀ (i : Nat) (pins : List (Addr × Obj)) (s : Shared) (σ : St) (H : Hp) (E : Value → Shared → Prop), Inv X pins σ H s → (∀ b ∈ fp, FpOk X pins H b) → tn i s.heap → J.go i H →
    wpAny (model P w) X.A (pyNext (.ref it)) (fun r s1 => ∃ u, r = some u ∧
      wpAny (model P w) X.A (letOwnedTupleGo tg (.ref it) u) (fun _ s2 => ∃ x H', Inv X pins σ H' s2 ∧ RelV x u ∧ J.yld i H x H' ∧ tn (i + 1) s2.heap ∧ ∀ b ∈ fp, H' b = none) E s1) E s
  done : ∀ (X : Cx), X.prog = P → X.w = w → X.K = K → X.calm = true → ∀ (i : Nat) (pins : List (Addr × Obj)) (s : Shared) (σ : St) (H : Hp) (E : Value → Shared → Prop), Inv X pins σ H s → (∀ b ∈ fp, FpOk X pins H b) → tn i s.heap → J.stop i H →
    wpAny (model P w) X.A (pyNext (.ref it)) (fun r s1 => r = none ∧ Inv X pins σ H s1) E s
  self : ∀ (A : Around) (i : Nat) (s : Shared) (Q : Value → Shared → Prop) (E : Value → Shared → Prop), tn i s.heap → Q (.ref it) s → wpAny (model P w) A (pyIter (.ref it)) Q E s
abbrev TI := St → Hp → (It → Hp → Prop) → Prop
/-- an iterator has come -/
def PIE (X : Cx) (pins : List (Addr × Obj)) (σ : St) (tg : Expr) (R : It → Hp → Prop) (itv : Value) (s2 : Shared) : Prop :=
  ∃ (it : Addr) (fp : List Addr) (tn : Nat → Heap → Prop) (J : It) (H' : Hp), itv = .ref it ∧ Inv X pins σ H' s2 ∧ Turn X.prog X.w X.K tg J fp it tn ∧ tn 0 s2.heap ∧ (∀ b ∈ fp, FpOk X pins H' b) ∧ R J H'
def PI (X : Cx) (tg iter : Expr) (wi : TI) : Prop :=
  ∀ (pins : List (Addr × Obj)) (s : Shared) (σ : St) (H : Hp) (R : It → Hp → Prop), Inv X pins σ H s → wi σ H R →
    wpAny (model X.prog X.w) X.A (eval iter X.env) (fun v s1 => wpAny (model X.prog X.w) X.A (pyIter v) (PIE X pins σ tg R) X.xe s1) X.xe s

/-- the step ahead of the store is nothing for an iterator that keeps no tuple -/
theorem go_of {M : Model} {A : Around} {E : Value → Shared → Prop} {s : Shared} {tg : Expr} {it : Addr} {u : Value} {o : Obj} {n : String} {vs : Array Value} {Q : Unit → Shared → Prop} (ho : s.heap.get? it = some o) (hc : o.cls = .type n) (hd : o.data = .fields vs)
    (hn : ["enumerate", "zip", "dict_itemiterator", "dict_reverseitemiterator", "odict_iterator", "itertools.zip_longest", "itertools.pairwise"].contains n = false) (hQ : Q () s) : wpAny M A (letOwnedTupleGo tg (.ref it) u) Q E s := by
  unfold letOwnedTupleGo
  cases tg <;> first
    | exact wpAny_pure hQ
    | (cases u <;> first
        | exact wpAny_pure hQ
        | (refine wpAny_bind (wpAny_load ho ?_)
           rw [hc, hd]
           show wpAny M A (if (["enumerate", "zip", "dict_itemiterator", "dict_reverseitemiterator", "odict_iterator", "itertools.zip_longest", "itertools.pairwise"].contains n && vs[0]? == some (rawInt _)) = true then _ else _) Q E s
           rw [if_neg (by intro h; rw [hn, Bool.false_and] at h; cases h)]
           exact wpAny_pure hQ))

/-- the list at a, as it stands at each turn (a loop may append to it) -/
def Itl (K : PySem.W.Frag) (a : Addr) : It :=
  ⟨fun i H => ∃ xs x, SqL K H a xs ∧ xs[i]? = some x, fun i H x H' => H' = H ∧ ∀ xs, SqL K H a xs → xs[i]? = some x, fun i H => ∃ xs, SqL K H a xs ∧ xs.length ≤ i⟩
def Itt (K : PySem.W.Frag) (a : Addr) : It :=
  ⟨fun i H => ∃ xs x, SqT K H a xs ∧ xs[i]? = some x, fun i H x H' => H' = H ∧ ∀ xs, SqT K H a xs → xs[i]? = some x, fun i H => ∃ xs, SqT K H a xs ∧ xs.length ≤ i⟩
/-- lo, lo + 1, .. (n of them) -/
def Itr (lo : Int) (n : Nat) : It := ⟨fun i _ => i < n, fun i H x H' => H' = H ∧ x = .int (lo + i), fun i _ => n ≤ i⟩
theorem turn_list {P : Program} {w : World} {K : PySem.W.Frag} {tg : Expr} (a it : Addr) : Turn P w K tg (Itl K a) [it] it (fun i h => h.IsListIter it a i) where
  mem := by simp
  obj := fun i h st b hb => by
    have e : b = it := by simpa using hb
    subst e
    obtain ⟨o, e, c, d⟩ := st
    exact ⟨o, e, fun v z => by rw [d] at z; cases z⟩
  keep := fun i h h' st k => st.at fun o e => k it (by simp) o e
  item := by
    intro X hP hw hK hc i pins s σ H E I hf st hg
    subst hP hw hK
    obtain ⟨xs, x, hq, hx⟩ := hg
    obtain ⟨its, rv, p, hz⟩ := I.list hq
    obtain ⟨u, hu, ru⟩ := rv.get hx
    obtain ⟨f0, f1, f2, f3, f4, f5⟩ := hf it (by simp)
    refine wpAny_pyNext_list_item st p.isList (x := u) (by simpa using hu) fun h' st' sb => ?_
    have I1 : Inv X pins σ H { s with heap := h' } := I.turned (t' := s.toks) (fun b o hb e => (sb.2 b hb).trans e) f0 f1 f3 f4 f5
    obtain ⟨o, e, c, d⟩ := id st'
    exact ⟨u, rfl, go_of (s := { s with heap := h' }) e c d (by decide) ⟨x, H, I1, ru, ⟨rfl, fun ys hy => by rw [I.list_inj hy hq]; exact hx⟩, st', fun b hb => (hf b hb).1⟩⟩
  done := by
    intro X hP hw hK hc i pins s σ H E I hf st hg
    subst hP hw hK
    obtain ⟨xs, hq, hx⟩ := hg
    obtain ⟨its, rv, p, hz⟩ := I.list hq
    obtain ⟨f0, f1, f2, f3, f4, f5⟩ := hf it (by simp)
    have hl := rv.length
    exact wpAny_pyNext_list_end (I.ok.hd hc) st p.isList (by simp; omega) fun h' eb => ⟨rfl, I.turned (t' := s.toks) (fun b o hb e => eb b o hb e) f0 f1 f3 f4 f5⟩
  self := fun _ _ _ _ _ st h => wpAny_pyIter_listiter st h
theorem turn_tuple {P : Program} {w : World} {K : PySem.W.Frag} {tg : Expr} (a it : Addr) : Turn P w K tg (Itt K a) [it] it (fun i h => h.IsTupleIter it a i) where
  mem := by simp
  obj := fun i h st b hb => by
    have e : b = it := by simpa using hb
    subst e
    obtain ⟨o, e, c, d⟩ := st
    exact ⟨o, e, fun v z => by rw [d] at z; cases z⟩
  keep := fun i h h' st k => st.at fun o e => k it (by simp) o e
  item := by
    intro X hP hw hK hc i pins s σ H E I hf st hg
    subst hP hw hK
    obtain ⟨xs, x, hq, hx⟩ := hg
    obtain ⟨its, rv, p, hz⟩ := I.tuple hq
    obtain ⟨u, hu, ru⟩ := rv.get hx
    obtain ⟨f0, f1, f2, f3, f4, f5⟩ := hf it (by simp)
    refine wpAny_pyNext_tuple_item st (show s.heap.IsTuple a its.toArray from p) (x := u) (by simpa using hu) fun h' st' sb => ?_
    have I1 : Inv X pins σ H { s with heap := h' } := I.turned (t' := s.toks) (fun b o hb e => (sb.2 b hb).trans e) f0 f1 f3 f4 f5
    obtain ⟨o, e, c, d⟩ := id st'
    exact ⟨u, rfl, go_of (s := { s with heap := h' }) e c d (by decide) ⟨x, H, I1, ru, ⟨rfl, fun ys hy => by rw [I.tuple_inj hy hq]; exact hx⟩, st', fun b hb => (hf b hb).1⟩⟩
  done := by
    intro X hP hw hK hc i pins s σ H E I hf st hg
    subst hP hw hK
    obtain ⟨xs, hq, hx⟩ := hg
    obtain ⟨its, rv, p, hz⟩ := I.tuple hq
    obtain ⟨f0, f1, f2, f3, f4, f5⟩ := hf it (by simp)
    have hl := rv.length
    exact wpAny_pyNext_tuple_end (I.ok.hd hc) st (show s.heap.IsTuple a its.toArray from p) (by simp; omega) fun h' eb => ⟨rfl, I.turned (t' := s.toks) (fun b o hb e => eb b o hb e) f0 f1 f3 f4 f5⟩
  self := fun _ _ _ _ _ st h => wpAny_pyIter_tupleiter st h
theorem turn_range {P : Program} {w : World} {K : PySem.W.Frag} {tg : Expr} (it : Addr) (lo : Int) (n : Nat) : Turn P w K tg (Itr lo n) [it] it (fun i h => IsRangeIter h it (lo + (i : Nat) * 1) ((n : Int) - (i : Nat)) 1) where
  mem := by simp
  obj := fun i h st b hb => by
    have e : b = it := by simpa using hb
    subst e
    exact ⟨_, st, fun v z => by
      have z' : Data.fields _ = Data.cell v := z
      cases z'⟩
  keep := fun i h h' st k => k it (by simp) _ st
  item := by
    intro X hP hw hK hc i pins s σ H E I hf st hg
    subst hP hw hK
    obtain ⟨f0, f1, f2, f3, f4, f5⟩ := hf it (by simp)
    have W := Walks.range (prog := X.prog) (w := X.w) (I.ok.hd hc) it lo 1 n
    refine W.item i s _ _ hg st fun v h' tk hv st' kk => ?_
    obtain ⟨t, rfl⟩ := hv
    have I1 : Inv X pins σ H { s with heap := h', toks := tk } := I.turned (fun b o hb e => kk b o (by simpa using hb) e) f0 f1 f3 f4 f5
    refine ⟨_, rfl, go_of (s := { s with heap := h', toks := tk }) (n := "range_iterator") st' rfl rfl (by decide) ⟨.int (lo + i), H, I1, ⟨t, ?_⟩, ⟨rfl, rfl⟩, st', fun b hb => (hf b hb).1⟩⟩
    rw [Int.mul_one]
  done := by
    intro X hP hw hK hc i pins s σ H E I hf st hg
    subst hP hw hK
    obtain ⟨f0, f1, f2, f3, f4, f5⟩ := hf it (by simp)
    exact wpAny_pyNext_range_end (I.ok.hd hc) st (by have : n ≤ i := hg; omega) fun h' eb => ⟨rfl, I.turned (t' := s.toks) (fun b o hb e => eb b o hb e) f0 f1 f3 f4 f5⟩
  self := fun _ _ _ _ _ st h => wpAny_pyIter_rangeiter st h
end L2

namespace L2
open PySem PySem.Spec PyProof.Rows
section
variable {X : Cx} {tg : Expr}
def iList (K : PySem.W.Frag) (tl : TE) : TI := fun σ H R => tl σ H fun x H1 => ∃ a, x = .ref a ∧ (∃ xs, SqL K H1 a xs) ∧ R (Itl K a) H1
def iTup (K : PySem.W.Frag) (tl : TE) : TI := fun σ H R => tl σ H fun x H1 => ∃ a, x = .ref a ∧ (∃ xs, SqT K H1 a xs) ∧ R (Itt K a) H1
theorem pi_list {l : Expr} {tl : TE} (hl : PE X l tl) : PI X tg l (iList X.K tl) := by
  intro pins s σ H R I h
  refine thn (hl pins s σ H _ I h) fun v s1 ⟨x, H1, I1, r1, q1⟩ => ?_
  obtain ⟨a, e, ⟨xs, hq⟩, q⟩ := q1
  subst e
  cases r1
  obtain ⟨its, rv, p, hz⟩ := I1.list hq
  refine wpAny_pyIter_list p.isList ?_
  refine ⟨s1.heap.objs.size, [s1.heap.objs.size], _, _, H1, rfl, I1.kept (t' := s1.toks) fun b o e => Heap.get?_push_of_some _ e, turn_list a _, ⟨_, Heap.get?_push_size _ rfl, rfl, rfl⟩, fun b hb => ?_, q⟩
  have e : b = s1.heap.objs.size := by simpa using hb
  subst e
  exact I1.fpOk (Nat.le_refl _) (I1.hok.fresh (Nat.le_refl _))
theorem pi_tup {l : Expr} {tl : TE} (hl : PE X l tl) : PI X tg l (iTup X.K tl) := by
  intro pins s σ H R I h
  refine thn (hl pins s σ H _ I h) fun v s1 ⟨x, H1, I1, r1, q1⟩ => ?_
  obtain ⟨a, e, ⟨xs, hq⟩, q⟩ := q1
  subst e
  cases r1
  obtain ⟨its, rv, p, hz⟩ := I1.tuple hq
  refine wpAny_pyIter_tuple (show s1.heap.IsTuple a its.toArray from p) ?_
  refine ⟨s1.heap.objs.size, [s1.heap.objs.size], _, _, H1, rfl, I1.kept (t' := s1.toks) fun b o e => Heap.get?_push_of_some _ e, turn_tuple a _, ⟨_, Heap.get?_push_size _ rfl, rfl, rfl⟩, fun b hb => ?_, q⟩
  have e : b = s1.heap.objs.size := by simpa using hb
  subst e
  exact I1.fpOk (Nat.le_refl _) (I1.hok.fresh (Nat.le_refl _))
/-- a range object just made, walked -/
theorem range_it {pins : List (Addr × Obj)} {σ : St} {H : Hp} {s : Shared} {R : It → Hp → Prop} {E : Value → Shared → Prop} {lo hi : Int} {t u v : Tok} {tk : Nat} (I : Inv X pins σ H s) (h1 : -(2 ^ 62) ≤ lo) (h2 : lo < 2 ^ 62) (h3 : -(2 ^ 62) ≤ hi) (h4 : hi < 2 ^ 62)
    (q : R (Itr lo (hi - lo).toNat) H) : wpAny (model X.prog X.w) X.A (pyIter (.ref s.heap.objs.size)) (PIE X pins σ tg R) E { s with heap := s.heap.push { cls := .type "range", data := .fields #[.int lo t, .int hi u, .int 1 v] }, toks := tk } := by
  refine wpAny_pyIter_range (IsRange.new ..) (small_one h1 h2 h3 h4) ?_
  have I1 : Inv X pins σ H { s with heap := s.heap.push { cls := .type "range", data := .fields #[.int lo t, .int hi u, .int 1 v] }, toks := tk } := I.kept fun b o e => Heap.get?_push_of_some _ e
  refine ⟨(s.heap.push { cls := .type "range", data := .fields #[.int lo t, .int hi u, .int 1 v] }).objs.size, [(s.heap.push { cls := .type "range", data := .fields #[.int lo t, .int hi u, .int 1 v] }).objs.size], _, _, H, rfl,
    I1.kept (t' := tk) fun b o e => Heap.get?_push_of_some _ e, turn_range _ lo (hi - lo).toNat, ?_, fun b hb => ?_, q⟩
  · have e1 : lo + ((0 : Nat) : Int) * 1 = lo := by simp
    have e2 : (((hi - lo).toNat : Nat) : Int) - ((0 : Nat) : Int) = Builtin.Range.rangeSize lo hi 1 := by rw [rangeSize_one]; split <;> omega
    show IsRangeIter _ _ (lo + ((0 : Nat) : Int) * 1) ((((hi - lo).toNat : Nat) : Int) - ((0 : Nat) : Int)) 1
    rw [e1, e2]
    exact Heap.get?_push_size _ rfl
  · have e : b = (s.heap.push { cls := .type "range", data := .fields #[.int lo t, .int hi u, .int 1 v] }).objs.size := by simpa using hb
    subst e
    exact I1.fpOk (Nat.le_refl _) (I1.hok.fresh (Nat.le_refl _))
def iRng1 (ta : TA) : TI := fun σ H R => ta σ H fun vs H1 => ∃ j : Int, vs = [.int j] ∧ -(2 ^ 62) ≤ j ∧ j < 2 ^ 62 ∧ R (Itr 0 j.toNat) H1
def iRng2 (ta : TA) : TI := fun σ H R => ta σ H fun vs H1 => ∃ i j : Int, vs = [.int i, .int j] ∧ (-(2 ^ 62) ≤ i ∧ i < 2 ^ 62 ∧ -(2 ^ 62) ≤ j ∧ j < 2 ^ 62) ∧ R (Itr i (j - i).toNat) H1
theorem pi_range1 {a : Expr} {ta : TA} {p pos : Pos} (hg : Gl X "range") (hm : X.mg "range" = none) (ha : PA X [a] ta) (hs : starEach [a] X.env = [(false, eval a X.env)] := by rfl) : PI X tg (.Call (.Name "range" p) [a] [] pos) (iRng1 ta) := by
  intro pins s σ H R I h
  refine Call_ (ld_blt I hg hm boot_range (PyProof.Rows.callWith_type1 (thn (ha pos pins s σ H _ I h) fun us s1 ⟨vs, H1, I1, r1, q1⟩ => ?_) hs rfl))
  obtain ⟨j, e, q1, q2, q⟩ := q1
  subst e
  cases r1 with
  | cons r rr =>
    cases rr
    obtain ⟨t, rfl⟩ := r
    exact call_range_1 (range_it I1 (by omega) (by omega) q1 q2 (by simpa using q))
/-! ### for -/
/-- W: the invariant by the turn and a measure; N: what the body is to reach -/
def tFor (wi : TI) (g : TG) (tb : TS) : TS := fun D σ H => wi σ H fun J H1 => ∃ W : Nat → Nat → St → Hp → Prop, (∃ m, W 0 m σ H1) ∧ ∀ i m σ H, W i m σ H →
  (J.stop i H ∧ D.nx σ H) ∨ (J.go i H ∧ ∃ N : St → Hp → Prop, (∀ σ' H', N σ' H' → ∃ m', m' < m ∧ W (i + 1) m' σ' H') ∧ ∀ x H', J.yld i H x H' → g x σ H' fun σ2 H2 => tb { D with nx := N, ct := N, bk := D.nx } σ2 H2)
/-- the records at fp as they stand -/
def pinsAt (fp : List Addr) (h : Heap) : List (Addr × Obj) := fp.filterMap fun b => (h.get? b).map fun o => (b, o)
theorem mem_pinsAt {fp : List Addr} {h : Heap} {b : Addr} {o : Obj} (hb : b ∈ fp) (e : h.get? b = some o) : (b, o) ∈ pinsAt fp h := List.mem_filterMap.mpr ⟨b, hb, by rw [e]; rfl⟩
theorem of_pinsAt {fp : List Addr} {h : Heap} {p : Addr × Obj} (hp : p ∈ pinsAt fp h) : p.1 ∈ fp ∧ h.get? p.1 = some p.2 := by
  obtain ⟨b, hb, e⟩ := List.mem_filterMap.mp hp
  cases q : h.get? b with
  | none => rw [q] at e; cases e
  | some o =>
    rw [q] at e
    have e' : (b, o) = p := Option.some.inj e
    subst e'
    exact ⟨hb, q⟩
theorem Inv.pinned {pins : List (Addr × Obj)} {σ : St} {H : Hp} {s : Shared} {fp : List Addr} (I : Inv X pins σ H s) (hf : ∀ b ∈ fp, FpOk X pins H b) (ho : ∀ b ∈ fp, ∃ o, s.heap.get? b = some o ∧ ∀ v, o.data ≠ .cell v) : Inv X (pins ++ pinsAt fp s.heap) σ H s :=
  I.pins_of fun p hp => (List.mem_append.mp hp).elim (fun z => I.pin p (List.mem_append_right _ z)) fun z => by
    obtain ⟨hb, e⟩ := of_pinsAt z
    obtain ⟨f0, f1, f2, _⟩ := hf p.1 hb
    obtain ⟨o, e', d⟩ := ho p.1 hb
    rw [e] at e'; cases e'
    exact ⟨e, f0, f1, f2, d⟩
theorem Inv.unpinned {pins pl : List (Addr × Obj)} {σ : St} {H : Hp} {s : Shared} (I : Inv X (pins ++ pl) σ H s) : Inv X pins σ H s := I.pins_of fun p hp => I.pin p (List.mem_append_right _ (List.mem_append_left _ hp))
theorem ps_for {iter : Expr} {body : List Stmt} {wi : TI} {g : TG} {tb : TS} {pos : Pos} (hp : PassesOwn (model X.prog X.w) X.A X.env X.xe) (hc : X.calm = true) (hi : PI X tg iter wi) (hg : PG X tg g) (hb : PSs X body tb)
    (hs : ∀ x, foldedSetIterable iter X.env x = pure x := by intro _; rfl) : PS X (.For tg iter body [] pos) (tFor wi g tb) := by
  intro pins s σ H D I h
  refine wpAny_For (thn (hi pins s σ H _ I h) fun v s1 h1 => thn h1 fun itv s2 h2 => ?_) hs
  obtain ⟨it, fp, tn, J, H2, e, I2, T, st2, f2, W, ⟨m0, w0⟩, turn⟩ := h2
  subst e
  -- what stays true of the iterator's objects through the loop
  have stat : ∀ {H' : Hp}, (∀ b ∈ fp, H' b = none) → ∀ b ∈ fp, FpOk X pins H' b := fun hn b hb => ⟨hn b hb, (f2 b hb).2⟩
  refine codeAny_forLoop_any (fun n s' => ∃ i σ' H', Inv X pins σ' H' s' ∧ tn i s'.heap ∧ (∀ b ∈ fp, H' b = none) ∧ W i n σ' H') ?_ m0 ⟨0, σ, H2, I2, st2, fun b hb => (f2 b hb).1, w0⟩
  rintro n s3 ⟨i, σ3, H3, I3, st3, fr3, w3⟩
  rcases turn i n σ3 H3 w3 with ⟨stop, qn⟩ | ⟨go, N, hN, step⟩
  · refine wpAny_passesOwn hp (thn (T.done X rfl rfl rfl hc i pins s3 σ3 H3 X.xe I3 (stat fr3) st3 stop) fun r s4 ⟨hr, I4⟩ => ?_)
    subst hr
    exact wpAny_execs_nil ⟨σ3, H3, I4, qn⟩
  · refine wpAny_passesOwn hp (thn (T.item X rfl rfl rfl hc i pins s3 σ3 H3 X.xe I3 (stat fr3) st3 go) fun r s4 ⟨u, hr, h4⟩ => ?_)
    subst hr
    refine wpAny_passesOwn hp (thn h4 fun _ s5 ⟨x, H5, I5, r5, y5, st5, fr5⟩ => ?_)
    have I5' := I5.pinned (stat fr5) (T.obj _ _ st5)
    refine wpAny_passesOwn hp (thn (hg _ s5 σ3 H5 x u _ I5' r5 (step x H5 y5)) fun _ s6 ⟨σ6, H6, I6, q6⟩ => ?_)
    refine wpAny_passesOwn hp (thn (hb _ s6 σ6 H6 _ I6 q6) fun f s7 q7 => ?_)
    have again : ∀ {σ7 : St} {H7 : Hp}, Inv X (pins ++ pinsAt fp s5.heap) σ7 H7 s7 → N σ7 H7 → ∃ m, m < n ∧ ∃ i σ' H', Inv X pins σ' H' s7 ∧ tn i s7.heap ∧ (∀ b ∈ fp, H' b = none) ∧ W i m σ' H' := fun {σ7 H7} I7 n7 => by
      obtain ⟨m', hm, w7⟩ := hN σ7 H7 n7
      refine ⟨m', hm, i + 1, σ7, H7, I7.unpinned, T.keep _ _ _ st5 fun b hb o e => (I7.pin (b, o) (List.mem_append_right _ (List.mem_append_right _ (mem_pinsAt hb e)))).1, fun b hb => ?_, w7⟩
      obtain ⟨o, e, d⟩ := T.obj _ _ st5 b hb
      exact (I7.pin (b, o) (List.mem_append_right _ (List.mem_append_right _ (mem_pinsAt hb e)))).2.1
    cases f with
    | next => obtain ⟨σ7, H7, I7, n7⟩ := q7; exact again I7 n7
    | cont => obtain ⟨σ7, H7, I7, n7⟩ := q7; exact again I7 n7
    | brk => obtain ⟨σ7, H7, I7, q7⟩ := q7; exact ⟨σ7, H7, I7.unpinned, q7⟩
    | ret v => obtain ⟨x7, σ7, H7, I7, r7, q7⟩ := q7; exact ⟨x7, σ7, H7, I7.unpinned, r7, q7⟩
end

/-! ### the forms one uses -/
/-- over a list that the body leaves as it is -/
theorem for_list {K : PySem.W.Frag} {a : Addr} {xs : List V} {g : TG} {tb : TS} {D : Ends} {σ : St} {H : Hp} (Pv : Nat → St → Hp → Prop) (h0 : Pv 0 σ H) (hl : ∀ i σ H, i ≤ xs.length → Pv i σ H → SqL K H a xs)
    (hs : ∀ i x σ H, xs[i]? = some x → Pv i σ H → g x σ H fun σ2 H2 => tb { D with nx := Pv (i + 1), ct := Pv (i + 1), bk := D.nx } σ2 H2) (hd : ∀ σ H, Pv xs.length σ H → D.nx σ H) :
    ∃ W : Nat → Nat → St → Hp → Prop, (∃ m, W 0 m σ H) ∧ ∀ i m σ H, W i m σ H →
      ((Itl K a).stop i H ∧ D.nx σ H) ∨ ((Itl K a).go i H ∧ ∃ N : St → Hp → Prop, (∀ σ' H', N σ' H' → ∃ m', m' < m ∧ W (i + 1) m' σ' H') ∧ ∀ x H', (Itl K a).yld i H x H' → g x σ H' fun σ2 H2 => tb { D with nx := N, ct := N, bk := D.nx } σ2 H2) := by
  refine ⟨fun i m σ H => m = xs.length - i ∧ i ≤ xs.length ∧ Pv i σ H, ⟨xs.length, by simp, Nat.zero_le _, h0⟩, ?_⟩
  rintro i m σ H ⟨rfl, hi, p⟩
  have q := hl i σ H hi p
  by_cases hlt : i < xs.length
  · refine .inr ⟨⟨xs, xs[i], q, by simp [hlt]⟩, Pv (i + 1), fun σ' H' p' => ⟨xs.length - (i + 1), by omega, rfl, hlt, p'⟩, fun x H' y => ?_⟩
    obtain ⟨e, y⟩ := y
    subst e
    exact hs i x σ _ (y xs q) p
  · have e : i = xs.length := by omega
    subst e
    exact .inl ⟨⟨xs, q, Nat.le_refl _⟩, hd σ H p⟩
theorem for_range {lo : Int} {n : Nat} {g : TG} {tb : TS} {D : Ends} {σ : St} {H : Hp} (Pv : Nat → St → Hp → Prop) (h0 : Pv 0 σ H)
    (hs : ∀ i σ H, i < n → Pv i σ H → g (.int (lo + i)) σ H fun σ2 H2 => tb { D with nx := Pv (i + 1), ct := Pv (i + 1), bk := D.nx } σ2 H2) (hd : ∀ σ H, Pv n σ H → D.nx σ H) :
    ∃ W : Nat → Nat → St → Hp → Prop, (∃ m, W 0 m σ H) ∧ ∀ i m σ H, W i m σ H →
      ((Itr lo n).stop i H ∧ D.nx σ H) ∨ ((Itr lo n).go i H ∧ ∃ N : St → Hp → Prop, (∀ σ' H', N σ' H' → ∃ m', m' < m ∧ W (i + 1) m' σ' H') ∧ ∀ x H', (Itr lo n).yld i H x H' → g x σ H' fun σ2 H2 => tb { D with nx := N, ct := N, bk := D.nx } σ2 H2) := by
  refine ⟨fun i m σ H => m = n - i ∧ i ≤ n ∧ Pv i σ H, ⟨n, by simp, Nat.zero_le _, h0⟩, ?_⟩
  rintro i m σ H ⟨rfl, hi, p⟩
  by_cases hlt : i < n
  · refine .inr ⟨hlt, Pv (i + 1), fun σ' H' p' => ⟨n - (i + 1), by omega, rfl, hlt, p'⟩, fun x H' y => ?_⟩
    obtain ⟨e, y⟩ := y
    subst e y
    exact hs i σ _ hlt p
  · have e : i = n := by omega
    subst e
    exact .inl ⟨Nat.le_refl _, hd σ H p⟩
end L2

namespace L2
open PySem PySem.Spec PyProof.Rows

abbrev R2 := V → V → Hp → VK → Prop
/-- a two-place operation on values: f is binaryOp op, inplaceOp op or compareOp op -/
def OpR (X : Cx) (f : Value → Value → Sem Value) (r : R2) : Prop :=
  ∀ (pins : List (Addr × Obj)) (s : Shared) (σ : St) (H : Hp) (x y : V) (v u : Value) (Q : VK), Inv X pins σ H s → RelV x v → RelV y u → r x y H Q →
    wpAny (model X.prog X.w) X.A (f v u) (EP X pins σ Q) X.xe s
/-- a one-place operation -/
def UnR (X : Cx) (f : Value → Sem Value) (r : V → Hp → VK → Prop) : Prop :=
  ∀ (pins : List (Addr × Obj)) (s : Shared) (σ : St) (H : Hp) (x : V) (v : Value) (Q : VK), Inv X pins σ H s → RelV x v → r x H Q →
    wpAny (model X.prog X.w) X.A (f v) (EP X pins σ Q) X.xe s
/-- a call of a value that is known (a builtin, a type) with values -/
def CallR (X : Cx) (f : Value) (r : List V → Hp → VK → Prop) : Prop :=
  ∀ (pins : List (Addr × Obj)) (s : Shared) (σ : St) (H : Hp) (xs : List V) (us : List Value) (Q : VK), Inv X pins σ H s → Vals xs us → r xs H Q →
    wpAny (model X.prog X.w) X.A (call f us) (EP X pins σ Q) X.xe s
def tOp (r : R2) (ta tb : TE) : TE := fun σ H Q => ta σ H fun x H1 => tb σ H1 fun y H2 => r x y H2 Q
def tUn (r : V → Hp → VK → Prop) (ta : TE) : TE := fun σ H Q => ta σ H fun x H1 => r x H1 Q
/-- ints in, under C, and a value out -/
def rI (C : Int → Int → Prop) (g : Int → Int → V) : R2 := fun x y H Q => ∃ i j, x = .int i ∧ y = .int j ∧ C i j ∧ Q (g i j) H
def rI0 (g : Int → Int → V) : R2 := fun x y H Q => ∃ i j, x = .int i ∧ y = .int j ∧ Q (g i j) H
def rU (g : Int → V) : V → Hp → VK → Prop := fun x H Q => ∃ i, x = .int i ∧ Q (g i) H

section
variable {X : Cx} {a b c : Expr} {ta tb tc : TE} {pos : Pos}

theorem binT (ha : PE X a ta) (hb : PE X b tb) {pins : List (Addr × Obj)} {s : Shared} {σ : St} {H : Hp} {R : V → V → Hp → Prop} (I : Inv X pins σ H s)
    (h : ta σ H fun x H1 => tb σ H1 fun y H2 => R x y H2) {Q : Value → Shared → Prop} {f : Value → Value → Sem Value}
    (hf : ∀ v u s2 x y H2, Inv X pins σ H2 s2 → RelV x v → RelV y u → R x y H2 → wpAny (model X.prog X.w) X.A (f v u) Q X.xe s2) :
    wpAny (model X.prog X.w) X.A (eval a X.env) (fun v s₁ => wpAny (model X.prog X.w) X.A (eval b X.env) (fun u s₂ => wpAny (model X.prog X.w) X.A (f v u) Q X.xe s₂) X.xe s₁) X.xe s := by
  refine thn (ha pins s σ H _ I h) fun v s1 ⟨x, H1, I1, r1, q1⟩ => ?_
  refine thn (hb pins s1 σ H1 _ I1 q1) fun u s2 ⟨y, H2, I2, r2, q2⟩ => ?_
  exact hf v u s2 x y H2 I2 r1 r2 q2

theorem pe_op {op : Operator} {r : R2} (ho : OpR X (binaryOp op) r) (ha : PE X a ta) (hb : PE X b tb) : PE X (.BinOp a op b pos) (tOp r ta tb) := by
  intro pins s σ H Q I h
  exact wpAny_BinOp (binT ha hb I h fun v u s2 x y H2 I2 rx ry q => ho pins s2 σ H2 x y v u Q I2 rx ry q)
theorem pe_un {op : UnaryOp} {r : V → Hp → VK → Prop} (ho : UnR X (unaryOp op) r) (ha : PE X a ta) : PE X (.UnaryOp op a pos) (tUn r ta) := by
  intro pins s σ H Q I h
  exact UnaryOp_ (thn (ha pins s σ H _ I h) fun v s1 ⟨x, H1, I1, r1, q1⟩ => ho pins s1 σ H1 x v Q I1 r1 q1)
/-! ### ints -/
theorem opI {f : Value → Value → Sem Value} {C : Int → Int → Prop} {g : Int → Int → Int}
    (rule : ∀ (i j : Int) (t u : Tok) (s : Shared) (Q : Value → Shared → Prop) (E : Value → Shared → Prop), C i j → Q (.int (g i j) s.toks) { s with toks := s.toks + 1 } → wpAny (model X.prog X.w) X.A (f (.int i t) (.int j u)) Q E s) :
    OpR X f (rI C fun i j => .int (g i j)) := by
  intro pins s σ H x y v u Q I rx ry h
  obtain ⟨i, j, rfl, rfl, hc, q⟩ := h
  obtain ⟨t, rfl⟩ := rx
  obtain ⟨t', rfl⟩ := ry
  exact rule i j t t' s _ _ hc ⟨.int (g i j), H, I.tok _, ⟨_, rfl⟩, q⟩
theorem opI0 {f : Value → Value → Sem Value} {g : Int → Int → Int}
    (rule : ∀ (i j : Int) (t u : Tok) (s : Shared) (Q : Value → Shared → Prop) (E : Value → Shared → Prop), Q (.int (g i j) s.toks) { s with toks := s.toks + 1 } → wpAny (model X.prog X.w) X.A (f (.int i t) (.int j u)) Q E s) :
    OpR X f (rI0 fun i j => .int (g i j)) := by
  intro pins s σ H x y v u Q I rx ry h
  obtain ⟨i, j, rfl, rfl, q⟩ := h
  obtain ⟨t, rfl⟩ := rx
  obtain ⟨t', rfl⟩ := ry
  exact rule i j t t' s _ _ ⟨.int (g i j), H, I.tok _, ⟨_, rfl⟩, q⟩
theorem opB0 {f : Value → Value → Sem Value} {g : Int → Int → Bool}
    (rule : ∀ (i j : Int) (t u : Tok) (s : Shared) (Q : Value → Shared → Prop) (E : Value → Shared → Prop), Q (.bool (g i j)) s → wpAny (model X.prog X.w) X.A (f (.int i t) (.int j u)) Q E s) :
    OpR X f (rI0 fun i j => .bl (g i j)) := by
  intro pins s σ H x y v u Q I rx ry h
  obtain ⟨i, j, rfl, rfl, q⟩ := h
  obtain ⟨t, rfl⟩ := rx
  obtain ⟨t', rfl⟩ := ry
  exact rule i j t t' s _ _ ⟨.bl (g i j), H, I, rfl, q⟩

def CPow (i j : Int) : Prop := 0 ≤ j ∧ j ≤ 1000000 ∧ i.natAbs < 2 ^ 64
def CMul (i j : Int) : Prop := (-(2 ^ 64) < i ∧ i < 2 ^ 64) ∨ (-(2 ^ 64) < j ∧ j < 2 ^ 64)
theorem CMul.ok {i j : Int} (h : CMul i j) : IntMulOk i j := by
  rcases h with ⟨h1, h2⟩ | ⟨h1, h2⟩
  · exact .of_left (intBits_le_64 h1 h2)
  · exact .of_right (intBits_le_64 h1 h2)
theorem op_add : OpR X (binaryOp .Add) (rI0 fun i j => .int (i + j)) := opI0 fun _ _ _ _ _ _ _ q => add_int q
theorem op_sub : OpR X (binaryOp .Sub) (rI0 fun i j => .int (i - j)) := opI0 fun _ _ _ _ _ _ _ q => sub_int q
theorem op_mul : OpR X (binaryOp .Mult) (rI CMul fun i j => .int (i * j)) := opI fun _ _ _ _ _ _ _ hc q => mul_int q hc.ok
/-- % by a positive divisor of any size -/
theorem op_mod : OpR X (binaryOp .Mod) (rI (fun _ j => 0 < j) fun i j => .int (i % j)) := opI fun i j _ _ _ _ _ hc q => by
  have h1 : (0 : Int) < j := hc
  exact mod_int' (by omega) (by rw [Int.fmod_eq_emod_of_nonneg i (by omega)]; exact q)
theorem op_pow : OpR X (binaryOp .Pow) (rI CPow fun i j => .int (i ^ j.toNat)) := opI fun _ _ _ _ _ _ _ hc q => pow_int_small hc.1 hc.2.1 hc.2.2 q
theorem iop_add : OpR X (inplaceOp .Add) (rI0 fun i j => .int (i + j)) := opI0 fun _ _ _ _ _ _ _ q => iadd_int q
theorem unI {f : Value → Sem Value} {g : Int → Int}
    (rule : ∀ (i : Int) (t : Tok) (s : Shared) (Q : Value → Shared → Prop) (E : Value → Shared → Prop), Q (.int (g i) s.toks) { s with toks := s.toks + 1 } → wpAny (model X.prog X.w) X.A (f (.int i t)) Q E s) :
    UnR X f (rU fun i => .int (g i)) := by
  intro pins s σ H x v Q I rx h
  obtain ⟨i, rfl, q⟩ := h
  obtain ⟨t, rfl⟩ := rx
  exact rule i t s _ _ ⟨.int (g i), H, I.tok _, ⟨_, rfl⟩, q⟩
theorem un_neg : UnR X (unaryOp .USub) (rU fun i => .int (-i)) := unI fun _ _ _ _ _ q => neg_int q
/-! ### bools among ints: n += (a < b) -/
end

/-! ### comparisons -/
/-- the scalars that == tells apart as data does -/
def scal : V → V → Bool
  | .non, .non => true | .non, .int _ => true | .int _, .non => true | .non, .bl _ => true | .bl _, .non => true | .non, .str _ => true | .str _, .non => true
  | .int _, .int _ => true | .bl _, .bl _ => true | .str _, .str _ => true | .byt _, .byt _ => true
  | .int _, .str _ => true | .str _, .int _ => true | .bl _, .str _ => true | .str _, .bl _ => true
  | _, _ => false
def rEq : R2 := fun x y H Q => scal x y = true ∧ Q (.bl (decide (x = y))) H
def rNe : R2 := fun x y H Q => scal x y = true ∧ Q (.bl (!decide (x = y))) H

theorem dec_int {i j : Int} : decide (V.int i = V.int j) = (i == j) := by
  rw [Bool.eq_iff_iff]
  simp
theorem dec_bl {i j : Bool} : decide (V.bl i = V.bl j) = (i == j) := by
  rw [Bool.eq_iff_iff]
  simp
theorem dec_str {i j : Str} : decide (V.str i = V.str j) = (i == j) := by
  rw [Bool.eq_iff_iff]
  simp
theorem dec_byt {i j : Array UInt8} : decide (V.byt i = V.byt j) = (i.toList == j.toList) := by
  rw [Bool.eq_iff_iff]
  cases i
  cases j
  simp

section
variable {X : Cx} {a b c : Expr} {ta tb tc : TE} {pos : Pos}
theorem fin_bl {pins : List (Addr × Obj)} {σ : St} {H : Hp} {s : Shared} {Q : VK} {k k' : Bool} (I : Inv X pins σ H s) (q : Q (.bl k) H) (e : k = k') : EP X pins σ Q (.bool k') s := by
  subst e
  exact ⟨.bl k, H, I, rfl, q⟩
theorem op_eq : OpR X (compareOp .Eq) rEq := by
  intro pins s σ H x y v u Q I rx ry h
  obtain ⟨hs, q⟩ := h
  cases x with
  | non =>
    cases rx
    cases y with
    | non => cases ry; exact PySem.EqNone.eq_none_none (fin_bl I q (by simp))
    | bl j => cases ry; exact PySem.EqNone.eq_none_bool (fin_bl I q (by simp))
    | int j => obtain ⟨t', rfl⟩ := ry; exact PySem.EqNone.eq_none_int (fin_bl I q (by simp))
    | str j => obtain ⟨t', rfl⟩ := ry; exact PySem.EqNone.eq_none_str (fin_bl I q (by simp))
    | _ => exact absurd (show false = true from hs) Bool.false_ne_true
  | bl i =>
    cases rx
    cases y with
    | non => cases ry; exact PySem.EqNone.eq_bool_none (fin_bl I q (by simp))
    | bl j => cases ry; exact eq_bool (fin_bl I q dec_bl)
    | str j => obtain ⟨t', rfl⟩ := ry; exact PySem.EqMixed.eq_bool_str (fin_bl I q (by simp))
    | _ => exact absurd (show false = true from hs) Bool.false_ne_true
  | int i =>
    obtain ⟨t, rfl⟩ := rx
    cases y with
    | non => cases ry; exact PySem.EqNone.eq_int_none (fin_bl I q (by simp))
    | int j => obtain ⟨t', rfl⟩ := ry; exact eq_int (fin_bl I q dec_int)
    | str j => obtain ⟨t', rfl⟩ := ry; exact PySem.EqMixed.eq_int_str (fin_bl I q (by simp))
    | _ => exact absurd (show false = true from hs) Bool.false_ne_true
  | str i =>
    obtain ⟨t, rfl⟩ := rx
    cases y with
    | non => cases ry; exact PySem.EqNone.eq_str_none (fin_bl I q (by simp))
    | bl j => cases ry; exact PySem.EqMixed.eq_str_bool (fin_bl I q (by simp))
    | int j => obtain ⟨t', rfl⟩ := ry; exact PySem.EqMixed.eq_str_int (fin_bl I q (by simp))
    | str j => obtain ⟨t', rfl⟩ := ry; exact eq_str (fin_bl I q dec_str)
    | _ => exact absurd (show false = true from hs) Bool.false_ne_true
  | byt i =>
    obtain ⟨t, rfl⟩ := rx
    cases y with
    | byt j => obtain ⟨t', rfl⟩ := ry; exact PySem.W.eq_bytes (fin_bl I q dec_byt)
    | _ => exact absurd (show false = true from hs) Bool.false_ne_true
  | _ => cases y <;> exact absurd (show false = true from hs) Bool.false_ne_true
theorem op_ne : OpR X (compareOp .NotEq) rNe := by
  intro pins s σ H x y v u Q I rx ry h
  obtain ⟨hs, q⟩ := h
  cases x with
  | non =>
    cases rx
    cases y with
    | non => cases ry; exact PySem.EqNone.ne_none_none (fin_bl I q (by simp))
    | bl j => cases ry; exact PySem.EqNone.ne_none_bool (fin_bl I q (by simp))
    | int j => obtain ⟨t', rfl⟩ := ry; exact PySem.EqNone.ne_none_int (fin_bl I q (by simp))
    | str j => obtain ⟨t', rfl⟩ := ry; exact PySem.EqNone.ne_none_str (fin_bl I q (by simp))
    | _ => exact absurd (show false = true from hs) Bool.false_ne_true
  | bl i =>
    cases rx
    cases y with
    | non => cases ry; exact PySem.EqNone.ne_bool_none (fin_bl I q (by simp))
    | bl j => cases ry; exact ne_bool (fin_bl I q (congrArg not dec_bl))
    | str j => obtain ⟨t', rfl⟩ := ry; exact PySem.EqMixed.ne_bool_str (fin_bl I q (by simp))
    | _ => exact absurd (show false = true from hs) Bool.false_ne_true
  | int i =>
    obtain ⟨t, rfl⟩ := rx
    cases y with
    | non => cases ry; exact PySem.EqNone.ne_int_none (fin_bl I q (by simp))
    | int j => obtain ⟨t', rfl⟩ := ry; exact ne_int (fin_bl I q (congrArg not dec_int))
    | str j => obtain ⟨t', rfl⟩ := ry; exact PySem.EqMixed.ne_int_str (fin_bl I q (by simp))
    | _ => exact absurd (show false = true from hs) Bool.false_ne_true
  | str i =>
    obtain ⟨t, rfl⟩ := rx
    cases y with
    | non => cases ry; exact PySem.EqNone.ne_str_none (fin_bl I q (by simp))
    | bl j => cases ry; exact PySem.EqMixed.ne_str_bool (fin_bl I q (by simp))
    | int j => obtain ⟨t', rfl⟩ := ry; exact PySem.EqMixed.ne_str_int (fin_bl I q (by simp))
    | str j => obtain ⟨t', rfl⟩ := ry; exact ne_str (fin_bl I q (congrArg not dec_str))
    | _ => exact absurd (show false = true from hs) Bool.false_ne_true
  | byt i =>
    obtain ⟨t, rfl⟩ := rx
    cases y with
    | byt j => obtain ⟨t', rfl⟩ := ry; exact PySem.W.ne_bytes (fin_bl I q (congrArg not dec_byt))
    | _ => exact absurd (show false = true from hs) Bool.false_ne_true
  | _ => cases y <;> exact absurd (show false = true from hs) Bool.false_ne_true

theorem op_lt : OpR X (compareOp .Lt) (rI0 fun i j => .bl (decide (i < j))) := opB0 fun _ _ _ _ _ _ _ q => lt_int q
theorem op_le : OpR X (compareOp .LtE) (rI0 fun i j => .bl (decide (i ≤ j))) := opB0 fun _ _ _ _ _ _ _ q => le_int q
theorem op_gt : OpR X (compareOp .Gt) (rI0 fun i j => .bl (decide (j < i))) := opB0 fun _ _ _ _ _ _ _ q => gt_int q
theorem op_ge : OpR X (compareOp .GtE) (rI0 fun i j => .bl (decide (j ≤ i))) := opB0 fun _ _ _ _ _ _ _ q => ge_int q
/-- is None, is not None: the right side a value none -/
theorem op_isN : OpR X (compareOp .Is) (fun x y H Q => y = .non ∧ Q (.bl (decide (x = .non))) H) := by
  intro pins s σ H x y v u Q I rx ry h
  obtain ⟨rfl, q⟩ := h
  cases ry
  refine is_none_gen (fin_bl I q ?_)
  cases x <;> first
    | (cases rx; rfl)
    | (obtain ⟨t, rfl⟩ := rx; rfl)
theorem op_notN : OpR X (compareOp .IsNot) (fun x y H Q => y = .non ∧ Q (.bl (!decide (x = .non))) H) := by
  intro pins s σ H x y v u Q I rx ry h
  obtain ⟨rfl, q⟩ := h
  cases ry
  refine isnot_none_gen (fin_bl I q ?_)
  cases x <;> first
    | (cases rx; rfl)
    | (obtain ⟨t, rfl⟩ := rx; rfl)

/-- two rules for one operation: by cases -/
theorem OpR.or {f : Value → Value → Sem Value} {r r' : R2} (h : OpR X f r) (h' : OpR X f r') : OpR X f (fun x y H Q => r x y H Q ∨ r' x y H Q) := by
  intro pins s σ H x y v u Q I rx ry q
  rcases q with q | q
  · exact h pins s σ H x y v u Q I rx ry q
  · exact h' pins s σ H x y v u Q I rx ry q

theorem nomark (b : Expr) {op : CmpOp} (h : op ≠ .In := by decide) (h2 : op ≠ .NotIn := by decide) : behindInMarks op b = false := by
  have e1 : (op == CmpOp.In) = false := by cases op <;> first | rfl | exact absurd rfl h
  have e2 : (op == CmpOp.NotIn) = false := by cases op <;> first | rfl | exact absurd rfl h2
  cases b <;> simp [behindInMarks, e1, e2]
/-- a comparison as a value; hm: nomark b, or (for in, not in) by with_unfolding_all rfl -/
theorem pe_cmpR {op : CmpOp} {r : R2} (ho : OpR X (compareOp op) r) (ha : PE X a ta) (hb : PE X b tb) (hm : behindInMarks op b = false) : PE X (.Compare a [op] [b] pos) (tOp r ta tb) := by
  intro pins s σ H Q I h
  exact wpAny_Compare1 (binT ha hb I h fun v u s2 x y H2 I2 rx ry q => ho pins s2 σ H2 x y v u Q I2 rx ry q) hm
/-- a reading of a value as a test -/
def tTest (t : TE) : TT := fun σ H Q => t σ H fun x H' => ∃ k, x = .bl k ∧ Q k H'
theorem pt_cmpR {op : CmpOp} {r : R2} (ho : OpR X (compareOp op) r) (ha : PE X a ta) (hb : PE X b tb) (hm : behindInMarks op b = false) : PT X (.Compare a [op] [b] pos) (tTest (tOp r ta tb)) := by
  intro pins s σ H Q I h
  refine wpAny_isTrue_Compare1 (thn (ha pins s σ H _ I h) fun v s1 ⟨x, H1, I1, r1, q1⟩ => thn (hb pins s1 σ H1 _ I1 q1) fun u s2 ⟨y, H2, I2, r2, q2⟩ =>
    thn (ho pins s2 σ H2 x y v u _ I2 r1 r2 q2) fun c s3 ⟨z, H3, I3, r3, k, e, q3⟩ => ?_) hm
  subst e
  cases r3
  exact wpAny_truthy_bool ⟨H3, I3, q3⟩
/-- a op1 b op2 c -/
def tChain (r r' : R2) (ta tb tc : TE) : TE := fun σ H Q => ta σ H fun x H1 => tb σ H1 fun y H2 => r x y H2 fun z H3 => ∃ k, z = .bl k ∧
  (if k = true then tc σ H3 fun w' H4 => r' y w' H4 Q else Q (.bl false) H3)
theorem pt_chain {op op' : CmpOp} {r r' : R2} (ho : OpR X (compareOp op) r) (ho' : OpR X (compareOp op') r') (ha : PE X a ta) (hb : PE X b tb) (hc : PE X c tc)
    (hm : lastMarks [op, op'] [b, c] = false := by with_unfolding_all rfl) : PT X (.Compare a [op, op'] [b, c] pos) (tTest (tChain r r' ta tb tc)) := by
  intro pins s σ H Q I h
  refine isTrue_chain (thn (ha pins s σ H _ I h) fun v s1 ⟨x, H1, I1, r1, q1⟩ => test_link (thn (hb pins s1 σ H1 _ I1 q1) fun u s2 ⟨y, H2, I2, r2, q2⟩ =>
    thn (ho pins s2 σ H2 x y v u _ I2 r1 r2 q2) fun d s3 ⟨z, H3, I3, r3, k, e, q3⟩ => ?_)) hm
  subst e
  cases r3
  refine wpAny_truthy_bool ?_
  cases k with
  | false =>
    obtain ⟨k', e', q'⟩ := q3
    cases e'
    exact ite_ff ⟨H3, I3, q'⟩
  | true =>
    refine ite_tt (test_last (thn (hc pins s3 σ H3 _ I3 q3) fun w' s4 ⟨z', H4, I4, r4, q4⟩ => thn (ho' pins s4 σ H4 y z' u w' _ I4 r2 r4 q4) fun d' s5 ⟨z2, H5, I5, r5, k2, e2, q5⟩ => ?_))
    subst e2
    cases r5
    exact wpAny_truthy_bool ⟨H5, I5, q5⟩

/-! ### truth -/
theorem line63 : (sizeLine : Nat) < 2 ^ 63 := by rw [sizeLine_eq]; decide
/-! ### strs and bytes -/
/-! ### scalar builtins, by CallR -/
theorem vals1 {x : V} {us : List Value} (r : Vals [x] us) : ∃ u, us = [u] ∧ RelV x u := by
  cases r with
  | cons r1 r2 => cases r2; exact ⟨_, rfl, r1⟩
theorem vals2 {x y : V} {us : List Value} (r : Vals [x, y] us) : ∃ u w', us = [u, w'] ∧ RelV x u ∧ RelV y w' := by
  cases r with
  | cons r1 r2 =>
    cases r2 with
    | cons r3 r4 => cases r4; exact ⟨_, _, rfl, r1, r3⟩
theorem call_int1 : CallR X (.type "int") (fun xs H Q => (∃ i, xs = [.int i] ∧ Q (.int i) H) ∨ ∃ k, xs = [.bl k] ∧ Q (.int (if k then 1 else 0)) H) := by
  intro pins s σ H xs us Q I r h
  rcases h with ⟨i, rfl, q⟩ | ⟨k, rfl, q⟩
  · obtain ⟨u, rfl, t, rfl⟩ := vals1 r
    exact call_int_int ⟨.int i, H, I, ⟨_, rfl⟩, q⟩
  · obtain ⟨u, rfl, r1⟩ := vals1 r
    cases r1
    exact call_int_bool ⟨.int (if k then 1 else 0), H, I.tok _, ⟨_, rfl⟩, q⟩
end
end L2

namespace L2
open PySem PySem.Spec PyProof.Rows

/-! ### an instance, its attributes a map -/
structure ObjM (h : Heap) (x dx C : Addr) (mA : Str → Option Value) : Prop where
  obj : h.get? x = some (PySem.W.instObj C dx)
  ns : h.Ns1 dx mA
  ne : dx ≠ x

theorem lookIn_ns {h : Heap} {dx : Addr} {mA : Str → Option Value} (n : h.Ns1 dx mA) : ∃ od, h.get? dx = some od ∧ ∀ name, PySem.W.lookIn name od = some (mA name) := by
  obtain ⟨o, es, ep, ho, hd, hk, _, hm⟩ := n
  refine ⟨o, ho, fun name => ?_⟩
  have e := hm name
  unfold nsFind findBy at e
  rw [← Array.find?_toList] at e
  unfold PySem.W.lookIn
  rw [hd]
  dsimp only
  split
  · rename_i y q
    rw [q] at e
    exact congrArg some e
  · rename_i q
    rw [q] at e
    have a : es.toList.any (·.refKey) = false := by
      rw [List.any_eq_false]
      intro y hy
      obtain ⟨z, t, hkey⟩ := hk y (Array.mem_toList_iff.mp hy)
      simp [DictEntry.refKey, hkey]
    have a' : ¬ es.toList.any (·.refKey) = true := by rw [a]; exact Bool.false_ne_true
    rw [if_neg a']
    exact congrArg some e

theorem ObjM.look {h : Heap} {x dx C : Addr} {mA : Str → Option Value} (I : ObjM h x dx C mA) : ∃ od, PySem.W.InstAt h x (PySem.W.instObj C dx) C (some od) ∧ ∀ name, PySem.W.lookIn name od = some (mA name) :=
  let ⟨od, ho, hl⟩ := lookIn_ns I.ns
  ⟨od, ⟨I.obj, rfl, rfl, ho⟩, hl⟩

section
variable {prog : Program} {w : World} {A : Around} {E : Value → Shared → Prop} {s : Shared} {K : PySem.W.Frag} {x dx C f : Addr} {mA : Str → Option Value} {name : Str} {v : Value}

theorem get_map {expr : Bool} {Q : Value → Shared → Prop} (X : K.In s.heap) (I : ObjM s.heap x dx C mA) (hg : PySem.W.plainGet K C name = true) (hh : PySem.W.hasDictIn K C = true)
    (ha : PySem.W.findIn K (.ref C) name = some none) (hv : mA name = some v) (hv' : PySem.W.handedIn v = true) (h : Q v { s with toks := s.toks + 1 }) :
    wpAny (model prog w) A (getAttr (.ref x) name expr) Q E s := by
  obtain ⟨od, J, hl⟩ := I.look
  exact PySem.W.get_value X J (PySem.W.plainGet_of hg).1 (PySem.W.findObj_own hh ha rfl (by rw [hl, hv])) hv' h

theorem get_meth {pl : Sem Bool} {Q : Value × List Value → Shared → Prop} (X : K.In s.heap) (I : ObjM s.heap x dx C mA) (hg : PySem.W.plainGet K C name = true)
    (hf : PySem.W.findIn K (.ref C) name = some (some (.ref f))) (ht : PySem.W.isFn K (.ref f) = true) (hv : mA name = none) (h : Q (.ref f, [.ref x]) s) :
    wpAny (model prog w) A (getMethod (.ref x) name pl) Q E s := by
  obtain ⟨od, J, hl⟩ := I.look
  exact PySem.W.method_fn X J (PySem.W.plainGet_of hg).1 (PySem.W.plainGet_of hg).2 hf (beq_iff_eq.mp ht) (by show (PySem.W.lookIn name od).map (·.isSome) = some false; rw [hl, hv]; rfl) h

theorem set_map {ns : List Str} {Q : Unit → Shared → Prop} (X : K.In s.heap) (I : ObjM s.heap x dx C mA)
    (hs : PySem.W.findIn K (.ref C) "__setattr__" = some (some (.builtin "object.__setattr__"))) (hp : PySem.W.plainOver K C = true) (ht : PySem.W.takerIn K C name = some none) (hh : PySem.W.hasDictIn K C = true)
    (hw : PySem.Within mA ns) (hsz : ns.length ≤ sizeLine)
    (h : ∀ h', ObjM h' x dx C (fun y => if y = name then some v else mA y) → Heap.SameBut dx s.heap h' → Q () { s with heap := h', toks := s.toks + 2 }) :
    wpAny (model prog w) A (setAttr (.ref x) name v) Q E s := by
  obtain ⟨od, J, hl⟩ := I.look
  refine PySem.W.set_plain X J hs (PySem.W.osa_open (s := { s with toks := s.toks + 1 }) (r := none) X J hp ht fun b => ?_)
  obtain ⟨cd, hc, hd'⟩ := PySem.W.any_some hh
  have hx : s.heap.get? x = some ⟨.ref C, some dx, .plain, #[]⟩ := I.obj
  refine wpAny_bind (wpAny_pure (wpAny_bind (wpAny_bind (wpAny_loadPart hx (wpAny_bind (PySem.W.Looks.here (s := { s with toks := s.toks + 1 }) (PySem.W.looks_clsIn X hc) ?_))))))
  rw [hd']
  refine wpAny_pure (a := some dx) (wpAny_bind (wpAny_pure (wpAny_bind ?_)))
  refine wpAny_nsSet1 (s := { s with toks := s.toks + 1 }) I.ns fun h' hn2 hs2 => ?_
  obtain ⟨oD, esD, epD, hoD, hdD, hcD⟩ := hn2.count (PySem.Within.cons name v hw)
  refine wpAny_bind (wpAny_lookBehind hoD (by rw [hdD]; exact pastItsLine_dict (Nat.le_trans hcD (by rw [List.length_cons]; omega))) ?_)
  exact wpAny_pure (h _ ⟨(hs2.2 _ (Ne.symm I.ne)).trans I.obj, hn2, I.ne⟩ hs2)

/-- C(..): the dict at the heap's end, the instance behind it; then its __init__ -/
theorem make_map {R : Result → Shared → Prop} {vs : List Value} {kw : List (Str × Value)} (X : K.In s.heap) (hm : PySem.W.makesIn K C = true)
    (hi : PySem.W.findIn K (.ref C) "__init__" = some (some (.ref f))) (hf : PySem.W.typeIn K (.ref f) = some (.type "function"))
    (h : codeAny (model prog w) (A.under (.builtin "type.__call__" ⟨.ref C :: vs, kw⟩)) (.call (.ref f) ⟨.ref (s.heap.objs.size + 1) :: vs, kw⟩) (PySem.W.InitBack (s.heap.objs.size + 1) R)
      { s with heap := (s.heap.push PySem.W.emptyDict).push (PySem.W.instObj C s.heap.objs.size) }) :
    codeAny (model prog w) A (.call (.ref C) ⟨vs, kw⟩) R s := by
  obtain ⟨hh, g, d, t, os⟩ := s
  exact PySem.W.make_core (PySem.W.makes_of X hm) (PySem.W.looks_findIn X hi) (fun self => PySem.W.bind_fn X self hf) (.inl rfl) h
end

/-! ### the attributes as a list of pairs -/
def putF (f : Str) (v : V) : List (Str × V) → List (Str × V)
  | [] => [(f, v)]
  | (g, x) :: r => if g = f then (g, v) :: r else (g, x) :: putF f v r
theorem lookup_putF (f g : Str) (v : V) : ∀ fs : List (Str × V), (putF f v fs).lookup g = if g = f then some v else fs.lookup g
  | [] => by
    show List.lookup g [(f, v)] = _
    by_cases h : g = f
    · have hb : (g == f) = true := beq_iff_eq.mpr h
      simp only [List.lookup, hb, if_pos h]
    · have hb : (g == f) = false := beq_eq_false_iff_ne.mpr h
      simp only [List.lookup, hb, if_neg h]
  | (k, x) :: r => by
    have ih := lookup_putF f g v r
    rw [show putF f v ((k, x) :: r) = (if k = f then (k, v) :: r else (k, x) :: putF f v r) from rfl]
    by_cases hk : k = f
    · rw [if_pos hk]
      by_cases h : g = k
      · have hb : (g == k) = true := beq_iff_eq.mpr h
        simp only [List.lookup, hb, if_pos (h.trans hk)]
      · have hb : (g == k) = false := beq_eq_false_iff_ne.mpr h
        simp only [List.lookup, hb, if_neg (fun e : g = f => h (e.trans hk.symm))]
    · rw [if_neg hk]
      by_cases h : g = k
      · have hb : (g == k) = true := beq_iff_eq.mpr h
        simp only [List.lookup, hb, if_neg (fun e : g = f => hk (h.symm.trans e))]
      · have hb : (g == k) = false := beq_eq_false_iff_ne.mpr h
        simp only [List.lookup, hb]
        exact ih
theorem keys_putF (f : Str) (v : V) : ∀ fs : List (Str × V), f ∈ (putF f v fs).map (·.1) ∧ ∀ g, g ∈ fs.map (·.1) → g ∈ (putF f v fs).map (·.1)
  | [] => ⟨by simp [putF], fun g h => by simp at h⟩
  | (k, x) :: r => by
    obtain ⟨i1, i2⟩ := keys_putF f v r
    rw [show putF f v ((k, x) :: r) = (if k = f then (k, v) :: r else (k, x) :: putF f v r) from rfl]
    by_cases hk : k = f
    · rw [if_pos hk]
      subst hk
      exact ⟨by simp, fun g h => by simpa using h⟩
    · rw [if_neg hk]
      refine ⟨?_, fun g h => ?_⟩
      · rw [List.map_cons]
        exact List.mem_cons_of_mem _ i1
      · rw [List.map_cons] at h ⊢
        rcases List.mem_cons.mp h with e | e
        · exact List.mem_cons.mpr (.inl e)
        · exact List.mem_cons_of_mem _ (i2 g e)
theorem length_putF (f : Str) (v : V) : ∀ fs : List (Str × V), (putF f v fs).length ≤ fs.length + 1
  | [] => by simp [putF]
  | (k, x) :: r => by
    have ih := length_putF f v r
    rw [show putF f v ((k, x) :: r) = (if k = f then (k, v) :: r else (k, x) :: putF f v r) from rfl]
    by_cases hk : k = f
    · rw [if_pos hk, List.length_cons, List.length_cons]; omega
    · rw [if_neg hk, List.length_cons, List.length_cons]; omega

theorem RelO.some_of {v : V} {o : Option Value} (r : RelO (some v) o) : ∃ u, o = some u ∧ RelV v u := by
  cases o with
  | none => exact (show False from r).elim
  | some u => exact ⟨u, rfl, r⟩
theorem RelO.none_of {o : Option Value} (r : RelO none o) : o = none := by
  cases o with
  | none => rfl
  | some u => exact (show False from r).elim
theorem handed_of {v : V} {u : Value} (r : RelV v u) : PySem.W.handedIn u = true := by
  cases v with
  | non => cases (show u = Value.none from r); rfl
  | bl b => cases (show u = Value.bool b from r); rfl
  | int i => obtain ⟨t, e⟩ := (show ∃ t, u = Value.int i t from r); cases e; rfl
  | str x => obtain ⟨t, e⟩ := (show ∃ t, u = Value.str x t from r); cases e; rfl
  | byt b => obtain ⟨t, e⟩ := (show ∃ t, u = Value.bytes b t from r); cases e; rfl
  | flt b => obtain ⟨t, e⟩ := (show ∃ t, u = Value.float b t from r); cases e; rfl
  | ref a => cases (show u = Value.ref a from r); rfl
  | ty n => cases (show u = Value.type n from r); rfl

section
variable {P : Program} {w : World} {H H' : Hp} {h h' : Heap} {a C dx : Addr} {fs fs' : List (Str × V)}
theorem ins_get (hok : HOk P w H h) (e : H a = some (.ins C dx fs)) : ∃ mA, ObjM h a dx C mA ∧ (∀ f, RelO (fs.lookup f) (mA f)) ∧ PySem.Within mA (fs.map (·.1)) ∧ fs.length ≤ 1000 ∧ H dx = some (.own a) := by
  obtain ⟨d, z, ne, ob, mA, n, r, q⟩ := (show ObjOk P w H h a (.ins C dx fs) from hok a _ e)
  exact ⟨mA, ⟨ob, n, ne⟩, r, q, z, d⟩
end

/-! ### what of the text a class must have -/
structure Cls (K : PySem.W.Frag) (C : Addr) : Prop where
  pg : PySem.W.plainGet K C Str.empty = true
  hd : PySem.W.hasDictIn K C = true
  po : PySem.W.plainOver K C = true
  sa : PySem.W.findIn K (.ref C) "__setattr__" = some (some (.builtin "object.__setattr__"))
theorem Cls.get {K : PySem.W.Frag} {C : Addr} (c : Cls K C) (f : Str) : PySem.W.plainGet K C f = true := c.pg
/-- no class of it has the name -/
def NoAttr (K : PySem.W.Frag) (C : Addr) (f : Str) : Prop := PySem.W.findIn K (.ref C) f = some none
theorem NoAttr.taker {K : PySem.W.Frag} {C : Addr} {f : Str} (n : NoAttr K C f) : PySem.W.takerIn K C f = some none := by
  unfold PySem.W.takerIn
  rw [show PySem.W.findIn K (.ref C) f = some none from n]
  rfl
/-- a constant of the class -/
structure Con (K : PySem.W.Frag) (C : Addr) (f : Str) (v : V) (u : Value) : Prop where
  at_ : PySem.W.findIn K (.ref C) f = some (some u)
  rel : RelV v u
  get : PySem.W.specialIn K u "__get__" = some none
  cp : PySem.W.copiedNames.contains f = false
/-- a method: a plain def of the class or of one above it -/
structure Meth (K : PySem.W.Frag) (C : Addr) (m : Str) (f : Addr) : Prop where
  at_ : PySem.W.findIn K (.ref C) m = some (some (.ref f))
  fn : PySem.W.isFn K (.ref f) = true
  kp : PySem.W.keepIn K (.ref f) = true

section
variable {X : Cx} {pins : List (Addr × Obj)} {σ : St} {H : Hp} {s : Shared} {a C dx : Addr} {fs : List (Str × V)} {f : Str} {v : V} {A : Around} {E : Value → Shared → Prop}

theorem getattr_ok {b : Bool} {Q : Value → Shared → Prop} (I : Inv X pins σ H s) (e : H a = some (.ins C dx fs)) (c : Cls X.K C) (n : NoAttr X.K C f) (l : fs.lookup f = some v)
    (h : ∀ u s', Inv X pins σ H s' → RelV v u → Q u s') : wpAny (model X.prog X.w) A (getAttr (.ref a) f b) Q E s := by
  obtain ⟨mA, O, r, _, _, _⟩ := ins_get I.hok e
  obtain ⟨u, hu, ru⟩ := RelO.some_of (v := v) (o := mA f) (by rw [← l]; exact r f)
  exact get_map I.kIn O (c.get f) c.hd n hu (handed_of ru) (h u _ (I.tok _) ru)

theorem getmeth_ok {m : Str} {g : Addr} {pl : Sem Bool} {Q : Value × List Value → Shared → Prop} (I : Inv X pins σ H s) (e : H a = some (.ins C dx fs)) (c : Cls X.K C) (k : Meth X.K C m g) (l : fs.lookup m = none)
    (h : Q (.ref g, [.ref a]) s) : wpAny (model X.prog X.w) A (getMethod (.ref a) m pl) Q E s := by
  obtain ⟨mA, O, r, _, _, _⟩ := ins_get I.hok e
  have hn : mA m = none := RelO.none_of (by rw [← l]; exact r m)
  exact get_meth I.kIn O (c.get m) k.at_ k.fn hn h

theorem setattr_ok {y : V} {u : Value} {Q : Unit → Shared → Prop} (I : Inv X pins σ H s) (e : H a = some (.ins C dx fs)) (c : Cls X.K C) (n : NoAttr X.K C f) (hl : fs.length < 1000) (ry : RelV y u)
    (h : ∀ s', Inv X pins σ (upd H a (.ins C dx (putF f y fs))) s' → Q () s') : wpAny (model X.prog X.w) A (setAttr (.ref a) f u) Q E s := by
  obtain ⟨mA, O, r, wi, _, ho⟩ := ins_get I.hok e
  have hz : (fs.map (·.1)).length ≤ sizeLine := by rw [List.length_map, sizeLine_eq]; omega
  refine set_map I.kIn O c.sa c.po n.taker c.hd wi hz fun h' O' sb => h _ ?_
  have hd : ∃ o, h'.get? dx = some o := let ⟨o, _, _, e', _⟩ := O'.ns; ⟨o, e'⟩
  refine I.write (x := a) (e := dx) (by rw [e]; exact True.intro) (.inr ho) (fun b q hb z => (sb.2 b hb).trans z) hd ?_
  refine ⟨by rw [upd_ne O.ne]; exact ho, ?_, O.ne, O'.obj, _, O'.ns, fun g => ?_, fun g hg => ?_⟩
  · have := length_putF f y fs; omega
  · show RelO ((putF f y fs).lookup g) (if g = f then some u else mA g)
    rw [lookup_putF]
    by_cases q : g = f
    · rw [if_pos q, if_pos q]; exact ry
    · rw [if_neg q, if_neg q]; exact r g
  · by_cases q : g = f
    · rw [q]; exact (keys_putF f y fs).1
    · refine (keys_putF f y fs).2 g (wi g fun z => hg ?_)
      show (if g = f then some u else mA g) = none
      rw [if_neg q]; exact z

/-- a new instance, tracked, without attributes -/
theorem Inv.made (I : Inv X pins σ H s) : Inv X pins σ (upd (upd H s.heap.objs.size (.own (s.heap.objs.size + 1))) (s.heap.objs.size + 1) (.ins C s.heap.objs.size []))
    { s with heap := (s.heap.push PySem.W.emptyDict).push (PySem.W.instObj C s.heap.objs.size) } := by
  have e1 : (s.heap.push PySem.W.emptyDict).get? s.heap.objs.size = some PySem.W.emptyDict := Heap.get?_push_size s.heap rfl
  have e2 : ((s.heap.push PySem.W.emptyDict).push (PySem.W.instObj C s.heap.objs.size)).get? (s.heap.objs.size + 1) = some (PySem.W.instObj C s.heap.objs.size) := by
    have := Heap.get?_push_size (s.heap.push PySem.W.emptyDict) (o := PySem.W.instObj C s.heap.objs.size) rfl
    rwa [Heap.size_push] at this
  have e3 : (s.heap.push PySem.W.emptyDict).Ns s.heap.objs.size (fun _ => none) := ⟨PySem.W.emptyDict, #[], _, e1, rfl, (fun e he => absurd he (by simp)), fun _ => rfl⟩
  have I1 := I.laid (a := s.heap.objs.size) (o := .own (s.heap.objs.size + 1)) (h' := s.heap.push PySem.W.emptyDict) (t' := s.toks) (fun b u q => Heap.get?_push_of_some _ q) (Nat.le_refl _) ⟨_, e1⟩
  refine I1.laid (a := s.heap.objs.size + 1) (o := .ins C s.heap.objs.size []) (t' := s.toks) (fun b u q => Heap.get?_push_of_some _ q) (Nat.le_of_eq (Heap.size_push _ _)) ?_
  have ne : s.heap.objs.size ≠ s.heap.objs.size + 1 := Nat.ne_of_lt (Nat.lt_succ_self _)
  refine ⟨by rw [upd_ne ne, upd_same], Nat.zero_le _, ne, e2, fun _ => none, (Heap.Ns1.of_empty e3).at fun o q => Heap.get?_push_of_some _ q, fun _ => True.intro, fun y hy => absurd rfl hy⟩

/-- e.f where nothing but the object is asked: through attributeBase (super) and the last hold -/
theorem attr_of {prog : Program} {w : World} {env : Env} {e : Expr} {f : Str} {pos : Pos} {s : Shared} {Q : Value → Shared → Prop} (hb : attributeBase e f env (eval e env) = eval e env)
    (h : wpAny (model prog w) A (eval e env) (fun o s₁ => wpAny (model prog w) A (getAttr o f true) Q E s₁) E s) : wpAny (model prog w) A (eval (.Attribute e f pos) env) Q E s :=
  Attribute_any_ h (by rw [arm_eval_Attribute, hb])
end

/-! ### readings and rules -/
/-- e.f, an attribute of the instance -/
def tFld (K : PySem.W.Frag) (ta : TE) (f : Str) : TE := fun σ H Q => ta σ H fun x H1 => ∃ a C dx fs v, x = .ref a ∧ H1 a = some (.ins C dx fs) ∧ Cls K C ∧ NoAttr K C f ∧ fs.lookup f = some v ∧ Q v H1
/-- e.f = value -/
def sFld (K : PySem.W.Frag) (ta tv : TE) (f : Str) : TS := fun D σ H => tv σ H fun y H1 => ta σ H1 fun x H2 => ∃ a C dx fs, x = .ref a ∧ H2 a = some (.ins C dx fs) ∧ Cls K C ∧ NoAttr K C f ∧ fs.length < 1000 ∧
  D.nx σ (upd H2 a (.ins C dx (putF f y fs)))
/-- an augmented operator on two values -/
def InOp (X : Cx) (op : Operator) (rd : V → V → Hp → VK → Prop) : Prop :=
  ∀ (pins : List (Addr × Obj)) (s : Shared) (σ : St) (H : Hp) (x y : V) (u v : Value) (Q : VK), Inv X pins σ H s → RelV x u → RelV y v → rd x y H Q → wpAny (model X.prog X.w) X.A (inplaceOp op u v) (EP X pins σ Q) X.xe s
/-- e.f op= value -/
def sFldAug (K : PySem.W.Frag) (ta tv : TE) (rd : V → V → Hp → VK → Prop) (f : Str) : TS := fun D σ H => ta σ H fun x H1 => ∃ a C dx fs v, x = .ref a ∧ H1 a = some (.ins C dx fs) ∧ Cls K C ∧ NoAttr K C f ∧ fs.lookup f = some v ∧
  tv σ H1 fun y H2 => rd v y H2 fun z H3 => ∃ dx' fs', H3 a = some (.ins C dx' fs') ∧ fs'.length < 1000 ∧ D.nx σ (upd H3 a (.ins C dx' (putF f z fs')))

section
variable {X : Cx} {o e value : Expr} {f : Str} {pos pos' tpos : Pos} {ta tv : TE}
theorem pe_fld (he : PE X e ta) (hb : attributeBase e f X.env (eval e X.env) = eval e X.env) : PE X (.Attribute e f pos) (tFld X.K ta f) := by
  intro pins s σ H Q I h
  refine attr_of hb (thn (he pins s σ H _ I h) fun u s1 ⟨x, H1, I1, rx, a, C, dx, fs, v, ex, ea, c, n, l, q⟩ => ?_)
  subst ex
  obtain rfl : u = Value.ref a := rx
  exact getattr_ok I1 ea c n l fun u' s2 I2 ru => ⟨v, H1, I2, ru, q⟩
theorem ps_fld (ha : PE X o ta) (hv : PE X value tv) (hs : swapsWith value (some (.Attribute o f pos')) pos.line X.env = pure false) : PS X (.Assign [.Attribute o f pos'] value pos) (sFld X.K ta tv f) := by
  intro pins s σ H D I h
  refine plainObj_wpAny_Assign_Attribute (thn (hv pins s σ H _ I h) fun u s1 ⟨y, H1, I1, ry, q⟩ => thn (ha pins s1 σ H1 _ I1 q) fun ov s2 ⟨x, H2, I2, rx, a, C, dx, fs, ex, ea, c, n, l, q2⟩ => ?_) hs
  subst ex
  obtain rfl : ov = Value.ref a := rx
  exact setattr_ok I2 ea c n l ry fun s3 I3 => ⟨σ, _, I3, q2⟩
theorem ps_fldaug {op : Operator} {rd : V → V → Hp → VK → Prop} (ha : PE X o ta) (hv : PE X value tv) (hop : InOp X op rd) : PS X (.AugAssign (.Attribute o f tpos) op value pos) (sFldAug X.K ta tv rd f) := by
  intro pins s σ H D I h
  refine wpAny_AugAssign_AttributeAny (thn (ha pins s σ H _ I h) fun ov s1 ⟨x, H1, I1, rx, a, C, dx, fs, v, ex, ea, c, n, l, q⟩ => ?_)
  subst ex
  obtain rfl : ov = Value.ref a := rx
  refine getattr_ok I1 ea c n l fun u s2 I2 ru => thn (hv pins s2 σ H1 _ I2 q) fun w3 s3 ⟨y, H2, I3, ry, q3⟩ => thn (hop pins s3 σ H2 v y u w3 _ I3 ru ry q3) fun w4 s4 ⟨z, H3, I4, rz, dx', fs', ea', l', q4⟩ => ?_
  exact setattr_ok I4 ea' c n l' rz fun s5 I5 => ⟨σ, _, I5, q4⟩
end

/-! ### isinstance -/
section
variable {X : Cx} {pins : List (Addr × Obj)} {σ : St} {H : Hp} {s : Shared} {A : Around} {E : Value → Shared → Prop} {Q : Value → Shared → Prop} {c : Value} {b : Bool}
/-- the type of a value, as the fragment's deciders take it; for an instance its class -/
inductive TyOf (K : PySem.W.Frag) (H : Hp) : V → Value → Prop where
  | non : TyOf K H .non (.type "NoneType")
  | bl (x : Bool) : TyOf K H (.bl x) (.type "bool")
  | int (i : Int) : TyOf K H (.int i) (.type "int")
  | str (x : Str) : TyOf K H (.str x) (.type "str")
  | flt (x : UInt64) : TyOf K H (.flt x) (.type "float")
  | lst {a : Addr} {xs : List V} (e : H a = some (.lst xs)) : TyOf K H (.ref a) (.type "list")
  | frz {a : Addr} {o : Obj} {xs : List V} (e : H a = some (.frz o (.lst xs))) : TyOf K H (.ref a) (.type "list")
  | tup {a : Addr} {xs : List V} (e : H a = some (.tup xs)) : TyOf K H (.ref a) (.type "tuple")
  | dK {a : Addr} {kvs : List (Key × V)} (e : H a = some (.dK kvs)) : TyOf K H (.ref a) (.type "dict")
  | dT {a : Addr} {kvs : List (List Key × V)} (e : H a = some (.dT kvs)) : TyOf K H (.ref a) (.type "dict")
  | ins {a C dx : Addr} {fs : List (Str × V)} (e : H a = some (.ins C dx fs)) (cl : Cls K C) (ha : PySem.W.findIn K (.ref C) "__class__" = some (some (.builtin "object.__class__")))
      (hn : PySem.W.specialIn K (.builtin "object.__class__") "__get__" = some (some (.builtin "getset_descriptor.__get__"))) (htk : PySem.W.takesIn K (.builtin "object.__class__") = some true)
      (hm : PySem.W.mroIn K C (.type "object") = some true) : TyOf K H (.ref a) (.ref C)
/-- isinstance(x, c) for one class c, a built-in or an own one: kitOne's answer -/
theorem isinst_ok {x : V} {u t : Value} (I : Inv X pins σ H s) (rx : RelV x u) (ty : TyOf X.K H x t) (e : PySem.W.kitOne X.K t c = some b) (h : ∀ tk, Q (.bool b) { s with toks := tk }) :
    wpAny (model X.prog X.w) A (call (.builtin "isinstance") [u, c]) Q E s := by
  cases ty with
  | non => cases (show u = Value.none from rx); exact PySem.W.kia_one PySem.W.kitx_none I.kIn True.intro e (fun z => nomatch z) h
  | bl y => cases (show u = Value.bool y from rx); exact PySem.W.kia_one PySem.W.kitx_bool I.kIn True.intro e (fun z => nomatch z) h
  | int i => obtain ⟨t, q⟩ := (show ∃ t, u = Value.int i t from rx); cases q; exact PySem.W.kia_one PySem.W.kitx_int I.kIn True.intro e (fun z => nomatch z) h
  | str y => obtain ⟨t, q⟩ := (show ∃ t, u = Value.str y t from rx); cases q; exact PySem.W.kia_one PySem.W.kitx_str I.kIn True.intro e (fun z => nomatch z) h
  | flt y => obtain ⟨t, q⟩ := (show ∃ t, u = Value.float y t from rx); cases q; exact PySem.W.kia_one PySem.W.kitx_float I.kIn True.intro e (fun z => nomatch z) h
  | @lst a xs ea =>
    cases (show u = Value.ref a from rx)
    obtain ⟨_, _, n, _, h1⟩ := (show ObjOk X.prog X.w H s.heap a (.lst xs) from I.hok a _ ea)
    exact PySem.W.kia_one PySem.W.kitx_list I.kIn ⟨_, h1, rfl⟩ e (fun z => nomatch z) h
  | @frz a ob xs ea =>
    cases (show u = Value.ref a from rx)
    obtain ⟨_, _, _, n, _, h1⟩ := (show ObjOk X.prog X.w H s.heap a (.frz ob (.lst xs)) from I.hok a _ ea)
    exact PySem.W.kia_one PySem.W.kitx_list I.kIn ⟨_, h1, rfl⟩ e (fun z => nomatch z) h
  | @tup a xs ea =>
    cases (show u = Value.ref a from rx)
    obtain ⟨_, _, _, p⟩ := (show ObjOk X.prog X.w H s.heap a (.tup xs) from I.hok a _ ea)
    obtain ⟨o, h1, h2, _⟩ := p
    exact PySem.W.kia_one PySem.W.kitx_tuple I.kIn ⟨o, h1, h2⟩ e (fun z => nomatch z) h
  | @dK a kvs ea =>
    cases (show u = Value.ref a from rx)
    obtain ⟨_, _, vs, _, p⟩ := (show ObjOk X.prog X.w H s.heap a (.dK kvs) from I.hok a _ ea)
    obtain ⟨o, es, ep, h1, h2, _⟩ := p
    exact PySem.W.kia_one PySem.W.kitx_dict I.kIn ⟨o, h1, h2.1⟩ e (fun z => nomatch z) h
  | @dT a kvs ea =>
    cases (show u = Value.ref a from rx)
    obtain ⟨_, _, xs, _, o, es, ep, h1, h2, _⟩ := (show ObjOk X.prog X.w H s.heap a (.dT kvs) from I.hok a _ ea)
    exact PySem.W.kia_one PySem.W.kitx_dict I.kIn ⟨o, h1, h2.1⟩ e (fun z => nomatch z) h
  | @ins a C dx fs ea cl ha hn htk hm =>
    cases (show u = Value.ref a from rx)
    obtain ⟨mA, O, _⟩ := ins_get I.hok ea
    obtain ⟨od, J, _⟩ := O.look
    exact PySem.W.kia_one (PySem.W.kitx_own (cl.get _) cl.hd ha hn htk hm) I.kIn J e (fun z => nomatch z) h
end
end L2

namespace L2
open PySem PySem.Spec PyProof.Rows

/-! ### room -/
structure Room (k : Nat) (A : Around) : Prop where
  hd : A.handled = none
  dp : A.depth + 3 * k + 5 < recursionLimit
  un : A.units + 16 * k + 200 < cLine
theorem Room.mono {j k : Nat} {A : Around} (r : Room k A) (h : j ≤ k) : Room j A := ⟨r.hd, by have := r.dp; omega, by have := r.un; omega⟩
theorem Room.deeper {k : Nat} {A : Around} (r : Room (k + 1) A) (env : Env) : Room k (A.deeper env) :=
  ⟨r.hd, by have := r.dp; show A.depth + 1 + 3 * k + 5 < _; omega, by have := r.un; show A.units + 3 + 16 * k + 200 < _; omega⟩
theorem Room.in1 {k : Nat} {A : Around} (r : Room (k + 1) A) : Room k A.in1 :=
  ⟨r.hd, by have := r.dp; show A.depth + 3 * k + 5 < _; omega, by have := r.un; show A.units + 1 + 16 * k + 200 < _; omega⟩
theorem make_depth {A : Around} {C : Addr} {us : List Value} {kw : List (Str × Value)} : (A.under (.builtin "type.__call__" ⟨.ref C :: us, kw⟩)).depth = A.depth + 1 := by
  first | rfl | simp [Around.under, Code.weight, Code.isCreation, Code.isGuard, Code.isCaller, Code.frames, Code.isFrame, guardIds]
theorem make_units {A : Around} {C : Addr} {us : List Value} {kw : List (Str × Value)} : (A.under (.builtin "type.__call__" ⟨.ref C :: us, kw⟩)).units = A.units + 1 := by
  first | rfl | simp [Around.under, Code.cUnits, Code.frames, Code.isFrame]
theorem Room.make {k : Nat} {A : Around} (r : Room (k + 1) A) (C : Addr) (us : List Value) (kw : List (Str × Value)) : Room k (A.under (.builtin "type.__call__" ⟨.ref C :: us, kw⟩)) :=
  ⟨r.hd, by have := r.dp; rw [make_depth]; omega, by have := r.un; rw [make_units]; omega⟩
theorem Room.depth {k : Nat} {A : Around} (r : Room k A) : A.depth < recursionLimit := by have := r.dp; omega
theorem Room.units {k : Nat} {A : Around} (r : Room k A) : A.units + 64 < cLine := by have := r.un; omega
theorem Room.units0 {k : Nat} {A : Around} (r : Room k A) : A.units < cLine := by have := r.un; omega

/-! ### argument lists and displays -/
def tNil : TA := fun _ H Q => Q [] H
def tCons (ta : TE) (tr : TA) : TA := fun σ H Q => ta σ H fun x H1 => tr σ H1 fun xs H2 => Q (x :: xs) H2
section
variable {X : Cx} {e : Expr} {es : List Expr} {te : TE} {t : TA} {pos : Pos}
theorem pa_nil : PA X [] tNil := fun _ _ _ _ H Q I h => Calls.spliced_nil ⟨[], H, I, .nil, h⟩
theorem pa_cons (ha : PE X e te) (hr : PA X es t) (hs : starEach (e :: es) X.env = (false, eval e X.env) :: starEach es X.env := by rfl) : PA X (e :: es) (tCons te t) := by
  intro pos pins s σ H Q I h
  rw [hs]
  show wpAny _ _ (spliced ((false, eval e X.env) :: backTo pos (starEach es X.env))) _ _ s
  refine Calls.spliced_cons (thn (ha pins s σ H _ I h) fun u s1 ⟨x, H1, I1, r1, q1⟩ => ?_)
  exact thn (hr pos pins s1 σ H1 _ I1 q1) fun us s2 ⟨xs, H2, I2, r2, q2⟩ => ⟨x :: xs, H2, I2, .cons r1 r2, q2⟩

/-- a tuple, a list of written items -/
def tTup (t : TA) : TE := fun σ H Q => t σ H fun xs H1 => xs.length ≤ sizeLine ∧ ∀ p, H1 p = none → Q (.ref p) (upd H1 p (.tup xs))
def tLst (t : TA) : TE := fun σ H Q => t σ H fun xs H1 => xs.length ≤ sizeLine ∧ ∀ p, H1 p = none → Q (.ref p) (upd H1 p (.lst xs))
theorem pe_tup {x1} (h : PA X es t) : PE X (.Tuple es x1 pos) (tTup t) := by
  intro pins s σ H Q I hq
  refine wpAny_Tuple_spliced (thn (h pos pins s σ H _ I hq) fun us s1 ⟨xs, H1, I1, r, z, q⟩ => ⟨by rw [← r.length]; exact z, ?_⟩)
  have hf : H1 s1.heap.objs.size = none := I1.hok.fresh (Nat.le_refl _)
  refine ⟨.ref s1.heap.objs.size, upd H1 s1.heap.objs.size (.tup xs), I1.laid (t' := s1.toks) (fun b u e => Heap.get?_push_of_some _ e) (Nat.le_refl _) ?_, rfl, q _ hf⟩
  exact ⟨z, us, r, ⟨_, Heap.get?_push_size _ rfl, rfl, _, rfl⟩⟩
theorem pe_lst (h : PA X es t) : PE X (.List es pos) (tLst t) := by
  intro pins s σ H Q I hq
  refine wpAny_List_spliced (thn (h pos pins s σ H _ I hq) fun us s1 ⟨xs, H1, I1, r, z, q⟩ => ⟨by rw [← r.length]; exact z, ?_⟩)
  have hf : H1 s1.heap.objs.size = none := I1.hok.fresh (Nat.le_refl _)
  refine ⟨.ref s1.heap.objs.size, upd H1 s1.heap.objs.size (.lst xs), I1.laid (t' := s1.toks) (fun b u e => Heap.get?_push_of_some _ e) (Nat.le_refl _) ?_, rfl, q _ hf⟩
  exact ⟨z, us, 0, r, Heap.get?_push_size _ rfl⟩
end

/-! ### what a def promises -/
/-- a def's promise: the bound arguments in the parameters' order, the heap, the wanted end, the wanted exception -/
abbrev Sp := List V → Hp → VK → XK → Prop
/-- how an exception lies behind a call (file 08 gives it): the callers' frames, abstract heap and state ahead of the call, the wish, the exception, the state -/
abbrev CXT := List Env → Hp → Shared → XK → Value → Shared → Prop

/-- the state at a call -/
structure Env0 (P : Program) (w : World) (K : PySem.W.Frag) (mg : Str → Option Value) (base : Heap) (A : Around) (outer : List Env) (s : Shared) (H : Hp) : Prop where
  frames : A.frames = some outer
  mod : Mod K mg base
  bs : ∀ b o, base.get? b = some o → s.heap.get? b = some o ∧ H b = none
  bsz : base.objs.size ≤ s.heap.objs.size
  funs : s.heap.FunFrames base outer
  frf : ∀ b ∈ frs outer, H b = none
  hok : HOk P w H s.heap
  bare : AllBare s.gens
/-- a call's end -/
def CE (outer : List Env) (P : Program) (w : World) (H : Hp) (s : Shared) (Q : VK) (u : Value) (s' : Shared) : Prop :=
  ∃ v H', s'.os = s.os ∧ AllBare s'.gens ∧ Un (frs outer) [] H H' s.heap s'.heap ∧ HOk P w H' s'.heap ∧ RelV v u ∧ Q v H'
def CR (CX : CXT) (outer : List Env) (P : Program) (w : World) (H : Hp) (s : Shared) (Q : VK) (E : XK) (r : Result) (s' : Shared) : Prop :=
  match r with
  | .ok (.ret u) => CE outer P w H s Q u s'
  | .ok _ => False
  | .error e => CX outer H s E e s'
structure FnOk (P : Program) (w : World) (K : PySem.W.Frag) (mg : Str → Option Value) (base : Heap) (CX : CXT) (k : Nat) (f : Addr) (fd : FuncData) (ps : List Str) (sp : Sp) : Prop where
  len : ∀ vs H Q E, sp vs H Q E → vs.length = ps.length
  run : ∀ (A : Around) (outer : List Env) (s : Shared) (H : Hp) (args : Args) (us : List Value) (vs : List V) (Q : VK) (E : XK), Room k A → Env0 P w K mg base A outer s H → BindsTo s fd args (ps.zip us) → Vals vs us → sp vs H Q E →
    codeAny (model P w) A (.call (.ref f) args) (CR CX outer P w H s Q E) s
theorem FnOk.mono {P : Program} {w : World} {K : PySem.W.Frag} {mg : Str → Option Value} {base : Heap} {CX : CXT} {j k : Nat} {f : Addr} {fd : FuncData} {ps : List Str} {sp : Sp} (F : FnOk P w K mg base CX j f fd ps sp) (h : j ≤ k) :
    FnOk P w K mg base CX k f fd ps sp := ⟨F.len, fun A outer s H args us vs Q E hr => F.run A outer s H args us vs Q E (hr.mono h)⟩
theorem Env0.make {P : Program} {w : World} {K : PySem.W.Frag} {mg : Str → Option Value} {base : Heap} {A : Around} {outer : List Env} {s : Shared} {H : Hp} (e : Env0 P w K mg base A outer s H) (C : Addr) (us : List Value) (kw : List (Str × Value)) :
    Env0 P w K mg base (A.under (.builtin "type.__call__" ⟨.ref C :: us, kw⟩)) outer s H := ⟨by first | exact e.frames | (simpa [Around.under, Code.envs, Code.isFrame, pushEnvs] using e.frames), e.mod, e.bs, e.bsz, e.funs, e.frf, e.hok, e.bare⟩
theorem Env0.in1 {P : Program} {w : World} {K : PySem.W.Frag} {mg : Str → Option Value} {base : Heap} {A : Around} {outer : List Env} {s : Shared} {H : Hp} (e : Env0 P w K mg base A outer s H) :
    Env0 P w K mg base A.in1 outer s H := ⟨e.frames, e.mod, e.bs, e.bsz, e.funs, e.frf, e.hok, e.bare⟩

section
variable {X : Cx} {pins : List (Addr × Obj)} {σ : St} {H : Hp} {s s' : Shared}
/-- from a body: what a callee wants -/
theorem Inv.env0 (I : Inv X pins σ H s) : Env0 X.prog X.w X.K X.mg X.base X.A X.stack s H :=
  ⟨I.ok.frames, I.ok.mod, I.bs, Nat.le_trans I.ok.bsz I.sz, I.stack, I.stkFree, I.hok, I.bare⟩
/-- behind a call -/
theorem Inv.after {Q : VK} {u : Value} (I : Inv X pins σ H s) (h : CE X.stack X.prog X.w H s Q u s') : EP X pins σ Q u s' := by
  obtain ⟨v, H', os, bare, un, hok, r, q⟩ := h
  obtain ⟨hh, g, d, t, os'⟩ := s'
  obtain rfl : os' = s.os := os
  exact ⟨v, H', I.call (h' := hh) (g' := g) (d' := d) (t' := t) (ch := []) un hok bare (fun b z => absurd z (by simp)), r, q⟩
end

/-! ### calls -/
/-- f(..): the written arguments, then the defaults dvs; E: what is wanted of an exception -/
def tCall (sp : Sp) (dvs : List V) (E : XK) (t : TA) : TE := fun σ H Q => t σ H fun vs H1 => sp (vs ++ dvs) H1 Q E
/-- o.m(..) of an instance of the class at C -/
def tMeth (C : Addr) (m : Str) (sp : Sp) (dvs : List V) (E : XK) (ta : TE) (t : TA) : TE := fun σ H Q => ta σ H fun x H1 => ∃ a dx fs, x = .ref a ∧ H1 a = some (.ins C dx fs) ∧ fs.lookup m = none ∧
  t σ H1 fun vs H2 => sp (x :: (vs ++ dvs)) H2 Q E
/-- C(..): a new instance and its dict, then __init__ -/
def tMake (C : Addr) (sp : Sp) (dvs : List V) (E : XK) (t : TA) : TE := fun σ H Q => t σ H fun vs H1 => ∀ x dx, H1 x = none → H1 dx = none → dx ≠ x →
  sp (.ref x :: (vs ++ dvs)) (upd (upd H1 dx (.own x)) x (.ins C dx [])) (fun v H2 => v = .non ∧ Q (.ref x) H2) E

/-- how the parameters are bound: us the positional arguments, kw the keywords' values by name, ds the defaults that fill up -/
def Binds (K : PySem.W.Frag) (fd : FuncData) (ps : List Str) (ds : List Value) : Prop :=
  ∀ (s : Shared) (us : List Value), K.In s.heap → (us ++ ds).length = ps.length → BindsTo s fd ⟨us, []⟩ (ps.zip (us ++ ds))
/-- every parameter is given -/
theorem Binds.all {K : PySem.W.Frag} {fd : FuncData} {ps : List Str} (h : ∀ us : List Value, us.length = ps.length → bindArgs fd ⟨us, []⟩ = pure (ps.zip us)) : Binds K fd ps [] := fun s us _ hl => by
  rw [List.append_nil] at hl ⊢
  exact .of_eq (h us hl)

/-- an exception of a callee reaches what this body wants of exceptions -/
def Passes (CX : CXT) (X : Cx) (E : XK) : Prop := ∀ (pins : List (Addr × Obj)) (σ : St) (H : Hp) (s : Shared) (e : Value) (s' : Shared), Inv X pins σ H s → CX X.stack H s E e s' → X.xe e s'

section
variable {X : Cx} {CX : CXT} {k : Nat} {f C : Addr} {fd : FuncData} {ps : List Str} {sp : Sp} {dvs : List V} {ds : List Value} {E : XK} {x m : Str} {p pos apos : Pos} {e o : Expr} {es : List Expr} {ta : TE} {t : TA}

/-- the callee runs -/
theorem run_fn {pins : List (Addr × Obj)} {σ : St} {H : Hp} {s : Shared} {Q : VK} {us : List Value} {vs : List V} (F : FnOk X.prog X.w X.K X.mg X.base CX k f fd ps sp) (hr : Room k X.A) (hb : Binds X.K fd ps ds) (hd : Vals dvs ds) (hx : Passes CX X E)
    (I : Inv X pins σ H s) (r : Vals vs us) (h : sp (vs ++ dvs) H Q E) : wpAny (model X.prog X.w) X.A (call (.ref f) us) (EP X pins σ Q) X.xe s := by
  have r2 : Vals (vs ++ dvs) (us ++ ds) := r.append hd
  have hl : (us ++ ds).length = ps.length := by rw [← r2.length]; exact F.len _ _ _ _ h
  refine wpAny_call (codeAny_mono (F.run X.A X.stack s H ⟨us, []⟩ (us ++ ds) (vs ++ dvs) Q E hr I.env0 (hb s us I.kIn hl) r2 h) fun r s' hq => ?_)
  cases r with
  | error e => exact hx pins σ H s e s' I hq
  | ok fl =>
    cases fl with
    | ret u => exact I.after hq
    | next => exact False.elim hq
    | brk => exact False.elim hq
    | cont => exact False.elim hq

theorem pe_call (F : FnOk X.prog X.w X.K X.mg X.base CX k f fd ps sp) (hr : Room k X.A) (hg : Gl X x) (hm : X.mg x = some (.ref f)) (hk : PySem.W.keepIn X.K (.ref f) = true) (hb : Binds X.K fd ps ds) (hd : Vals dvs ds) (hx : Passes CX X E)
    (ha : PA X (e :: es) t) (hdb : (x == ("__debug__" : Str)) = false := by decide) (he : starEach (e :: es) X.env = (false, eval e X.env) :: starEach es X.env := by rfl) (hpl : (backTo pos (starEach es X.env)).any (·.1) = false := by rfl) :
    PE X (.Call (.Name x p) (e :: es) [] pos) (tCall sp dvs E t) := by
  intro pins s σ H Q I h
  refine wpAny_Call_Name_kw (ld_glob I hg hm ?_ hdb)
  refine PySem.W.callWith_K (h₀ := X.base) I.ok.mod.kin hk (thn (ha pos pins s σ H _ I h) fun us s1 ⟨vs, H1, I1, r, q⟩ => ⟨I1.kIn, ?_⟩) he hpl
  exact run_fn F hr hb hd hx I1 r q
/-- o.m(e, ..) -/
theorem pe_meth {pl : Sem Bool} (he : PE X o ta) (c : Cls X.K C) (hm : Meth X.K C m f) (F : FnOk X.prog X.w X.K X.mg X.base CX k f fd ps sp) (hr : Room k X.A) (hb : Binds X.K fd ps ds) (hd : Vals dvs ds) (hx : Passes CX X E) (ha : PA X (e :: es) t)
    (hst : starEach (e :: es) X.env = (false, eval e X.env) :: starEach es X.env := by rfl) (hpl : (backTo pos (starEach es X.env)).any (·.1) = false := by rfl)
    (ht : eval (.Call (.Attribute o m apos) (e :: es) [] pos) X.env = (do
      let ov ← eval o X.env
      standAt apos.atName
      let (f, first) ← holding [ov] (getMethod ov m pl)
      callWith pos f first (backTo pos (starEach (e :: es) X.env)) (backToKw pos (keywordEach [] X.env))) := by rfl) :
    PE X (.Call (.Attribute o m apos) (e :: es) [] pos) (tMeth C m sp dvs E ta t) := by
  intro pins s σ H Q I h
  refine PySem.W.methodCall_KW (pl := pl) (thn (he pins s σ H _ I h) fun u s1 ⟨x, H1, I1, rx, a, dx, fs, ex, ea, l, q⟩ => ?_) ht
  subst ex
  obtain rfl : u = Value.ref a := rx
  refine getmeth_ok I1 ea c hm l ?_
  refine PySem.W.callWith_K (first := [.ref a]) (h₀ := X.base) I.ok.mod.kin hm.kp (thn (ha pos pins s1 σ H1 _ I1 q) fun us s2 ⟨vs, H2, I2, r, q2⟩ => ⟨I2.kIn, ?_⟩) hst hpl
  exact run_fn (us := .ref a :: us) (vs := .ref a :: vs) F hr hb hd hx I2 (.cons rfl r) q2
/-- o.m() -/
theorem pe_meth0 {pl : Sem Bool} (he : PE X o ta) (c : Cls X.K C) (hm : Meth X.K C m f) (F : FnOk X.prog X.w X.K X.mg X.base CX k f fd ps sp) (hr : Room k X.A) (hb : Binds X.K fd ps ds) (hd : Vals dvs ds) (hx : Passes CX X E)
    (ht : eval (.Call (.Attribute o m apos) [] [] pos) X.env = (do
      let ov ← eval o X.env
      standAt apos.atName
      let (f, first) ← holding [ov] (getMethod ov m pl)
      callWith pos f first (backTo pos (starEach [] X.env)) (backToKw pos (keywordEach [] X.env))) := by rfl) :
    PE X (.Call (.Attribute o m apos) [] [] pos) (tMeth C m sp dvs E ta tNil) := by
  intro pins s σ H Q I h
  refine PySem.W.methodCall_KW (pl := pl) (thn (he pins s σ H _ I h) fun u s1 ⟨x, H1, I1, rx, a, dx, fs, ex, ea, l, q⟩ => ?_) ht
  subst ex
  obtain rfl : u = Value.ref a := rx
  refine getmeth_ok I1 ea c hm l ?_
  exact PySem.W.callWith_K0 (first := [.ref a]) I1.kIn hm.kp (run_fn (us := [.ref a]) (vs := [.ref a]) F hr hb hd hx I1 (.cons rfl .nil) q)

/-- what a class must have to be made -/
structure Mk (K : PySem.W.Frag) (C f : Addr) : Prop where
  makes : PySem.W.makesIn K C = true
  init : PySem.W.findIn K (.ref C) "__init__" = some (some (.ref f))
  fn : PySem.W.isFn K (.ref f) = true
  kp : PySem.W.keepIn K (.ref C) = true

theorem run_make {pins : List (Addr × Obj)} {σ : St} {H : Hp} {s : Shared} {Q : VK} {us : List Value} {vs : List V} (M : Mk X.K C f) (F : FnOk X.prog X.w X.K X.mg X.base CX k f fd ps sp) (hr : Room (k + 1) X.A) (hb : Binds X.K fd ps ds) (hd : Vals dvs ds)
    (hx : Passes CX X E) (I : Inv X pins σ H s) (r : Vals vs us)
    (h : ∀ x dx, H x = none → H dx = none → dx ≠ x → sp (.ref x :: (vs ++ dvs)) (upd (upd H dx (.own x)) x (.ins C dx [])) (fun v H2 => v = .non ∧ Q (.ref x) H2) E) :
    wpAny (model X.prog X.w) X.A (call (.ref C) us) (EP X pins σ Q) X.xe s := by
  have hq := h (s.heap.objs.size + 1) s.heap.objs.size (I.hok.fresh (Nat.le_succ _)) (I.hok.fresh (Nat.le_refl _)) (Nat.ne_of_lt (Nat.lt_succ_self _))
  have I2 := Inv.made (C := C) I
  have r2 : Vals (V.ref (s.heap.objs.size + 1) :: (vs ++ dvs)) (Value.ref (s.heap.objs.size + 1) :: (us ++ ds)) := .cons rfl (r.append hd)
  have hl : (Value.ref (s.heap.objs.size + 1) :: us ++ ds).length = ps.length := by
    have e := r2.length
    rw [F.len _ _ _ _ hq] at e
    exact e.symm
  refine wpAny_call (make_map (f := f) I.kIn M.makes M.init (beq_iff_eq.mp M.fn) (codeAny_mono (F.run _ X.stack _ _ ⟨Value.ref (s.heap.objs.size + 1) :: us, []⟩ (Value.ref (s.heap.objs.size + 1) :: (us ++ ds)) _ _ E (hr.make C us [])
    (I2.env0.make C us []) (hb _ (Value.ref (s.heap.objs.size + 1) :: us) I2.kIn hl) r2 hq) fun r s' hq' => ?_))
  cases r with
  | error e => exact hx pins σ _ _ e s' I2 hq'
  | ok fl =>
    cases fl with
    | ret u =>
      obtain ⟨v, H', I3, rv, ev, q3⟩ := I2.after hq'
      subst ev
      exact ⟨rv, ⟨V.ref (s.heap.objs.size + 1), H', I3, rfl, q3⟩⟩
    | next => exact False.elim hq'
    | brk => exact False.elim hq'
    | cont => exact False.elim hq'
theorem pe_make (M : Mk X.K C f) (F : FnOk X.prog X.w X.K X.mg X.base CX k f fd ps sp) (hr : Room (k + 1) X.A) (hg : Gl X x) (hm : X.mg x = some (.ref C)) (hb : Binds X.K fd ps ds) (hd : Vals dvs ds) (hx : Passes CX X E)
    (ha : PA X (e :: es) t) (hdb : (x == ("__debug__" : Str)) = false := by decide) (he : starEach (e :: es) X.env = (false, eval e X.env) :: starEach es X.env := by rfl) (hpl : (backTo pos (starEach es X.env)).any (·.1) = false := by rfl) :
    PE X (.Call (.Name x p) (e :: es) [] pos) (tMake C sp dvs E t) := by
  intro pins s σ H Q I h
  refine wpAny_Call_Name_kw (ld_glob I hg hm ?_ hdb)
  refine PySem.W.callWith_K (h₀ := X.base) I.ok.mod.kin M.kp (thn (ha pos pins s σ H _ I h) fun us s1 ⟨vs, H1, I1, r, q⟩ => ⟨I1.kIn, ?_⟩) he hpl
  exact run_make M F hr hb hd hx I1 r q
end

/-! ### keywords -/
section
variable {X : Cx} {CX : CXT} {k : Nat} {f C : Addr} {fd : FuncData} {ps ks : List Str} {sp : Sp} {E : XK} {x m : Str} {p pos apos kpos : Pos} {e o : Expr} {es : List Expr} {kws : List Keyword} {te ta : TE} {t tk : TA} {nm : Option Str}
/-- how a call with keywords binds: g puts the positional values us and the keywords' values ws (names ks) in the parameters' order, defaults among them -/
structure KBinds (K : PySem.W.Frag) (fd : FuncData) (ps ks : List Str) (g : List Value → List Value → List Value) (gV : List V → List V → List V) : Prop where
  to : ∀ (s : Shared) (us ws : List Value), K.In s.heap → (g us ws).length = ps.length → BindsTo s fd ⟨us, ks.zip ws⟩ (ps.zip (g us ws))
  rel : ∀ {vs : List V} {us : List Value} {zs : List V} {ws : List Value}, Vals vs us → Vals zs ws → Vals (gV vs zs) (g us ws)
variable {g : List Value → List Value → List Value} {gV : List V → List V → List V}
end

/-! ### a def's body keeps its promise -/
/-- names: the parameters first -/
structure FnScope (N P : List Str) (sc : Scope) : Prop where
  kind : sc.kind = .function
  co : sc.isCoroutine = false
  gen : sc.isGenerator = false
  nd : N.Nodup
  pre : N.take P.length = P
  par : ∀ x ∈ P, sc.names.lookup x = some .local ∨ sc.names.lookup x = some .cell
  nofree : ∀ y ∈ sc.names, y.2 ≠ .free

theorem bindL_out {kindOf : Str → Option NameKind} {x : Str} : ∀ {binds : List (Str × Value)} {m : Str → Option Value}, (∀ v, (x, v) ∉ binds) → bindL kindOf binds m x = m x
  | [], _, _ => rfl
  | (n, v) :: r, m, h => by
    unfold bindL
    rw [bindL_out fun w hw => h w (List.mem_cons_of_mem _ hw)]
    split
    · have : x ≠ n := by rintro rfl; exact h v List.mem_cons_self
      simp [this]
    · rfl
theorem bindC_out {kindOf : Str → Option NameKind} {x : Str} : ∀ {binds : List (Str × Value)} {m : Str → Option Value}, (∀ v, (x, v) ∉ binds) → bindC kindOf binds m x = m x
  | [], _, _ => rfl
  | (n, v) :: r, m, h => by
    unfold bindC
    rw [bindC_out fun w hw => h w (List.mem_cons_of_mem _ hw)]
    split
    · rfl
    · have : x ≠ n := by rintro rfl; exact h v List.mem_cons_self
      simp [this]
theorem bindL_get {kindOf : Str → Option NameKind} {x : Str} {v : Value} : ∀ {P : List Str} {vs : List Value} {i : Nat} {m : Str → Option Value}, P.Nodup → P[i]? = some x → vs[i]? = some v → kindOf x = some .local →
    bindL kindOf (P.zip vs) m x = some v
  | [], _, _, _, _, h, _, _ => by simp at h
  | _ :: _, [], _, _, _, _, h, _ => by simp at h
  | p :: P, w :: vs, 0, m, nd, h1, h2, hk => by
    simp at h1 h2; subst h1; subst h2
    show bindL kindOf ((p, w) :: P.zip vs) m p = _
    unfold bindL
    rw [bindL_out fun v hv => (List.nodup_cons.mp nd).1 (List.of_mem_zip hv).1, if_pos hk]
    simp
  | p :: P, w :: vs, i + 1, m, nd, h1, h2, hk => by
    show bindL kindOf ((p, w) :: P.zip vs) m x = _
    unfold bindL
    exact bindL_get (i := i) (List.nodup_cons.mp nd).2 (by simpa using h1) (by simpa using h2) hk
theorem bindC_get {kindOf : Str → Option NameKind} {x : Str} {v : Value} : ∀ {P : List Str} {vs : List Value} {i : Nat} {m : Str → Option Value}, P.Nodup → P[i]? = some x → vs[i]? = some v → kindOf x ≠ some .local →
    bindC kindOf (P.zip vs) m x = some v
  | [], _, _, _, _, h, _, _ => by simp at h
  | _ :: _, [], _, _, _, _, h, _ => by simp at h
  | p :: P, w :: vs, 0, m, nd, h1, h2, hk => by
    simp at h1 h2; subst h1; subst h2
    show bindC kindOf ((p, w) :: P.zip vs) m p = _
    unfold bindC
    rw [bindC_out fun v hv => (List.nodup_cons.mp nd).1 (List.of_mem_zip hv).1, if_neg hk]
    simp
  | p :: P, w :: vs, i + 1, m, nd, h1, h2, hk => by
    show bindC kindOf ((p, w) :: P.zip vs) m x = _
    unfold bindC
    exact bindC_get (i := i) (List.nodup_cons.mp nd).2 (by simpa using h1) (by simpa using h2) hk

/-- the names' values at the entry -/
def start (N : List Str) (vs : List V) : St := vs.map some ++ List.replicate (N.length - vs.length) none

/-- the context of a def's body, at its entry; an exception leaves the frame, then lies as CX says -/
def cxOf (CX : CXT) (P : Program) (w : World) (K : PySem.W.Frag) (mg : Str → Option Value) (base : Heap) (N : List Str) (qual : Str) (scope : Scope) (f : Addr) (cd : Value) (A : Around) (outer : List Env) (s : Shared) (H : Hp) (E : XK) : Cx where
  prog := P
  w := w
  K := K
  mg := mg
  base := base
  A := A.deeper (envOfC qual scope s.heap.objs.size f cd)
  N := N
  s₀ := s
  H₀ := H
  env := envOfC qual scope s.heap.objs.size f cd
  outer := outer
  stack := envOfC qual scope s.heap.objs.size f cd :: outer
  ex := []
  calm := true
  fn := fun _ => true
  pn := []
  xe := fun e s' => wpAny (model P w) (A.deeper (envOfC qual scope s.heap.objs.size f cd)) (leaving (envOfC qual scope s.heap.objs.size f cd) e) (fun _ s'' => CX outer H s E e s'') (fun e' s'' => CX outer H s E e' s'') s'

theorem cell_has {sc : Scope} {n : Nat} {x : Str} (h : sc.names.lookup x = some .cell) : ∃ c, (cellsFrom n sc.names []).lookup x = some c := by
  have q := PySem.W.cellsFrom_some sc.names n [] (.inl h)
  exact Option.isSome_iff_exists.mp q

theorem inv_start {CX : CXT} {P : Program} {w : World} {K : PySem.W.Frag} {mg : Str → Option Value} {base : Heap} {N ps : List Str} {qual : Str} {scope : Scope} {f : Addr} {cd : Value} {A : Around} {outer : List Env} {s s1 : Shared} {H : Hp} {E : XK} {us : List Value} {vs : List V}
    (S : FnScope N ps scope) (hd : A.handled = none) (e0 : Env0 P w K mg base A outer s H) (hl : vs.length = ps.length) (r : Vals vs us)
    (x : InCallC s s.heap.objs.size (bindL (envOfC qual scope s.heap.objs.size f cd).kindOf (ps.zip us) fun _ => none) (cellsFrom (s.heap.objs.size + 1) scope.names []) (bindC (envOfC qual scope s.heap.objs.size f cd).kindOf (ps.zip us) fun _ => none) s1) :
    Inv (cxOf CX P w K mg base N qual scope f cd A outer s H E) [] (start N vs) H s1 := by
  have hpl : ps.length ≤ N.length := by have := congrArg List.length S.pre; rw [List.length_take] at this; omega
  obtain ⟨h1, tk, rfl, hk⟩ := x.done
  have noA : ∀ b : Addr, b ∉ (cxOf CX P w K mg base N qual scope f cd A outer s H E).ex := fun b z => absurd (show b ∈ ([] : List Addr) from z) (by simp)
  refine ⟨⟨e0.mod, S.kind, rfl, rfl, Nat.le_refl _, fun y z c h1 h2 => ?_, fun y hy => ?_, fun y c _ h => ?_, fun _ => hd, Around.frames_deeper e0.frames, .inr ⟨rfl, rfl⟩, fun b z => absurd z (noA b), e0.bs, e0.bsz, fun b _ _ => noA b, fun b z => absurd z (noA b), e0.funs, e0.frf⟩,
    rfl, e0.bare, Un.kept hk, ⟨_, x.toInCall.ns, fun i y v h1 h2 h3 => ?_⟩, fun y c h => ⟨_, x.cell y c h⟩, e0.hok.fresh (Nat.le_refl _), fun y c h => ?_, fun p hp => absurd (show p ∈ ([] : List (Addr × Obj)) from hp) (by simp), e0.hok.kept hk, ?_⟩
  · exact name_of_addr x.apart (PySem.mem_of_lookup h1) (PySem.mem_of_lookup h2)
  · have hy : scope.names.lookup y = some .cell ∨ scope.names.lookup y = some .free := hy
    rcases hy with hy | hy
    · exact cell_has hy
    · exact absurd rfl (S.nofree _ (PySem.mem_of_lookup hy))
  · exact Nat.le_of_lt (x.above y c (PySem.mem_of_lookup h))
  · have hi : i < vs.length := by
      unfold start at h2
      by_cases hi : i < vs.length
      · exact hi
      · rw [List.getElem?_append_right (by simpa using hi)] at h2
        rw [List.getElem?_replicate] at h2
        split at h2 <;> cases h2
    have ha : vs[i]? = some v := by
      unfold start at h2
      rw [List.getElem?_append_left (by simpa using hi), List.getElem?_map] at h2
      cases e : vs[i]? with
      | none => rw [e] at h2; cases h2
      | some a => rw [e] at h2; cases h2; rfl
    obtain ⟨u, hu, rv⟩ := r.get ha
    have hp : ps[i]? = some y := by
      rw [← S.pre, List.getElem?_take_of_lt (by omega)]; exact h1
    have ndP : ps.Nodup := by rw [← S.pre]; exact S.nd.sublist (List.take_sublist _ _)
    refine ⟨u, rv, ?_⟩
    rcases S.par y (List.mem_of_getElem? hp) with k | k
    · exact .inl ⟨k, bindL_get ndP hp hu k⟩
    · obtain ⟨c, e⟩ := cell_has (n := s.heap.objs.size + 1) k
      refine .inr ⟨.inl k, c, e, ?_⟩
      have q := x.cell y c e
      rw [bindC_get ndP hp hu (by show scope.names.lookup y ≠ _; rw [k]; decide)] at q
      exact q
  · exact e0.hok.fresh (Nat.le_of_lt (x.above y c (PySem.mem_of_lookup h)))
  · unfold start
    show _ = N.length
    rw [List.length_append, List.length_map, List.length_replicate]
    omega

/-- THE RULE: a def (or a method) of the text, by its body. The body's reading t is chosen for each entry; it is run at the parameters' values -/
theorem fn_of {CX : CXT} {P : Program} {w : World} {K : PySem.W.Frag} {mg : Str → Option Value} {base : Heap} {k : Nat} {f : Addr} {name qual : Str} {params : Arguments} {body : List Stmt} {scope : Scope} {dV kV doc pm cdv ct oc : Value} {an od : Option Addr}
    {osl : Array (Option Value)} {N ps : List Str} {sp : Sp} (lk : K.lookup f = some ⟨oc, od, .func (PySem.W.fnOf name qual params body scope dV kV doc pm an cdv ct), osl⟩) (hcd : PySem.W.codeIn K cdv qual = true) (S : FnScope N ps scope)
    (len : ∀ vs H Q E, sp vs H Q E → vs.length = ps.length)
    (hbody : ∀ (A : Around) (outer : List Env) (s : Shared) (H : Hp) (vs : List V) (Q : VK) (E : XK), Room k (A.deeper (envOfC qual scope s.heap.objs.size f cdv)) → sp vs H Q E →
      ∃ t, PSs (cxOf CX P w K mg base N qual scope f cdv A outer s H E) body t ∧ t { nx := fun _ H' => Q .non H', rt := Q } (start N vs) H) :
    FnOk P w K mg base CX (k + 1) f (PySem.W.fnOf name qual params body scope dV kV doc pm an cdv ct) ps sp := by
  refine ⟨len, fun A outer s H args us vs Q E hr e0 hb r hsp => ?_⟩
  have hl := len _ _ _ _ hsp
  have KX : K.In s.heap := e0.mod.kin.keeps fun b o e => (e0.bs b o e).1
  have lim : s.heap.NoLimit := e0.mod.nolimit.keeps fun b o e => (e0.bs b o e).1
  have hkind : ∀ y ∈ ps.zip us, scope.names.lookup y.1 = some .local ∨ (scope.names.lookup y.1 = some .cell ∧ ((cellsFrom (s.heap.objs.size + 1) scope.names []).lookup y.1).isSome = true) := fun ⟨n, v⟩ hy => by
    rcases S.par n (List.of_mem_zip hy).1 with q | q
    · exact .inl q
    · exact .inr ⟨q, PySem.W.cellsFrom_some _ _ _ (.inl q)⟩
  refine codeAny_call_function hr.depth (KX _ _ lk) rfl S.co S.gen rfl (PySem.W.codeRec_of KX hcd) (hb _ _ _ _ ?_)
  refine wpAny_newFunctionEnv_cells S.kind hkind fun env he s1 x => ?_
  subst he
  refine ⟨lim.keeps x.toInCall.keep, codeAny_func ?_⟩
  obtain ⟨t, ht, hq⟩ := hbody A outer s H vs Q E (hr.deeper _) hsp
  have I : Inv (cxOf CX P w K mg base N qual scope f cdv A outer s H E) [] (start N vs) H s1 := inv_start S hr.hd e0 hl r x
  refine wpAny_mono (ht [] s1 (start N vs) H _ I hq) (fun fl s' hs => ?_) fun e s' hs => hs
  have fin : ∀ {σ' : St} {H' : Hp} {v : V} {u : Value}, Inv (cxOf CX P w K mg base N qual scope f cdv A outer s H E) [] σ' H' s' → RelV v u → Q v H' → CE outer P w H s Q u s' :=
    fun {σ' H' v u} J rv q => ⟨v, H', J.os, J.bare, J.base, J.hok, rv, q⟩
  cases fl with
  | ret u =>
    obtain ⟨v, σ', H', J, rv, q⟩ := hs
    exact fin J rv q
  | next =>
    obtain ⟨σ', H', J, q⟩ := hs
    exact fin (v := V.non) (u := Value.none) J rfl q
  | brk =>
    obtain ⟨_, _, _, q⟩ := hs
    exact False.elim q
  | cont =>
    obtain ⟨_, _, _, q⟩ := hs
    exact False.elim q
end L2

namespace L2
open PySem PySem.Spec PyProof.Rows
section
variable {X : Cx} {x : Str} {p pos : Pos} {e : Expr} {es : List Expr} {t : TA} {id T : String} {r : List V → Hp → VK → Prop}

def tCB (r : List V → Hp → VK → Prop) (t : TA) : TE := fun σ H Q => t σ H fun vs H1 => r vs H1 Q
/-- f(e, ..), f a built-in function -/
theorem pe_callB (hc : CallR X (.builtin id) r) (hg : Gl X x) (hm : X.mg x = none) (hv : bootBuiltins x = some (.builtin id)) (ha : PA X (e :: es) t) (hn : x ≠ "__name__" := by decide) (hdb : (x == ("__debug__" : Str)) = false := by decide)
    (he : starEach (e :: es) X.env = (false, eval e X.env) :: starEach es X.env := by rfl) (hpl : (backTo pos (starEach es X.env)).any (·.1) = false := by rfl) : PE X (.Call (.Name x p) (e :: es) [] pos) (tCB r t) := by
  intro pins s σ H Q I h
  refine wpAny_Call_Name_kw (ld_blt I hg hm hv ?_ hn hdb)
  exact PyProof.Rows.callWith_builtin1 (thn (ha pos pins s σ H _ I h) fun us s1 ⟨vs, H1, I1, r1, q1⟩ => hc pins s1 σ H1 vs us Q I1 r1 q1) he hpl
/-- T(e, ..), T a built-in type -/
theorem pe_callTy (hc : CallR X (.type T) r) (hg : Gl X x) (hm : X.mg x = none) (hv : bootBuiltins x = some (.type T)) (ha : PA X (e :: es) t) (hn : x ≠ "__name__" := by decide) (hdb : (x == ("__debug__" : Str)) = false := by decide)
    (he : starEach (e :: es) X.env = (false, eval e X.env) :: starEach es X.env := by rfl) (hpl : (backTo pos (starEach es X.env)).any (·.1) = false := by rfl) : PE X (.Call (.Name x p) (e :: es) [] pos) (tCB r t) := by
  intro pins s σ H Q I h
  refine wpAny_Call_Name_kw (ld_blt I hg hm hv ?_ hn hdb)
  exact PyProof.Rows.callWith_type1 (thn (ha pos pins s σ H _ I h) fun us s1 ⟨vs, H1, I1, r1, q1⟩ => hc pins s1 σ H1 vs us Q I1 r1 q1) he hpl
end
end L2

namespace HT
open PySem PyProof.Rows

section
open PySem.SeqAt
open PySem.AutoSeq1 (wpAny_loadPart')
open PySem.MeetsSeq PySem.MeetsSeq2 PySem.MeetsSeq3

end

section
variable {prog : Program} {w : World} {A : Around} {E : Value → Shared → Prop} {s : Shared}

/-! ### t[a:b], not the whole -/
/-- a slice's bound as a place among n (d where it is left out) -/
def sIx (n d : Nat) : Option Int → Nat
  | none => d
  | some v => if v < 0 then (v + (n : Int)).toNat else min v.toNat n
theorem sIx_le (n d : Nat) (hd : d ≤ n) (o : Option Int) : sIx n d o ≤ n := by
  cases o with
  | none => exact hd
  | some v =>
    show (if v < 0 then (v + (n : Int)).toNat else min v.toNat n) ≤ n
    by_cases hv : v < 0
    · rw [if_pos hv]; omega
    · rw [if_neg hv]; exact Nat.min_le_right _ _
theorem clip_eq (v : Int) (n d : Nat) : (if v < 0 then max (v + (n : Int)) 0 else min v (n : Int)) = ((sIx n d (some v) : Nat) : Int) := by
  show (if v < 0 then max (v + (n : Int)) 0 else min v (n : Int)) = (((if v < 0 then (v + (n : Int)).toNat else min v.toNat n) : Nat) : Int)
  by_cases hv : v < 0
  · simp only [if_pos hv]; omega
  · simp only [if_neg hv]; omega
theorem adjust_gen (lo hi : Option Int) (n : Nat) : Builtin.Slice.sliceAdjust lo hi 1 (n : Int) = (((sIx n 0 lo : Nat) : Int), ((sIx n n hi : Nat) : Int)) := by
  have h1 : ¬ ((1 : Int) < 0) := by omega
  unfold Builtin.Slice.sliceAdjust
  simp only [h1, if_false]
  refine Prod.ext ?_ ?_
  · cases lo with
    | none => rfl
    | some v => exact clip_eq v n 0
  · cases hi with
    | none => rfl
    | some v => exact clip_eq v n n
theorem places_gen (i j : Nat) : Builtin.Slice.slicePlaces (i : Int) (j : Int) 1 = j - i := by
  unfold Builtin.Slice.slicePlaces
  have h1 : (1 : Int) > 0 := by omega
  simp only [h1, if_true, Int.ediv_one]
  split <;> omega
theorem slicePart_ {v : Value} {o : Option Int} {Q : Option Int → Shared → Prop} (p : IsPart v o) (h : Q o s) : wpAny (model prog w) A (Builtin.Slice.slicePartIndex v) Q E s := by
  cases p with
  | none => exact slicePart_none h
  | int i t => exact slicePart_int h
theorem sliceApplied_gen {sl : Addr} {vl vu : Value} {lo hi : Option Int} {n : Nat} {Q : Int × Int × Nat → Shared → Prop} (hs : s.heap.IsSliceOf sl vl vu .none) (pl : IsPart vl lo) (pu : IsPart vu hi)
    (h : Q (((sIx n 0 lo : Nat) : Int), 1, sIx n n hi - sIx n 0 lo) s) : wpAny (model prog w) A (Builtin.Slice.sliceApplied (.ref sl) (pure (n : Int))) Q E s := by
  obtain ⟨os, hos, hcs, hds⟩ := id hs
  unfold Builtin.Slice.sliceApplied Builtin.Slice.sliceFields
  refine wpAny_bind (wpAny_bind (wpAny_field hos hds (x := vl) rfl (wpAny_bind (wpAny_field hos hds (x := vu) rfl (wpAny_bind (wpAny_field hos hds (x := .none) rfl (wpAny_pure ?_)))))))
  refine wpAny_bind (slicePart_none ?_)
  show wpAny _ _ (if ((1 : Int) == 0) = true then _ else _) _ _ s
  rw [if_neg (by decide)]
  refine wpAny_bind (slicePart_ pl (wpAny_bind (slicePart_ pu (wpAny_bind (wpAny_pure ?_)))))
  show wpAny _ _ (match Builtin.Slice.sliceAdjust lo hi 1 (n : Int) with | (lo, hi) => pure (lo, (1 : Int), Builtin.Slice.slicePlaces lo hi 1)) _ _ s
  rw [adjust_gen lo hi n]
  show wpAny _ _ (pure (((sIx n 0 lo : Nat) : Int), (1 : Int), Builtin.Slice.slicePlaces ((sIx n 0 lo : Nat) : Int) ((sIx n n hi : Nat) : Int) 1)) _ _ s
  rw [places_gen]
  exact wpAny_pure h
theorem pick_gen (xs : Array Value) (i k : Nat) : ((List.range k).filterMap fun (m : Nat) => xs[((i : Int) + (m : Int) * 1).toNat]?).toArray = ((xs.toList.drop i).take k).toArray := by
  have e : (fun (m : Nat) => xs[((i : Int) + (m : Int) * 1).toNat]?) = fun m => xs[i + m]? := by
    funext m
    have : ((i : Int) + (m : Int) * 1).toNat = i + m := by omega
    rw [this]
  rw [e]
  have := pick_run xs i k
  rw [List.filterMap_map] at this
  have e2 : ((fun x => xs[x]?) ∘ fun x => i + x) = fun m => xs[i + m]? := rfl
  rw [e2] at this
  rw [this]

theorem getItem_tuple_cut {t sl : Addr} {items : Array Value} {vl vu : Value} {lo hi : Option Int} {Q : Value → Shared → Prop} (ht : IsTup s.heap t items) (hs : s.heap.IsSliceOf sl vl vu .none) (pl : IsPart vl lo) (pu : IsPart vu hi)
    (hw : ¬ (sIx items.size 0 lo = 0 ∧ sIx items.size items.size hi = items.size))
    (h : Q (.ref s.heap.objs.size) { s with heap := s.heap.push { cls := .type "tuple", data := .seq ((items.toList.drop (sIx items.size 0 lo)).take (sIx items.size items.size hi - sIx items.size 0 lo)).toArray } })
    (hsz : items.size ≤ sizeLine) : wpAny (model prog w) A (getItem (.ref t) (.ref sl)) Q E s := by
  have htake : sizeOk (.seq ((items.toList.drop (sIx items.size 0 lo)).take (sIx items.size items.size hi - sIx items.size 0 lo)).toArray) := by
    show ((items.toList.drop (sIx items.size 0 lo)).take (sIx items.size items.size hi - sIx items.size 0 lo)).toArray.size ≤ sizeLine
    rw [List.size_toArray, List.length_take, List.length_drop, Array.length_toList]
    omega
  have hj : sIx items.size items.size hi ≤ items.size := sIx_le _ _ (Nat.le_refl _) hi
  obtain ⟨os, hos, hcs, hds⟩ := id hs
  have hTs : s.TypeIs (.ref sl) "slice" := ⟨os, hos, hcs⟩
  unfold getItem
  try with_reducible refine wpAny_holding ?_
  first | refine wpAny_bind (wpAny_pure ?_) | skip
  refine wpAny_bind (wpAny_sequenceKey ht.typeIs (by decide) ?_)
  refine wpAny_bind (wpAny_callSpecial?_slot (name := Str.ofString "__getitem__") ht.typeIs PyProof.Rows.slot_tuple_getitem
    (wpAny_call_entry PyProof.Rows.slot_tuple_getitem ht.typeIs entry_tuple_getitem ?_ (args_tuple_getitem _ _)))
  show wpAny _ _ (Builtin.Tuple.tupleItemsOf (.ref t) >>= _) _ _ s
  refine wpAny_bind (tupleItemsOf_ ht ?_)
  refine wpAny_bind (wpAny_typeOf hTs ?_)
  rw [if_pos (by decide)]
  refine wpAny_bind (sliceApplied_gen hs pl pu ?_)
  have hno : ¬ ((((sIx items.size 0 lo : Nat) : Int) == 0 && (1 : Int) == 1 && (sIx items.size items.size hi - sIx items.size 0 lo) == items.size) = true) := by
    intro q
    rw [Bool.and_eq_true, Bool.and_eq_true] at q
    have q1 : ((sIx items.size 0 lo : Nat) : Int) = 0 := eq_of_beq q.1.1
    have q2 : sIx items.size items.size hi - sIx items.size 0 lo = items.size := eq_of_beq q.2
    exact hw ⟨by omega, by omega⟩
  show wpAny _ _ (if (((sIx items.size 0 lo : Nat) : Int) == 0 && (1 : Int) == 1 && (sIx items.size items.size hi - sIx items.size 0 lo) == items.size) = true then _ else _) _ _ s
  rw [if_neg hno, pick_gen]
  first
    | exact wpAny_bind (m := Builtin.Tuple.tupleExact _) (wpAny_newObj_type (wpAny_pure ⟨_, rfl, wpAny_pure h⟩) htake)
    | exact wpAny_bind (m := Builtin.Tuple.tupleExact _) (wpAny_newObj_type (wpAny_bind (wpAny_pure (wpAny_pure ⟨_, rfl, wpAny_pure h⟩))) htake)
    | exact wpAny_bind (wpAny_bind (m := Builtin.Tuple.tupleExact _) (wpAny_newObj_type (wpAny_pure (wpAny_pure ⟨_, rfl, wpAny_pure h⟩)) htake))
    | exact wpAny_bind (wpAny_bind (m := Builtin.Tuple.tupleExact _) (wpAny_newObj_type (wpAny_pure ⟨_, rfl, wpAny_pure h⟩) htake))
end
end HT

namespace L2
open PySem PySem.Spec PyProof.Rows

/-! ### the parts of a slice -/
abbrev TO := St → Hp → (Option Int → Hp → Prop) → Prop
/-- a slice's part (left out, or an int) -/
def PO (X : Cx) (e : Option Expr) (t : TO) : Prop :=
  ∀ (pins : List (Addr × Obj)) (s : Shared) (σ : St) (H : Hp) (Q : Option Int → Hp → Prop), Inv X pins σ H s → t σ H Q →
    wpAny (model X.prog X.w) X.A (evalPart e X.env) (fun u s' => ∃ o H', Inv X pins σ H' s' ∧ IsPart u o ∧ Q o H') X.xe s
def tNoPart : TO := fun _ H Q => Q none H
def tPart (t : TE) : TO := fun σ H Q => t σ H fun x H1 => ∃ i, x = .int i ∧ Q (some i) H1

section
variable {X : Cx} {e : Expr} {te : TE} {lo hi : Option Expr} {tl th : TO} {pos p2 : Pos}

theorem po_none : PO X none tNoPart := by
  intro pins s σ H Q I h
  rw [evalPart_none]
  exact wpAny_pure ⟨none, H, I, .none, h⟩
theorem po_some (h : PE X e te) : PO X (some e) (tPart te) := by
  intro pins s σ H Q I hw
  rw [evalPart_some]
  refine thn (h pins s σ H _ I hw) fun u s1 ⟨x, H1, I1, r1, q1⟩ => ?_
  obtain ⟨i, rfl, q⟩ := q1
  obtain ⟨t, rfl⟩ := r1
  exact ⟨some i, H1, I1, .int i t, q⟩

/-- what a slice of a value is, by values: the slice object stands at sl -/
def SlR (X : Cx) (r : V → Option Int → Option Int → Hp → VK → Prop) : Prop :=
  ∀ (pins : List (Addr × Obj)) (s : Shared) (σ : St) (H : Hp) (x : V) (v vl vu : Value) (lo hi : Option Int) (sl : Addr) (Q : VK), Inv X pins σ H s → RelV x v → s.heap.IsSliceOf sl vl vu .none → IsPart vl lo → IsPart vu hi → r x lo hi H Q →
    ∃ T id, typeLookup (.type T) "__getitem__" = pure (some (.builtin id)) ∧ s.TypeIs v T ∧ wpAny (model X.prog X.w) X.A (getItem v (.ref sl)) (EP X pins σ Q) X.xe s
theorem SlR.or {r r' : V → Option Int → Option Int → Hp → VK → Prop} (h : SlR X r) (h' : SlR X r') : SlR X (fun x lo hi H Q => r x lo hi H Q ∨ r' x lo hi H Q) := by
  intro pins s σ H x v vl vu lo hi sl Q I rx hs pl pu q
  rcases q with q | q
  · exact h pins s σ H x v vl vu lo hi sl Q I rx hs pl pu q
  · exact h' pins s σ H x v vl vu lo hi sl Q I rx hs pl pu q
def tSl (r : V → Option Int → Option Int → Hp → VK → Prop) (te : TE) (tl th : TO) : TE := fun σ H Q => te σ H fun x H1 => tl σ H1 fun l H2 => th σ H2 fun u H3 => r x l u H3 Q
/-- a[lo:hi], any a -/
theorem pe_slice {r : V → Option Int → Option Int → Hp → VK → Prop} (hr : SlR X r) (he : PE X e te) (hl : PO X lo tl) (hu : PO X hi th) : PE X (.Subscript e (.Slice lo hi none p2) pos) (tSl r te tl th) := by
  intro pins s σ H Q I h
  refine Subscript_ (thn (he pins s σ H _ I h) fun v s1 ⟨x, H1, I1, r1, q1⟩ => ?_)
  refine wpAny_Slice (thn (hl pins s1 σ H1 _ I1 q1) fun vl s2 ⟨l, H2, I2, pl, q2⟩ => thn (hu pins s2 σ H2 _ I2 q2) fun vu s3 ⟨u, H3, I3, pu, q3⟩ => ?_)
  rw [evalPart_none]
  refine wpAny_pure ?_
  have I4 : Inv X pins σ H3 { s3 with heap := s3.heap.push { cls := .type "slice", data := .fields #[vl, vu, .none] } } := I3.kept (t' := s3.toks) fun b ob q => Heap.get?_push_of_some _ q
  obtain ⟨T, id, hT, ht, hg⟩ := hr pins { s3 with heap := s3.heap.push { cls := .type "slice", data := .fields #[vl, vu, .none] } } σ H3 x v vl vu l u s3.heap.objs.size Q I4 r1 (Heap.IsSliceOf.new ..) pl pu q3
  show wpAny (model X.prog X.w) X.A (subscriptTail e (.Slice lo hi none p2) v (.ref s3.heap.objs.size)) (EP X pins σ Q) X.xe { s3 with heap := s3.heap.push { cls := .type "slice", data := .fields #[vl, vu, .none] } }
  exact tail_any (ops := [.ref s3.heap.objs.size, v]) ht hT hg (by with_unfolding_all rfl)

/-- the items of xs[lo:hi] -/
def cutV (xs : List V) (lo hi : Option Int) : List V := (xs.drop (HT.sIx xs.length 0 lo)).take (HT.sIx xs.length xs.length hi - HT.sIx xs.length 0 lo)
theorem cutV_length (xs : List V) (lo hi : Option Int) : (cutV xs lo hi).length ≤ xs.length := by
  unfold cutV
  rw [List.length_take, List.length_drop]
  omega
/-- t[lo:hi], not the whole of it (the whole would be t itself) -/
def rSlT (K : PySem.W.Frag) : V → Option Int → Option Int → Hp → VK → Prop := fun x lo hi H Q => ∃ a xs, x = .ref a ∧ SqT K H a xs ∧
  ¬ (HT.sIx xs.length 0 lo = 0 ∧ HT.sIx xs.length xs.length hi = xs.length) ∧ ∀ p, H p = none → Q (.ref p) (upd H p (.tup (cutV xs lo hi)))
theorem sl_tup : SlR X (rSlT X.K) := by
  intro pins s σ H x v vl vu lo hi sl Q I rx hs pl pu h
  obtain ⟨a, xs, rfl, hx, hw, q⟩ := h
  cases rx
  obtain ⟨its, r, ht, hz⟩ := I.tuple hx
  have hlen : its.toArray.size = xs.length := by rw [List.size_toArray]; exact r.length.symm
  refine ⟨"tuple", _, PyProof.Rows.slot_tuple_getitem.lookup, ht.typeIs, ?_⟩
  refine HT.getItem_tuple_cut ht hs pl pu (by rw [hlen]; exact hw) ?_ (by rw [hlen]; exact hz)
  rw [hlen]
  refine ⟨.ref s.heap.objs.size, _, I.laid (t' := s.toks) (o := .tup (cutV xs lo hi)) (fun b ob q => Heap.get?_push_of_some _ q) (Nat.le_refl _) ?_, rfl, q _ (I.hok.fresh (Nat.le_refl _))⟩
  exact ⟨Nat.le_trans (cutV_length xs lo hi) hz, _, (r.drop (HT.sIx xs.length 0 lo)).take (HT.sIx xs.length xs.length hi - HT.sIx xs.length 0 lo), IsTup.new _ _⟩

/-! ### t < u, t + u -/
end
end L2

namespace L2
open PySem PySem.Spec PyProof.Rows

/-! ### places -/
/-- the place that an index of any sign means -/
def ixN (n : Nat) (i : Int) : Option Nat := if 0 ≤ i then (if i < n then some i.toNat else none) else if -(n : Int) ≤ i then some (i + n).toNat else none
def atI {α : Type} (xs : List α) (i : Int) : Option α := (ixN xs.length i).bind fun j => xs[j]?
theorem ixN_seq {n : Nat} {i : Int} {j : Nat} (h : ixN n i = some j) : seqIndex? i n = some j ∧ j < n ∧ -(n : Int) ≤ i ∧ i < n := by
  unfold ixN at h
  by_cases h0 : 0 ≤ i
  · rw [if_pos h0] at h
    by_cases h1 : i < n
    · rw [if_pos h1] at h
      have e : i.toNat = j := Option.some.inj h
      exact ⟨by rw [seqIndex_of h0 h1, e], by omega, by omega, h1⟩
    · rw [if_neg h1] at h; cases h
  · rw [if_neg h0] at h
    by_cases h1 : -(n : Int) ≤ i
    · rw [if_pos h1] at h
      have e : (i + n).toNat = j := Option.some.inj h
      exact ⟨by rw [seqIndex_neg (by omega) h1, e], by omega, h1, by omega⟩
    · rw [if_neg h1] at h; cases h
theorem atI_get {α : Type} {xs : List α} {i : Int} {v : α} (h : atI xs i = some v) : ∃ j, seqIndex? i xs.length = some j ∧ xs[j]? = some v ∧ j < xs.length ∧ -(xs.length : Int) ≤ i ∧ i < xs.length := by
  unfold atI at h
  cases e : ixN xs.length i with
  | none => rw [e] at h; cases h
  | some j =>
    rw [e] at h
    obtain ⟨h1, h2, h3, h4⟩ := ixN_seq e
    exact ⟨j, h1, h, h2, h3, h4⟩
theorem atI_nat {α : Type} {xs : List α} {j : Nat} {v : α} (h : xs[j]? = some v) : atI xs (j : Int) = some v := by
  have hj : j < xs.length := (List.getElem?_eq_some_iff.mp h).1
  have e : ixN xs.length (j : Int) = some j := by
    unfold ixN
    rw [if_pos (by omega), if_pos (by omega)]; simp
  unfold atI; rw [e]; exact h
theorem atI_last {α : Type} (xs : List α) (v : α) : atI (xs ++ [v]) (-1) = some v := by
  have hl : (xs ++ [v]).length = xs.length + 1 := by simp
  have e : ixN (xs ++ [v]).length (-1) = some xs.length := by
    unfold ixN
    rw [hl, if_neg (by decide), if_pos (by omega)]
    congr 1
    omega
  unfold atI
  rw [e]
  show (xs ++ [v])[xs.length]? = some v
  simp

/-! ### what may be subscripted -/
/-- what stands as an index of a plain subscript -/
def PlainIx (b : Expr) : Prop := ∀ o i, subscripted b false o i = operate [o, i] (getItem o i)
/-- a subscript by values -/
def IxR (X : Cx) (r : R2) : Prop :=
  ∀ (value slice : Expr) (pins : List (Addr × Obj)) (s : Shared) (σ : St) (H : Hp) (x y : V) (v u : Value) (Q : VK), Inv X pins σ H s → RelV x v → RelV y u → r x y H Q →
    subscripted slice false v u = operate [v, u] (getItem v u) → wpAny (model X.prog X.w) X.A (subscriptTail value slice v u) (EP X pins σ Q) X.xe s
/-- a call of a builtin's method by values: the receiver, the arguments -/
def MtR (X : Cx) (id : String) (r : V → List V → Hp → VK → Prop) : Prop :=
  ∀ (pins : List (Addr × Obj)) (s : Shared) (σ : St) (H : Hp) (x : V) (xs : List V) (v : Value) (us : List Value) (Q : VK), Inv X pins σ H s → RelV x v → Vals xs us → r x xs H Q →
    wpAny (model X.prog X.w) X.A (call (.builtin id) (v :: us)) (EP X pins σ Q) X.xe s
section
variable {X : Cx} {a b : Expr} {ta tb : TE} {pos : Pos}
theorem IxR.or {r r' : R2} (h : IxR X r) (h' : IxR X r') : IxR X (fun x y H Q => r x y H Q ∨ r' x y H Q) := by
  intro value slice pins s σ H x y v u Q I rx ry q hs
  rcases q with q | q
  · exact h value slice pins s σ H x y v u Q I rx ry q hs
  · exact h' value slice pins s σ H x y v u Q I rx ry q hs
theorem MtR.or {id : String} {r r' : V → List V → Hp → VK → Prop} (h : MtR X id r) (h' : MtR X id r') : MtR X id (fun x xs H Q => r x xs H Q ∨ r' x xs H Q) := by
  intro pins s σ H x xs v us Q I rx rs q
  rcases q with q | q
  · exact h pins s σ H x xs v us Q I rx rs q
  · exact h' pins s σ H x xs v us Q I rx rs q
/-- a[b] -/
theorem pe_ix {r : R2} (hr : IxR X r) (ha : PE X a ta) (hb : PE X b tb) (hs : PlainIx b) : PE X (.Subscript a b pos) (tOp r ta tb) := by
  intro pins s σ H Q I h
  exact Subscript_ (binT ha hb I h fun v u s2 x y H2 I2 rx ry q => hr a b pins s2 σ H2 x y v u Q I2 rx ry q (hs _ _))

def rIxL (K : PySem.W.Frag) : R2 := fun x y H Q => ∃ p xs i v, x = .ref p ∧ y = .int i ∧ SqL K H p xs ∧ atI xs i = some v ∧ Q v H
def rIxT (K : PySem.W.Frag) : R2 := fun x y H Q => ∃ p xs i v, x = .ref p ∧ y = .int i ∧ SqT K H p xs ∧ atI xs i = some v ∧ Q v H
theorem ix_list : IxR X (rIxL X.K) := by
  intro value slice pins s σ H x y v u Q I rx ry h hs
  obtain ⟨p, xs, i, z, rfl, rfl, hq, he, q⟩ := h
  cases rx
  obtain ⟨t, rfl⟩ := ry
  obtain ⟨its, r, pl, hz⟩ := I.list hq
  obtain ⟨j, h1, h2, h3, h4, h5⟩ := atI_get he
  obtain ⟨w, ew, rw'⟩ := r.get h2
  have hl := r.length
  have hn := line63
  have fin : EP X pins σ Q w s := ⟨z, H, I, rw', q⟩
  by_cases h0 : 0 ≤ i
  · have hj : i.toNat = j := by
      rw [seqIndex_of h0 h5] at h1
      exact Option.some.inj h1
    exact item_listR pl.isList h0 (by omega) (by rw [hj]; simpa using ew) fin hs
  · have hj : (i + (its.toArray.size : Int)).toNat = j := by
      rw [seqIndex_neg (by omega) h4] at h1
      rw [List.size_toArray, ← hl]
      exact Option.some.inj h1
    exact subscriptTail_builtinR (x := w) pl.isList.typeIs slot_list_getitem.lookup
      (wpAny_getItem_list_neg (Q := fun r s' => r = w ∧ EP X pins σ Q r s') pl.isList (by omega) (by rw [List.size_toArray] <;> omega) (by omega) (by rw [hj]; simpa using ew) ⟨rfl, fin⟩) hs
theorem ix_tup : IxR X (rIxT X.K) := by
  intro value slice pins s σ H x y v u Q I rx ry h hs
  obtain ⟨p, xs, i, z, rfl, rfl, hq, he, q⟩ := h
  cases rx
  obtain ⟨t, rfl⟩ := ry
  obtain ⟨its, r, pl, hz⟩ := I.tuple hq
  obtain ⟨j, h1, h2, h3, h4, h5⟩ := atI_get he
  obtain ⟨w, ew, rw'⟩ := r.get h2
  have hl := r.length
  have hn := line63
  have fin : EP X pins σ Q w s := ⟨z, H, I, rw', q⟩
  exact subscriptTail_builtinR (x := w) pl.typeIs slot_tuple_getitem.lookup
    (getItem_tuple (j := j) (Q := fun r s' => r = w ∧ EP X pins σ Q r s') pl (by omega) (by omega) (by rw [List.size_toArray, ← hl]; exact h1) (by simpa using ew) ⟨rfl, fin⟩) hs
/-! ### xs[i] = v, any sign -/
/-- the list's object behind a store -/
theorem mapSeq_set (its : List Value) (n j : Nat) (u : Value) : Obj.mapSeq (·.setIfInBounds j u) { cls := .type "list", data := .seq its.toArray n } = { cls := .type "list", data := .seq (its.set j u).toArray n } := by
  simp [Obj.mapSeq]
theorem Inv.lst {pins : List (Addr × Obj)} {σ : St} {H : Hp} {s : Shared} {p : Addr} {xs : List V} (I : Inv X pins σ H s) (h : H p = some (.lst xs)) :
    ∃ (its : List Value) (n : Nat), Vals xs its ∧ s.heap.get? p = some { cls := .type "list", data := .seq its.toArray n } ∧ xs.length ≤ sizeLine := by
  obtain ⟨z, its, n, r, e⟩ := I.hok p _ h
  exact ⟨its, n, r, e, z⟩
/-- the list at p is written by an update of its object -/
theorem Inv.lstUpd {pins : List (Addr × Obj)} {σ : St} {H : Hp} {s : Shared} {p : Addr} {xs ys : List V} {its its' : List Value} {n n' : Nat} {f : Obj → Obj} (I : Inv X pins σ H s) (h : H p = some (.lst xs))
    (ho : s.heap.get? p = some { cls := .type "list", data := .seq its.toArray n }) (hf : f { cls := .type "list", data := .seq its.toArray n } = { cls := .type "list", data := .seq its'.toArray n' }) (r : Vals ys its') (hz : ys.length ≤ sizeLine) (t : Nat) :
    Inv X pins σ (upd H p (.lst ys)) { s with heap := s.heap.update p f, toks := t } := by
  have e : (s.heap.update p f).get? p = some { cls := .type "list", data := .seq its'.toArray n' } := by
    rw [Heap.get?_update_self f ho (by rw [hf] <;> rfl), hf]
  refine I.write (x := p) (e := p) (by rw [h]; trivial) (.inl rfl) (fun b u hb q => (Heap.get?_update_other _ _ (Ne.symm hb)).trans q) ⟨_, e⟩ ?_
  exact ⟨hz, its', n', r, e⟩
def rSetL : V → V → V → Hp → (Hp → Prop) → Prop := fun o i v H Q => ∃ p xs k j, o = .ref p ∧ i = .int k ∧ H p = some (.lst xs) ∧ ixN xs.length k = some j ∧ Q (upd H p (.lst (xs.set j v)))
theorem set_list : PSet X rSetL := by
  intro pins s σ H o i v ov iv u Q I ro ri rv h
  obtain ⟨p, xs, k, j, rfl, rfl, hp, hj, q⟩ := h
  cases ro
  obtain ⟨t, rfl⟩ := ri
  obtain ⟨its, n, r, ho, hz⟩ := I.lst hp
  obtain ⟨h1, h2, h3, h4⟩ := ixN_seq hj
  have hl := r.length
  have hn := line63
  have I' : Inv X pins σ (upd H p (.lst (xs.set j v))) { s with heap := s.heap.update p (Obj.mapSeq (·.setIfInBounds j u)) } :=
    I.lstUpd hp ho (mapSeq_set its n j u) (r.set rv j) (by rw [List.length_set]; exact hz) s.toks
  by_cases h0 : 0 ≤ k
  · have hk : k.toNat = j := by
      rw [seqIndex_of h0 h4] at h1
      exact Option.some.inj h1
    exact PySem.W.ki_setAt ho h0 (by omega) (by rw [List.size_toArray, ← hl]; exact h4) (by rw [hk]; exact ⟨_, I', q⟩)
  · have hk : (k + (its.toArray.size : Int)).toNat = j := by
      rw [seqIndex_neg (by omega) h3] at h1
      rw [List.size_toArray, ← hl]
      exact Option.some.inj h1
    exact PySem.W.ki_setBack ho (by omega) (by rw [List.size_toArray, ← hl]; exact h3) (by omega) (by rw [hk]; exact ⟨_, I', q⟩)

/-! ### slices -/
theorem slice_bounds (lo hi : Option Int) (n : Nat) : (sliceBounds lo hi none n).1 = ((HT.sIx n 0 lo : Nat) : Int) ∧ (sliceBounds lo hi none n).2.1 = ((HT.sIx n n hi : Nat) : Int) ∧ (sliceBounds lo hi none n).2.2 = 1 := by
  refine ⟨?_, ?_, rfl⟩
  · cases lo with
    | none => simp [sliceBounds, HT.sIx]
    | some i =>
      simp only [sliceBounds, HT.sIx, Option.getD_none, show (1 : Int) > 0 by decide, if_true]
      by_cases h : i < 0
      · simp only [h, if_true] <;> omega
      · simp only [h, if_false] <;> omega
  · cases hi with
    | none => simp [sliceBounds, HT.sIx]
    | some i =>
      simp only [sliceBounds, HT.sIx, Option.getD_none, show (1 : Int) > 0 by decide, if_true]
      by_cases h : i < 0
      · simp only [h, if_true] <;> omega
      · simp only [h, if_false] <;> omega
theorem slicePick_cut (its : List Value) (lo hi : Option Int) : slicePick its.toArray lo hi none = ((its.drop (HT.sIx its.length 0 lo)).take (HT.sIx its.length its.length hi - HT.sIx its.length 0 lo)).toArray := by
  obtain ⟨h1, h2, h3⟩ := slice_bounds lo hi its.toArray.size
  unfold slicePick
  rw [h1, h2, h3]
  simp only [sliceRange_one, pick_run, List.size_toArray] <;> rfl
/-- xs[lo:hi] of a list: a new list -/
def rSlL (K : PySem.W.Frag) : V → Option Int → Option Int → Hp → VK → Prop := fun x lo hi H Q => ∃ a xs, x = .ref a ∧ SqL K H a xs ∧ ∀ p, H p = none → Q (.ref p) (upd H p (.lst (cutV xs lo hi)))
theorem sl_list : SlR X (rSlL X.K) := by
  intro pins s σ H x v vl vu lo hi sl Q I rx hs pl pu h
  obtain ⟨a, xs, rfl, hx, q⟩ := h
  cases rx
  obtain ⟨its, r, ht, hz⟩ := I.list hx
  have hlen := r.length
  refine ⟨"list", _, slot_list_getitem.lookup, ht.isList.typeIs, ?_⟩
  refine wpAny_getItem_list_slice ht.isList hs pl pu .none (by simp) ?_ (by rw [List.size_toArray] <;> omega)
  rw [slicePick_cut, ← hlen]
  refine ⟨.ref s.heap.objs.size, _, I.laid (t' := s.toks) (o := .lst (cutV xs lo hi)) (fun b ob q => Heap.get?_push_of_some _ q) (Nat.le_refl _) ?_, rfl, q _ (I.hok.fresh (Nat.le_refl _))⟩
  exact ⟨Nat.le_trans (cutV_length xs lo hi) hz, _, 0, (r.drop (HT.sIx xs.length 0 lo)).take (HT.sIx xs.length xs.length hi - HT.sIx xs.length 0 lo), Heap.get?_push_size _ rfl⟩

/-! ### in, not in: flat items -/
def flatV : V → Bool
  | .non => true
  | .bl _ => true
  | .int _ => true
  | .str _ => true
  | _ => false
/-- == of flat values -/
def eqV : V → V → Bool
  | .non, .non => true
  | .bl a, .bl b => a == b
  | .bl a, .int b => (if a then 1 else 0) == b
  | .int a, .bl b => a == (if b then 1 else 0)
  | .int a, .int b => a == b
  | .str a, .str b => a == b
  | _, _ => false
theorem eqAt_V {A : Around} {s : Shared} {y x : V} {u v : Value} (ry : RelV y u) (rx : RelV x v) (fy : flatV y = true) (fx : flatV x = true) : SeqAt.EqAt A s u v (eqV y x) := by
  cases y with
  | non =>
    cases ry
    cases x with
    | non => cases rx; exact SeqAt.EqAt.same _
    | bl b => cases rx; exact SeqAt.EqAt.none_bool b
    | int b => obtain ⟨t, rfl⟩ := rx; exact SeqAt.EqAt.none_int b t
    | str b => obtain ⟨t, rfl⟩ := rx; exact SeqAt.EqAt.none_str b t
    | _ => exact absurd (show false = true from fx) Bool.false_ne_true
  | bl a =>
    cases ry
    cases x with
    | non => cases rx; exact SeqAt.EqAt.bool_none a
    | bl b => cases rx; exact SeqAt.EqAt.bool_bool a b
    | int b => obtain ⟨t, rfl⟩ := rx; exact SeqAt.EqAt.bool_int a b t
    | str b => obtain ⟨t, rfl⟩ := rx; exact SeqAt.EqAt.bool_str a b t
    | _ => exact absurd (show false = true from fx) Bool.false_ne_true
  | int a =>
    obtain ⟨t', rfl⟩ := ry
    cases x with
    | non => cases rx; exact SeqAt.EqAt.int_none a t'
    | bl b => cases rx; exact SeqAt.EqAt.int_bool a t' b
    | int b => obtain ⟨t, rfl⟩ := rx; exact SeqAt.EqAt.int_int a t' b t
    | str b => obtain ⟨t, rfl⟩ := rx; exact SeqAt.EqAt.int_str a t' b t
    | _ => exact absurd (show false = true from fx) Bool.false_ne_true
  | str a =>
    obtain ⟨t', rfl⟩ := ry
    cases x with
    | non => cases rx; exact SeqAt.EqAt.str_none a t'
    | bl b => cases rx; exact SeqAt.EqAt.str_bool a t' b
    | int b => obtain ⟨t, rfl⟩ := rx; exact SeqAt.EqAt.str_int a t' b t
    | str b => obtain ⟨t, rfl⟩ := rx; exact SeqAt.EqAt.str_str a t' b t
    | _ => exact absurd (show false = true from fx) Bool.false_ne_true
  | _ => exact absurd (show false = true from fy) Bool.false_ne_true
/-- the items' answers, read off the values (a value's own answer does not lean on its token) -/
def eqU (x : V) (u : Value) : Bool := match u with
  | .none => eqV .non x
  | .bool b => eqV (.bl b) x
  | .int i _ => eqV (.int i) x
  | .str z _ => eqV (.str z) x
  | _ => false
theorem eqU_of {x y : V} {u : Value} (r : RelV y u) (f : flatV y = true) : eqU x u = eqV y x := by
  cases y with
  | non => cases r; rfl
  | bl b => cases r; rfl
  | int i => obtain ⟨t, rfl⟩ := r; rfl
  | str z => obtain ⟨t, rfl⟩ := r; rfl
  | _ => exact absurd (show false = true from f) Bool.false_ne_true
theorem any_eqU {x : V} : ∀ {xs : List V} {us : List Value}, Vals xs us → xs.all flatV = true → us.any (eqU x) = xs.any fun y => eqV y x
  | _, _, .nil, _ => rfl
  | y :: xs, u :: us, .cons r t, f => by
    rw [List.all_cons, Bool.and_eq_true] at f
    rw [List.any_cons, List.any_cons, eqU_of r f.1, any_eqU t f.2]
theorem mem_eqAt {A : Around} {s : Shared} {x : V} {v : Value} (rx : RelV x v) (fx : flatV x = true) : ∀ {xs : List V} {us : List Value}, Vals xs us → xs.all flatV = true → ∀ u ∈ us, SeqAt.EqAt A s u v (eqU x u)
  | _, _, .nil, _ => fun u hu => by cases hu
  | y :: xs, u :: us, .cons r t, f => fun u' hu => by
    rw [List.all_cons, Bool.and_eq_true] at f
    rcases List.mem_cons.mp hu with rfl | hu
    · rw [eqU_of r f.1]; exact eqAt_V r rx f.1 fx
    · exact mem_eqAt rx fx t f.2 u' hu
def inV (x : V) (xs : List V) : Bool := xs.any fun y => eqV y x
/-- x in a list or tuple of flat items -/
def rIn (K : PySem.W.Frag) (neg : Bool) : R2 := fun x y H Q => ∃ p xs, y = .ref p ∧ (SqL K H p xs ∨ SqT K H p xs) ∧ flatV x = true ∧ xs.all flatV = true ∧ Q (.bl (if neg then !inV x xs else inV x xs)) H
theorem op_in_seq : OpR X (compareOp .In) (rIn X.K false) := by
  intro pins s σ H x y v u Q I rx ry h
  obtain ⟨p, xs, rfl, hq, fx, fs, q⟩ := h
  cases ry
  rcases hq with hq | hq
  · obtain ⟨its, r, pl, hz⟩ := I.list hq
    refine SeqAt.in_listAt (eqU x) pl.isList (fun w hw => mem_eqAt rx fx r fs w (by simpa using hw)) ⟨.bl _, H, I, rfl, ?_⟩
    rw [show its.toArray.any (eqU x) = its.any (eqU x) by simp, any_eqU r fs]
    exact q
  · obtain ⟨its, r, pl, hz⟩ := I.tuple hq
    refine SeqAt.in_tupleAt (eqU x) pl (fun w hw => mem_eqAt rx fx r fs w (by simpa using hw)) ⟨.bl _, H, I, rfl, ?_⟩
    rw [show its.toArray.any (eqU x) = its.any (eqU x) by simp, any_eqU r fs]
    exact q
theorem op_notIn_seq : OpR X (compareOp .NotIn) (rIn X.K true) := by
  intro pins s σ H x y v u Q I rx ry h
  obtain ⟨p, xs, rfl, hq, fx, fs, q⟩ := h
  cases ry
  rcases hq with hq | hq
  · obtain ⟨its, r, pl, hz⟩ := I.list hq
    refine SeqAt.notIn_listAt (eqU x) pl.isList (fun w hw => mem_eqAt rx fx r fs w (by simpa using hw)) ⟨.bl _, H, I, rfl, ?_⟩
    rw [show its.toArray.any (eqU x) = its.any (eqU x) by simp, any_eqU r fs]
    exact q
  · obtain ⟨its, r, pl, hz⟩ := I.tuple hq
    refine SeqAt.notIn_tupleAt (eqU x) pl (fun w hw => mem_eqAt rx fx r fs w (by simpa using hw)) ⟨.bl _, H, I, rfl, ?_⟩
    rw [show its.toArray.any (eqU x) = its.any (eqU x) by simp, any_eqU r fs]
    exact q
/-! ### len, list(x), tuple(x) of any list or tuple that is read -/
theorem call_len_seq : CallR X (.builtin "len") (fun xs H Q => ∃ p ys, xs = [.ref p] ∧ (SqL X.K H p ys ∨ SqT X.K H p ys) ∧ Q (.int ys.length) H) := by
  intro pins s σ H xs us Q I r h
  obtain ⟨p, ys, rfl, hq, q⟩ := h
  obtain ⟨u, rfl, rx⟩ := vals1 r
  cases rx
  have hn := line63
  rcases hq with hq | hq
  · obtain ⟨its, r', pl, hz⟩ := I.list hq
    have hlen := r'.length
    exact Calls.call_len_list pl.isList (by simp only [List.size_toArray] <;> omega) ⟨.int ys.length, H, I.tok _, ⟨s.toks + 1, by rw [List.size_toArray, hlen]⟩, q⟩
  · obtain ⟨its, r', pl, hz⟩ := I.tuple hq
    have hlen := r'.length
    exact len_tuple pl (by simp only [List.size_toArray] <;> omega) ⟨.int ys.length, H, I.tok _, ⟨s.toks + 1, by rw [List.size_toArray, hlen]⟩, q⟩
theorem CallR.or {f : Value} {r r' : List V → Hp → VK → Prop} (h : CallR X f r) (h' : CallR X f r') : CallR X f (fun xs H Q => r xs H Q ∨ r' xs H Q) := by
  intro pins s σ H xs us Q I rs q
  rcases q with q | q
  · exact h pins s σ H xs us Q I rs q
  · exact h' pins s σ H xs us Q I rs q
theorem call_list_of : CallR X (.type "list") (fun xs H Q => ∃ p ys, xs = [.ref p] ∧ (SqL X.K H p ys ∨ SqT X.K H p ys) ∧ ∀ l, H l = none → Q (.ref l) (upd H l (.lst ys))) := by
  intro pins s σ H xs us Q I r h
  obtain ⟨p, ys, rfl, hq, q⟩ := h
  obtain ⟨u, rfl, rx⟩ := vals1 r
  cases rx
  have fin : ∀ (its : List Value), Vals ys its → ys.length ≤ sizeLine → ∀ (h' : Heap) (c' : Nat), (∀ b o', s.heap.get? b = some o' → h'.get? b = some o') →
      h'.get? s.heap.objs.size = some { cls := .type "list", dict := none, data := .seq its.toArray c', slots := #[] } → EP X pins σ Q (.ref s.heap.objs.size) { s with heap := h' } := fun its r' hz h' c' kp e =>
    ⟨.ref s.heap.objs.size, _, I.laid (t' := s.toks) kp (Nat.le_refl _) (show ObjOk X.prog X.w _ h' _ (.lst ys) from ⟨hz, its, c', r', e⟩), rfl, q _ (I.hok.fresh (Nat.le_refl _))⟩
  rcases hq with hq | hq
  · obtain ⟨its, r', pl, hz⟩ := I.list hq
    have hlen := r'.length
    obtain ⟨o, ho, hc, n, hd⟩ := pl.isList
    exact call_list_seq p (.inl rfl) ho hc hd (fun h' c' kp e => fin its r' hz h' c' kp e) (by simp only [List.size_toArray] <;> omega)
  · obtain ⟨its, r', pl, hz⟩ := I.tuple hq
    have hlen := r'.length
    obtain ⟨o, ho, hc, n, hd⟩ := pl
    exact call_list_seq p (.inr rfl) ho hc hd (fun h' c' kp e => fin its r' hz h' c' kp e) (by simp only [List.size_toArray] <;> omega)
/-! ### the call of a builtin's method: o.m(..) -/
/-- the value is of that builtin type -/
def tyV (K : PySem.W.Frag) (T : String) (x : V) (H : Hp) : Prop := match x with
  | .str _ => T = "str"
  | .int _ => T = "int"
  | .ref p => (T = "list" ∧ ∃ xs, SqL K H p xs) ∨ (T = "tuple" ∧ ∃ o, K.lookup p = some o ∧ o.cls = .type "tuple" ∧ o.dict = none) ∨
      (T = "dict" ∧ ((∃ kvs, H p = some (.dK kvs)) ∨ ∃ kvs, H p = some (.dT kvs))) ∨ (T = "set" ∧ ∃ S n, H p = some (.set S n))
  | _ => False
theorem tyV_is {pins : List (Addr × Obj)} {σ : St} {H : Hp} {s : Shared} {T : String} {x : V} {v : Value} (I : Inv X pins σ H s) (r : RelV x v) (ty : tyV X.K T x H) :
    s.TypeIs v T ∧ ∀ a, v = .ref a → ∃ ob, s.heap.get? a = some ob ∧ ob.dict = none := by
  cases x with
  | str z =>
    obtain ⟨t, rfl⟩ := r
    cases (show T = "str" from ty)
    exact ⟨typeIs_str s z t, fun _ e => nomatch e⟩
  | int i =>
    obtain ⟨t, rfl⟩ := r
    cases (show T = "int" from ty)
    exact ⟨typeIs_int s i t, fun _ e => nomatch e⟩
  | ref p =>
    cases r
    rcases ty with ⟨rfl, xs, hq⟩ | ⟨rfl, o, hk, hc, hd⟩ | ⟨rfl, hk⟩ | ⟨rfl, S, n, hk⟩
    · obtain ⟨its, _, pl, _⟩ := I.list hq
      refine ⟨pl.isList.typeIs, fun a e => ?_⟩
      cases e
      obtain ⟨o, n, e, c, hd, _⟩ := pl
      exact ⟨o, e, hd⟩
    · refine ⟨⟨o, I.kIn p o hk, hc⟩, fun a e => ?_⟩
      cases e
      exact ⟨o, I.kIn _ o hk, hd⟩
    · have z : ∃ o, s.heap.get? p = some o ∧ o.ExactDict := by
        rcases hk with ⟨kvs, hk⟩ | ⟨kvs, hk⟩
        · obtain ⟨_, _, _, _, o, _, _, e, ex, _⟩ := I.hok p _ hk
          exact ⟨o, e, ex⟩
        · obtain ⟨_, _, _, _, o, _, _, e, ex, _⟩ := I.hok p _ hk
          exact ⟨o, e, ex⟩
      obtain ⟨o, e, ex⟩ := z
      refine ⟨⟨o, e, ex.1⟩, fun a e2 => ?_⟩
      cases e2
      exact ⟨o, e, ex.2.1⟩
    · obtain ⟨o, _, _, _, e, ex, _⟩ := I.hok p _ hk
      refine ⟨⟨o, e, ex.1⟩, fun a e2 => ?_⟩
      cases e2
      exact ⟨o, e, ex.2.1⟩
  | _ => exact False.elim ty
def tBM (K : PySem.W.Frag) (T : String) (r : V → List V → Hp → VK → Prop) (to : TE) (t : TA) : TE := fun σ H Q => to σ H fun x H1 => tyV K T x H1 ∧ t σ H1 fun xs H2 => r x xs H2 Q
variable {o e : Expr} {es : List Expr} {to : TE} {t : TA} {name : Str} {apos cpos : Pos} {T id : String} {r : V → List V → Hp → VK → Prop}
theorem pe_bm (pa : PlainAttrs T) (slot : Slot T name id) (hty : typeOf (.builtin id) = pure (.type "method_descriptor")) (hm : MtR X id r) (ho : PE X o to) (ha : PA X (e :: es) t)
    (hbase : attributeBase o name X.env (eval o X.env) = eval o X.env := by rfl)
    (hfew : ((backTo cpos (starEach (e :: es) X.env)).all (fun x => !x.1) && (backToKw cpos (keywordEach [] X.env)).all (fun x => x.1.isSome)
      && decide ((e :: es).length + ([] : List Keyword).length + (if ([] : List Keyword).isEmpty then 0 else 1) < 30)) = true := by rfl)
    (hline : (apos.endLine == cpos.line) = true := by rfl) (hs : starEach (e :: es) X.env = (false, eval e X.env) :: starEach es X.env := by rfl) (hplain : (backTo cpos (starEach es X.env)).any (·.1) = false := by rfl) :
    PE X (.Call (.Attribute o name apos) (e :: es) [] cpos) (tBM X.K T r to t) := by
  intro pins s σ H Q I h
  refine wpAny_Call_method_late hbase hfew hline rfl (thn (ho pins s σ H _ I h) fun v s1 ⟨x, H1, I1, r1, ty, q1⟩ => ?_)
  obtain ⟨h1, h2⟩ := tyV_is I1 r1 ty
  refine ⟨T, id, pa, slot, hty, h1, h2, ?_⟩
  have hA := ha cpos pins s1 σ H1 _ I1 q1
  rw [hs] at hA ⊢
  refine Calls.callWith_builtin (by show (false || (backTo cpos (starEach es X.env)).any (·.1)) = false; rw [hplain] <;> rfl) (Calls.evalArgs_plain ?_)
  exact thn hA fun us s2 ⟨vs, H2, I2, r2, q2⟩ => hm pins s2 σ H2 x vs v us Q I2 r1 r2 q2
end
end L2

namespace L2
open PySem PySem.Spec PyProof.Rows

def MtM (X : Cx) (id : String) (r : V → List V → Hp → VK → Prop) : Prop :=
  ∀ (pins : List (Addr × Obj)) (s : Shared) (σ : St) (H : Hp) (x : V) (xs : List V) (v : Value) (us : List Value) (Q : VK), Inv X pins σ H s → RelV x v → Vals xs us → r x xs H Q →
    wpAny (model X.prog X.w) X.A (call (.builtin id) (v :: us)) (EP X pins σ Q) X.xe s

/-! ### lists of values -/
theorem Vals.one : ∀ {x : V} {us : List Value}, Vals [x] us → ∃ u, us = [u] ∧ RelV x u
  | _, _, .cons r .nil => ⟨_, rfl, r⟩
theorem Vals.two : ∀ {x y : V} {us : List Value}, Vals [x, y] us → ∃ u v, us = [u, v] ∧ RelV x u ∧ RelV y v
  | _, _, _, .cons r (.cons q .nil) => ⟨_, _, rfl, r, q⟩
theorem Vals.zero : ∀ {us : List Value}, Vals [] us → us = []
  | _, .nil => rfl
theorem Vals.dropLast {xs : List V} {us : List Value} (h : Vals xs us) : Vals xs.dropLast us.dropLast := by
  induction h with
  | nil => exact .nil
  | cons r t ih =>
    cases t with
    | nil => exact .nil
    | cons q t' => exact .cons r ih
section
variable {X : Cx} {pins : List (Addr × Obj)} {σ : St} {H : Hp} {s : Shared} {l b : Addr} {xs ys zs : List V}

/-! ### the two steps: a tracked list is rewritten, a new list is laid -/
theorem Inv.lset {its its' : List Value} {n : Nat} {f : Array Value → Array Value} {t' : Nat} (I : Inv X pins σ H s) (hH : H l = some (.lst xs))
    (e : s.heap.get? l = some { cls := .type "list", data := .seq its.toArray n }) (hf : f its.toArray = its'.toArray) (hv : Vals ys its') (hz : ys.length ≤ sizeLine) :
    Inv X pins σ (upd H l (.lst ys)) { s with heap := s.heap.update l (Obj.mapSeq f), toks := t' } := by
  have q := PySem.IsL.update e f
  rw [hf] at q
  refine I.write (x := l) (e := l) (by rw [hH]; exact trivial) (.inl rfl) (fun b' u hb hu => (Heap.get?_update_other s.heap (Obj.mapSeq f) (Ne.symm hb)).trans hu) ⟨_, q⟩ ?_
  exact ⟨hz, its', _, hv, q⟩
theorem Inv.lnew {its : List Value} {t' : Nat} (I : Inv X pins σ H s) (hv : Vals ys its) (hz : ys.length ≤ sizeLine) :
    Inv X pins σ (upd H s.heap.objs.size (.lst ys)) { s with heap := s.heap.push { cls := .type "list", data := .seq its.toArray }, toks := t' } :=
  I.laid (fun _ _ q => Heap.get?_push_of_some _ q) (Nat.le_refl _) ⟨hz, its, 0, hv, Heap.get?_push_size _ rfl⟩
theorem Inv.fresh (I : Inv X pins σ H s) : H s.heap.objs.size = none := I.hok.fresh (Nat.le_refl _)
theorem Inv.lstM (I : Inv X pins σ H s) (hH : H l = some (.lst xs)) : xs.length ≤ sizeLine ∧ ∃ (its : List Value) (n : Nat), Vals xs its ∧ xs.length = its.length ∧ s.heap.get? l = some { cls := .type "list", data := .seq its.toArray n } := by
  obtain ⟨z, its, n, r, e⟩ := I.hok l _ hH
  exact ⟨z, its, n, r, r.length, e⟩

end

section
variable {X : Cx}

/-! ### methods -/
def rAppend : V → List V → Hp → VK → Prop := fun x vs H Q => ∃ l xs y, x = .ref l ∧ vs = [y] ∧ H l = some (.lst xs) ∧ xs.length < sizeLine ∧ Q .non (upd H l (.lst (xs ++ [y])))
theorem mt_append : MtM X "list.append" rAppend := by
  intro pins s σ H x vs v us Q I rx rv h
  obtain ⟨l, xs, y, rfl, rfl, hH, hz, q⟩ := h
  cases rx
  obtain ⟨u, rfl, ru⟩ := rv.one
  obtain ⟨z, its, n, r, hl, e⟩ := I.lstM hH
  refine call_meets F.slot_list_append ⟨_, e, rfl⟩ F.entry_list_append (F.args_list_append_2 _ _) (PySem.list_append l its.toArray n u (by rw [List.size_toArray]; omega)) ⟨e, ?_⟩
  refine ⟨.non, _, I.lset (its' := its ++ [u]) hH e (by simp) (r.append (.cons ru .nil)) ?_, rfl, q⟩
  rw [List.length_append, List.length_singleton]
  omega

/-! ### list + list, list += list, list * int -/
def rCat : R2 := fun x y H Q => ∃ l b xs zs, x = .ref l ∧ y = .ref b ∧ H l = some (.lst xs) ∧ H b = some (.lst zs) ∧ xs.length + zs.length ≤ sizeLine ∧ ∀ p, H p = none → Q (.ref p) (upd H p (.lst (xs ++ zs)))
theorem op_cat : OpR X (binaryOp .Add) rCat := by
  intro pins s σ H x y v u Q I rx ry h
  obtain ⟨l, b, xs, zs, rfl, rfl, hH, hB, hz, q⟩ := h
  cases rx
  cases ry
  obtain ⟨z, its, n, r, hl, e⟩ := I.lstM hH
  obtain ⟨z2, its2, n2, r2, hl2, e2⟩ := I.lstM hB
  refine PySem.P.add_list e e2 ?_ (by rw [List.size_toArray, List.size_toArray]; omega)
  have ea : its.toArray ++ its2.toArray = (its ++ its2).toArray := by simp
  rw [ea]
  exact ⟨.ref _, _, I.lnew (t' := s.toks) (r.append r2) (by rw [List.length_append]; omega), rfl, q _ I.fresh⟩
/-! ### del xs[i] -/
end

/-! ### xs[a:b] = ys -/
section
variable {prog : Program} {w : World} {A : Around} {E : Value → Shared → Prop} {s : Shared}
end

section
variable {X : Cx}
end
end L2

namespace Att
open PySem PySem.W PySem.Calls PyProof.Rows

/-! ### the script -/
theorem ints_of_wellAll {P : Params} {h : Heap} : ∀ (ns : List Int) (vs : List Value), WellAll P h vs (ns.map WData.int) → IntsAre vs ns := by
  intro ns
  induction ns with
  | nil =>
    intro vs w
    rw [List.map_nil] at w
    cases w
    exact .nil
  | cons n ns ih =>
    intro vs w
    rw [List.map_cons] at w
    cases w with
    | cons a b =>
      cases a
      exact .cons _ _ (ih _ b)

theorem script_of {l : OpenLaw} {n : Nat} (hn : l.most = some n) {P : Params} {h : Heap} {args : List WData} {vals : List Value}
    (hpre : l.row.toRowW.claim.pre args = true) (hwl : WellAll P h vals args) :
    ∃ a vs ns, vals = [Value.ref a] ∧ args = [WData.list (ns.map WData.int)] ∧ h.get? a = some { cls := .type "list", data := .seq vs.toArray } ∧ IntsAre vs ns ∧ ns.length ≤ n := by
  have hsh : WShape.hasAll [] args [.list .int] = true := (pre_splitW hpre).1
  have hc : l.pre.holds [] { args := args } = true := (pre_splitW hpre).2
  obtain ⟨d, r, rfl, h1, h2⟩ := hasAllW_cons hsh
  obtain rfl := hasAllW_nil h2
  obtain ⟨xs, rfl, h3⟩ := hasW_list h1
  obtain ⟨ns, rfl⟩ := items_int h3
  have hlen : ns.length ≤ n := by
    unfold OpenLaw.pre at hc
    have h4 : (WTm.not (.lt (.lit (.int (n : Int))) (.len (.arg 0)))).holds [] { args := [.list (ns.map .int)] } = true := by
      have h4 := (holds_andW hc).1
      rw [hn] at h4
      exact h4
    have h5 := condW_of h4 (w_not (w_lt w_lit (w_len_list (w_arg rfl))))
    rw [List.length_map] at h5
    refine Nat.le_of_not_lt fun q => ?_
    have q' : (n : Int) < ((ns.length : Nat) : Int) := by omega
    first
      | (rw [decide_eq_true q'] at h5; exact absurd h5 (by decide))
      | (simp at h5; omega)
  cases hwl with
  | cons w1 w2 =>
    cases w2
    cases w1 with
    | list ho hall => exact ⟨_, _, ns, rfl, rfl, ho, ints_of_wellAll ns _ hall, hlen⟩

theorem post_true (l : OpenLaw) (args : List WData) : l.row.toRowW.claim.post args (.bool true) args = true :=
  postW_of (r := l.row.toRowW) (X := (true == true))
    (show WShape.has [] (.bool true) .bool = true by first | rfl | decide | simp [WShape.has, WShape.arms, WShape.armsAll])
    (show (WTm.eq .res (.lit (.bool true))).value [] { args := args, res := some (.bool true), after := args } = some (.bool (true == true)) from w_eq_bool (w_res rfl) w_lit) rfl

/-! ### the attachment: holds_open's last premise (the goal 'hc' behind k_head) from a wpAny of the law's body -/
/-- the same from a codeAny of the CALL (for a layer whose function contracts speak of calls) -/
theorem attach_call {l : OpenLaw} {n : Nat} {q : Program} {loose : List Str} {XP : (Str → Option Value) → Heap → Prop} {YP : World → Heap → Prop} {d : DefRec}
    (hn : l.most = some n) (hdf : d.params.defaults = [])
    (call : ∀ (w : World) (s₀ s₁ : Shared) (mg mb : Str → Option Value) (fa : Addr) (o : Obj) (pm cd doc : Value) (a : Addr) (vs : List Value) (ns : List Int),
      Ground q loose [] XP w s₀ mg mb s₁.heap → YP w s₁.heap →
      s₁.heap.get? fa = some o → o.data = .func (docDef d.name d.params d.body d.scope pm cd doc) → s₁.heap.CodeRec cd d.name → mg d.name = some (.ref fa) →
      s₁.heap.get? a = some { cls := .type "list", data := .seq vs.toArray } → IntsAre vs ns → ns.length ≤ n → s₁.gens = #[] →
      codeAny (model l.prog w) callerA (.call (.ref fa) ⟨[.ref a], []⟩) (fun r s' => r = .ok (.ret (.bool true)) ∧ OldK s₁.heap s'.heap ∧ s'.os = s₁.os ∧ AllBare s'.gens) s₁) :
    WalkO q loose XP YP l.row.toRowW d [] (fun f vs => PySem.call f vs) := by
  intro w s₀ s₁ mg mb G Y fa o pm cd doc dV kV ho hd hcd hD hmg hg args vals as hpre hlay hrd hwl hlo
  obtain rfl : dV = .none := Dflts.none hD hdf
  obtain rfl : kV = .none := Dflts.noKw hD
  obtain ⟨a, vs, ns, rfl, rfl, hobj, hints, hlen⟩ := script_of hn hpre hwl
  refine enter_call (codeAny_mono (call w s₀ s₁ mg mb fa o pm cd doc a vs ns G Y ho (fd_plain hd) hcd hmg hobj hints hlen hg) fun r s' hq => ?_)
  obtain ⟨rfl, h2, h3, h4⟩ := hq
  exact ⟨.inl ⟨.bool true, .bool true, [], rfl, fun _ => rfl, .bool true, post_true l _, fun _ => ⟨List.Pairwise.nil, fun _ hm => (nomatch hm)⟩⟩, h2, h3, h4⟩

/-! ### rules over ANY heap (no ledger) from facts about the written part K: the library's own take a ledger (News) for what they write -/
section
variable {prog : Program} {w : World} {A : Around} {E : Value → Shared → Prop} {s : Shared} {K : Frag}

/-! the whole heap as the ledger: makes every rule that writes through a ledger a rule over any heap -/
def ledger (h : Heap) (L d : Addr) : List (Addr × Obj) := (List.range h.objs.size).filterMap fun a => if a = L ∨ a = d then none else (h.get? a).map fun o => (a, o)
end
end Att

namespace L2
open PySem PySem.Spec PyProof.Rows

theorem vals_ints : ∀ {vs : List Value} {ns : List Int}, IntsAre vs ns → Vals (ns.map V.int) vs
  | _, _, .nil => .nil
  | _, _, .cons n t h => .cons ⟨t, rfl⟩ (vals_ints h)

/-- nothing is tracked but the script, known to the object (or it is an object of the module) -/
def Only (H : Hp) : Prop := ∀ b, H b = none ∨ ∃ o xs, H b = some (.frz o (.lst xs))

/-- THE HEAD: the law's promise, at the heap behind the top. F, the promise of the law's def, may use that base is part of the heap (so K.In base, base.Ns mainGlobals mg stand in Mod) -/
theorem law_call {P : Program} {w : World} {K : PySem.W.Frag} {mg mb : Str → Option Value} {CX : CXT} {k : Nat} {fa a : Addr} {fd : FuncData} {x : Str} {sp : Sp} {s₁ : Shared} {vs : List Value} {ns : List Int}
    (KX : K.In s₁.heap) (hns : s₁.heap.Ns mainGlobals mg) (hb : s₁.heap.Ns builtinsNs mb) (hbb : ∀ x : Str, x ≠ "__name__" → mb x = bootBuiltins x) (hlim : s₁.heap.NoLimit) (hg : s₁.gens = #[])
    (ha : s₁.heap.get? a = some { cls := .type "list", data := .seq vs.toArray }) (hi : IntsAre vs ns) (hl : ns.length ≤ sizeLine) (hr : Room k callerA)
    (F : ∀ base : Heap, K.In base → base.Ns mainGlobals mg → FnOk P w K mg base CX k fa fd [x] sp) (hbind : ∀ (s : Shared) (u : Value), BindsTo s fd ⟨[u], []⟩ [(x, u)])
    (hsp : ∀ H : Hp, Only H → SqL K H a (ns.map V.int) → sp [.ref a] H (fun v _ => v = .bl true) fun _ _ _ => False)
    (hCX : ∀ H e s', CX [] H s₁ (fun _ _ _ => False) e s' → False) :
    codeAny (model P w) callerA (.call (.ref fa) ⟨[.ref a], []⟩) (fun r s' => r = .ok (.ret (.bool true)) ∧ OldK s₁.heap s'.heap ∧ s'.os = s₁.os ∧ AllBare s'.gens) s₁ := by
  have rv := vals_ints hi
  have lenV := hi.length
  -- from an abstract heap in which nothing but the script may be tracked
  have core : ∀ H : Hp, Only H → SqL K H a (ns.map V.int) → HOk P w H s₁.heap → (∀ b, H b ≠ none → b = a) → (H a ≠ none → K.lookup a = none) →
      codeAny (model P w) callerA (.call (.ref fa) ⟨[.ref a], []⟩) (fun r s' => r = .ok (.ret (.bool true)) ∧ OldK s₁.heap s'.heap ∧ s'.os = s₁.os ∧ AllBare s'.gens) s₁ := by
    intro H hO hS hok hA hK
    have base_of : ∀ {b : Addr} {o : Obj}, s₁.heap.get? b = some o → H b = none → (hidT s₁.heap H).get? b = some o := fun e n => hidT_get e n
    have noA : ∀ {b : Addr} {o : Obj} {es : Array DictEntry} {ep : Nat}, s₁.heap.get? b = some o → o.data = .dict es ep → H b = none := fun {b o es ep} e d => by
      cases q : H b with
      | none => rfl
      | some u =>
        have e' : b = a := hA b (by rw [q]; simp)
        subst e'
        rw [ha] at e; cases e
        have d' : Data.seq vs.toArray _ = Data.dict es ep := d
        cases d'
    have nsK : ∀ {b : Addr} {m : Str → Option Value}, s₁.heap.Ns b m → (hidT s₁.heap H).Ns b m := fun {b m} ⟨o, es, ep, e, d, r⟩ => ⟨o, es, ep, base_of e (noA e d), d, r⟩
    have hKb : K.In (hidT s₁.heap H) := fun b o e => base_of (KX b o e) (by
      cases q : H b with
      | none => rfl
      | some u =>
        have e' : b = a := hA b (by rw [q]; simp)
        subst e'
        rw [hK (by rw [q]; simp)] at e; cases e)
    have hM : Mod K mg (hidT s₁.heap H) := ⟨hKb, nsK hns, ⟨mb, nsK hb, hbb⟩, let ⟨mc, h1, h2⟩ := hlim; ⟨mc, nsK h1, h2⟩⟩
    have e0 : Env0 P w K mg (hidT s₁.heap H) callerA [] s₁ H := ⟨rfl, hM, fun b o e => of_hidT e, Nat.le_of_eq (hidT_size _ _), trivial, fun b hb => absurd (show b ∈ ([] : List Addr) from hb) (by simp), hok, .of_eq hg⟩
    refine codeAny_mono ((F _ hKb (nsK hns)).run callerA [] s₁ H ⟨[.ref a], []⟩ [.ref a] [.ref a] _ _ hr e0 (hbind s₁ (.ref a)) (.cons rfl .nil) (hsp H hO hS)) fun r s' h => ?_
    cases r with
    | error e => exact (hCX H e s' h).elim
    | ok fl =>
      cases fl with
      | next => exact False.elim h
      | brk => exact False.elim h
      | cont => exact False.elim h
      | ret u =>
        obtain ⟨v, H', os, bare, un, hok', r', q⟩ := h
        have q' : v = .bl true := q
        subst q'
        obtain rfl : u = Value.bool true := r'
        refine ⟨rfl, OldK.of_keep fun b o e => ?_, os, bare⟩
        cases q : H b with
        | none => exact un.keep b o e q (by intro z; exact absurd (show b ∈ ([] : List Addr) from z) (by simp)) (by simp)
        | some u =>
          rcases hO b with z | ⟨ob, xs, z⟩
          · rw [q] at z; cases z
          · have z2 := un.frzs b ob _ z
            obtain ⟨e1, _⟩ := hok b _ z
            obtain ⟨e2, _⟩ := hok' b _ z2
            rw [e] at e1; cases e1
            exact e2
  cases hk : K.lookup a with
  | some o =>
    -- the script is one of the module's own objects
    have e := KX a o hk
    rw [ha] at e
    cases e
    refine core (fun _ => none) (fun _ => .inl rfl) (.inr ⟨_, vs.toArray, _, hk, rfl, rfl, rfl, by rw [List.size_toArray, lenV]; exact hl, by simpa using rv⟩) (fun b u z => by have z' : (none : Option HO) = some u := z; cases z') (fun b z => absurd rfl z) fun z => absurd rfl z
  | none =>
    refine core (fun b => if b = a then some (.frz { cls := .type "list", data := .seq vs.toArray } (.lst (ns.map V.int))) else none) (fun b => ?_) (.inl (.inr ⟨{ cls := .type "list", data := .seq vs.toArray }, if_pos rfl⟩)) (fun b u z => ?_) (fun b z => ?_) fun _ => hk
    · by_cases hb : b = a
      · exact .inr ⟨_, _, if_pos hb⟩
      · exact .inl (if_neg hb)
    · by_cases hb : b = a
      · have z' := (if_pos hb).symm.trans z
        cases z'
        subst hb
        exact ⟨ha, by rw [List.length_map]; exact hl, vs, _, rv, ha⟩
      · have z' := (if_neg hb).symm.trans z
        cases z'
    · by_cases hb : b = a
      · exact hb
      · exact absurd (if_neg hb) z
end L2

namespace L2
open PySem PySem.Spec PyProof.Rows

/-- the goal that k_head leaves (case hc), from the law's promise. F gives the function object fd (K's own) once, then the promise over every base -/
theorem walk_of {l : PySem.W.OpenLaw} {n k : Nat} {q : Program} {loose : List Str} {XP : (Str → Option Value) → Heap → Prop} {YP : World → Heap → Prop} {d : DefRec} {K : Params → PySem.W.Frag} {CX : World → CXT} {sp : World → Sp} {x : Str}
    (hn : l.most = some n) (hn2 : n ≤ sizeLine) (hdf : d.params.defaults = []) (hr : Room k callerA)
    (hY : ∀ (w : World) (h : Heap), YP w h → (K w.params).In h)
    (F : ∀ (w : World) (mg : Str → Option Value) (fa : Addr) (h : Heap), (K w.params).In h → h.Ns mainGlobals mg → mg d.name = some (.ref fa) →
      ∃ fd : FuncData, (∀ (s : Shared) (u : Value), BindsTo s fd ⟨[u], []⟩ [(x, u)]) ∧
        ∀ base : Heap, (K w.params).In base → base.Ns mainGlobals mg → FnOk l.prog w (K w.params) mg base (CX w) k fa fd [x] (sp w))
    (hsp : ∀ (w : World) (H : Hp) (a : Addr) (ns : List Int), ns.length ≤ n → Only H → SqL (K w.params) H a (ns.map V.int) → sp w [.ref a] H (fun v _ => v = .bl true) fun _ _ _ => False)
    (hCX : ∀ (w : World) (H : Hp) (s : Shared) (e : Value) (s' : Shared), CX w [] H s (fun _ _ _ => False) e s' → False) :
    PySem.W.WalkO q loose XP YP l.row.toRowW d [] (fun f vs => PySem.call f vs) := by
  refine Att.attach_call hn hdf fun w s₀ s₁ mg mb fa o pm cd doc a vs ns G Y ho hd hcd hmg hobj hints hlen hg => ?_
  have KX := hY w _ Y
  obtain ⟨fd, hb, hF⟩ := F w mg fa _ KX G.T.g hmg
  exact law_call KX G.T.g G.T.b G.T.builtins G.T.nolimit hg hobj hints (Nat.le_trans hlen hn2) hr hF hb (fun H hO hS => hsp w H a ns hlen hO hS) fun H e s' => hCX w H s₁ e s'
end L2


/-! SHORT WORDS over the layer: a def of the text, its body, what a loop and a test want. -/
namespace L2
open PySem PySem.Spec PyProof.Rows

/-! ### the text by places -/
/-- the j-th statement of a class's body -/
def inClass (s : Stmt) (j : Nat) : Stmt := match s with
  | .ClassDef _ _ _ body _ _ _ _ _ _ _ => body.getD j (.Pass ⟨0, 0, 0, 0⟩)
  | _ => .Pass ⟨0, 0, 0, 0⟩
def defArgs (s : Stmt) : Arguments := match s with
  | .FunctionDef _ a _ _ _ _ _ _ _ _ => a
  | _ => { posonlyargs := [], args := [], vararg := none, kwonlyargs := [], kw_defaults := [], kwarg := none, defaults := [] }
def defBody (s : Stmt) : List Stmt := match s with
  | .FunctionDef _ _ b _ _ _ _ _ _ _ => b
  | _ => []
def defScope (s : Stmt) : Scope := match s with
  | .FunctionDef _ _ _ _ _ _ sc _ _ _ => sc
  | _ => { kind := .function, names := [], isGenerator := false, isCoroutine := false }

/-! ### no exception leaves a def -/
abbrev CX0 : CXT := fun _ _ _ _ _ _ => False
abbrev E0 : XK := fun _ _ _ => False
theorem pass0 {X : Cx} : Passes CX0 X E0 := fun _ _ _ _ _ _ _ h => h.elim

/-! ### a def (or method) of the text as it stands behind the top -/
structure Fun (K : PySem.W.Frag) (x qual : Str) (st : Stmt) (f : Addr) (fd : FuncData) : Prop where
  ex : ∃ (oc : Value) (od : Option Addr) (kV doc pm : Value) (an : Option Addr) (cdv ct : Value) (osl : Array (Option Value)),
    fd = PySem.W.fnOf x qual (defArgs st) (defBody st) (defScope st) .none kV doc pm an cdv ct ∧ K.lookup f = some ⟨oc, od, .func fd, osl⟩ ∧ PySem.W.codeIn K cdv qual = true
  kp : PySem.W.keepIn K (.ref f) = true
section
variable {P : Program} {w : World} {K : PySem.W.Frag} {mg : Str → Option Value} {base : Heap}
/-- THE RULE for a def: its body as a term of rules, and the reading of that term -/
theorem Fun.ok {x qual : Str} {st : Stmt} {f : Addr} {fd : FuncData} {N ps : List Str} {k : Nat} {sp : Sp} (F : Fun K x qual st f fd) (S : FnScope N ps (defScope st)) (len : ∀ vs H Q E, sp vs H Q E → vs.length = ps.length)
    (hbody : ∀ (cdv : Value) (A : Around) (outer : List Env) (s : Shared) (H : Hp) (vs : List V) (Q : VK) (E : XK), Room k (A.deeper (envOfC qual (defScope st) s.heap.objs.size f cdv)) → sp vs H Q E →
      ∃ t, PSs (cxOf CX0 P w K mg base N qual (defScope st) f cdv A outer s H E).nox (defBody st) t ∧ t { nx := fun _ H' => Q .non H', rt := Q } (start N vs) H) : FnOk P w K mg base CX0 (k + 1) f fd ps sp := by
  obtain ⟨oc, od, kV, doc, pm, an, cdv, ct, osl, rfl, lk, hcd⟩ := F.ex
  refine fn_of lk hcd S len fun A outer s H vs Q E hr hsp => ?_
  obtain ⟨t, h, q⟩ := hbody cdv A outer s H vs Q E hr hsp
  exact ⟨t, h.nox, q⟩
/-- how its arguments bind (no defaults): h is «fun _ _ _ _ _ _ us hl => match us, hl with | [_, _], _ => rfl», one _ a parameter -/
theorem Fun.binds {x qual : Str} {st : Stmt} {f : Addr} {fd : FuncData} {ps : List Str} (F : Fun K x qual st f fd)
    (h : ∀ (kV doc pm : Value) (an : Option Addr) (cdv ct : Value) (us : List Value), us.length = ps.length → bindArgs (PySem.W.fnOf x qual (defArgs st) (defBody st) (defScope st) .none kV doc pm an cdv ct) ⟨us, []⟩ = pure (ps.zip us)) : Binds K fd ps [] := by
  obtain ⟨oc, od, kV, doc, pm, an, cdv, ct, osl, rfl, lk, hcd⟩ := F.ex
  exact .all (h kV doc pm an cdv ct)
theorem fun_mk {x qual : Str} {st : Stmt} {f : Addr} {oc : Value} {od an : Option Addr} {osl : Array (Option Value)} {kV doc pm cdv ct : Value} (l : K.lookup f = some ⟨oc, od, .func (PySem.W.fnOf x qual (defArgs st) (defBody st) (defScope st) .none kV doc pm an cdv ct), osl⟩)
    (c : PySem.W.codeIn K cdv qual = true) (k : PySem.W.keepIn K (.ref f) = true) : Fun K x qual st f (PySem.W.fnOf x qual (defArgs st) (defBody st) (defScope st) .none kV doc pm an cdv ct) := ⟨⟨oc, od, kV, doc, pm, an, cdv, ct, osl, rfl, l, c⟩, k⟩
end
theorem small1000 {n : Nat} (h : n ≤ 1000) : n < sizeLine := Nat.lt_of_le_of_lt h (by decide)

/-! ### expressions in short: the name that stands in the i-th slot -/
section
variable {X : Cx}
theorem pv (i : Nat) {x : Str} {pos : Pos} (hN : X.N[i]? = some x := by rfl) (hv : Vis X.env.scope x := by first | exact Or.inl rfl | exact Or.inr (Or.inl rfl) | exact Or.inr (Or.inr rfl)) (hd : (x == ("__debug__" : Str)) = false := by decide)
    (hcd : (x == ("__classdict__" : Str)) = false := by decide) : PE X (.Name x pos) (tVar i) := pe_var hN hv hd hcd
end

/-! ### tests -/
theorem iteF {A B : Prop} (h : B) : if false = true then A else B := by
  rw [if_neg Bool.false_ne_true]
  exact h
theorem iteT {A B : Prop} (h : A) : if true = true then A else B := by
  rw [if_pos rfl]
  exact h
theorem ite2 {c A B : Prop} [Decidable c] (h1 : c → A) (h2 : ¬ c → B) : if c then A else B := by
  by_cases h : c
  · rw [if_pos h]
    exact h1 h
  · rw [if_neg h]
    exact h2 h
/-! ### heaps -/
/-- all that was tracked is as it was -/
def Same (H H' : Hp) : Prop := ∀ b o, H b = some o → H' b = some o
theorem Same.refl (H : Hp) : Same H H := fun _ _ h => h
theorem Same.trans {H H1 H2 : Hp} (a : Same H H1) (b : Same H1 H2) : Same H H2 := fun c o h => b c o (a c o h)
theorem Same.free {H H' : Hp} (e : Same H H') {l : Addr} (h : H' l = Option.none) : H l = Option.none := by
  cases q : H l with
  | none => rfl
  | some o =>
    rw [e l o q] at h
    cases h
theorem Same.seq {K : PySem.W.Frag} {H H' : Hp} {a : Addr} {xs : List V} (e : Same H H') (h : SqL K H a xs) : SqL K H' a xs := by
  rcases h with (h | ⟨o, h⟩) | h
  · exact .inl (.inl (e _ _ h))
  · exact .inl (.inr ⟨o, e _ _ h⟩)
  · exact .inr h

end L2

set_option Elab.async false
set_option linter.all false
set_option maxRecDepth 100000
/-! Comprehensions over the hand layer. -/
namespace L2
open PySem PySem.Spec PyProof.Rows

/-- one clause, walked to its end by a measure; nothing raises -/
theorem comp_walk {P : Program} {w : World} {A : Around} {R : Result → Shared → Prop} {s : Shared} {elt tg iter : Expr} {ifs : List Expr} {sc : Scope} {pos : Pos} {it acc : Value} {env : Env} (J : Nat → Shared → Prop)
    (turn : ∀ n s, J n s → wpAny (model P w) A (pyNext it) (fun r s1 => match r with
      | none => R (.ok .next) s1
      | some v => wpAny (model P w) A (letOwnedTupleGo tg it v) (fun _ s2 => wpAny (model P w) A (assign tg env v) (fun _ s3 =>
          wpAny (model P w) A (forIn ifs true fun c r => if r = true then do let ok ← isTrue c env (eval c env); pure (ForInStep.yield ok) else pure (ForInStep.yield r)) (fun ok s4 =>
            if ok = true then wpAny (model P w) A (eval elt env) (fun x s5 => wpAny (model P w) A (call (.builtin "list.append") [acc, x]) (fun _ s6 => ∃ m, m < n ∧ J m s6) (fun _ _ => False) s5) (fun _ _ => False) s4
            else ∃ m, m < n ∧ J m s4) (fun _ _ => False) s3) (fun _ _ => False) s2) (fun _ _ => False) s1) (fun _ _ => False) s)
    (n : Nat) (h : J n s) : codeAny (model P w) A (.compLoop (.ListComp elt [⟨tg, iter, ifs, 0⟩] sc pos) 0 it acc env) R s := by
  have no : ∀ {E : Value → Shared → Prop} (e : Value) (z : Shared), (fun _ _ => False : Value → Shared → Prop) e z → E e z := fun _ _ f => False.elim f
  refine codeAny_loop rfl J (fun n s hJ => ?_) n h
  show wpAny _ A ((compTurn (.ListComp elt [⟨tg, iter, ifs, 0⟩] sc pos) 0 it acc env).onRaise (fun x => do noteFrame x env; theTreesLotGoes x)) _ _ s
  refine wpAny_noted ?_
  rw [compTurn_list]
  refine wpAny_bind (wpAny_standAt (wpAny_bind (wpAny_mono (turn n s hJ) (fun r s1 h1 => ?_) no)))
  cases r with
  | none => exact wpAny_pure h1
  | some v =>
    refine wpAny_bind (wpAny_mono h1 (fun _ s2 h2 => ?_) no)
    refine wpAny_bind (wpAny_mono h2 (fun _ s3 h3 => ?_) no)
    refine wpAny_bind (wpAny_mono h3 (fun ok s4 h4 => ?_) no)
    cases ok with
    | false => exact wpAny_pure ⟨rfl, h4⟩
    | true =>
      refine wpAny_bind (wpAny_bind (wpAny_mono h4 (fun x s5 h5 => ?_) no))
      exact wpAny_bind (wpAny_mono h5 (fun _ s6 h6 => wpAny_pure (wpAny_pure ⟨rfl, h6⟩)) no)

theorem look_free {env : Env} : ∀ {names : List (Str × NameKind)} {x : Str}, names.lookup x = some .free → env.scope.kind = .function → env.kindOf x = some .cell →
    (names.map fun (n, k) => if (k == NameKind.free && env.scope.kind == .function && env.kindOf n == some .cell) then (n, NameKind.cell) else (n, k)).lookup x = some .cell
  | [], _, h, _, _ => by simp at h
  | (n, k) :: r, x, h, hf, hc => by
    have ih := @look_free env r x
    show List.lookup x ((if (k == NameKind.free && env.scope.kind == .function && env.kindOf n == some .cell) = true then (n, NameKind.cell) else (n, k)) :: _) = _
    cases hx : x == n with
    | true =>
      simp only [List.lookup_cons, hx] at h
      cases h
      have e : x = n := by simpa using hx
      subst e
      simp [List.lookup_cons, hf, hc]
    | false =>
      simp only [List.lookup_cons, hx] at h
      split
      · simp only [List.lookup_cons, hx]; exact ih h hf hc
      · simp only [List.lookup_cons, hx]; exact ih h hf hc

/-- what a block closes over -/
theorem closure_of {env : Env} : ∀ (names : List (Str × NameKind)) (acc : List (Str × Addr)), (∀ y ∈ names, y.2 = .free → ∃ c, env.cells.lookup y.1 = some c) → (∀ n c, acc.lookup n = some c → env.cells.lookup n = some c) →
    ∃ cl : List (Str × Addr), (forIn names acc fun (p : Str × NameKind) r => if (p.2 == NameKind.free) = true then do let c ← cellOf env p.1; pure (ForInStep.yield ((p.1, c) :: r)) else pure (ForInStep.yield r) : Sem (List (Str × Addr))) = pure cl ∧
      (∀ n c, cl.lookup n = some c → env.cells.lookup n = some c) ∧ (∀ n c, acc.lookup n = some c → ∃ c', cl.lookup n = some c') ∧ ∀ y ∈ names, y.2 = .free → ∃ c, cl.lookup y.1 = some c
  | [], acc, _, ha => ⟨acc, rfl, ha, fun n c h => ⟨c, h⟩, fun _ h => nomatch h⟩
  | (n, k) :: r, acc, hn, ha => by
    have hr : ∀ y ∈ r, y.2 = NameKind.free → ∃ c, env.cells.lookup y.1 = some c := fun y hy => hn y (List.mem_cons_of_mem _ hy)
    by_cases hk : k = .free
    · subst hk
      obtain ⟨c, hc⟩ := hn (n, .free) List.mem_cons_self rfl
      have hc : env.cells.lookup n = some c := hc
      obtain ⟨cl, e, h1, h2, h3⟩ := closure_of r ((n, c) :: acc) hr fun m d hm => by
        rw [List.lookup_cons] at hm
        cases q : m == n with
        | true =>
          rw [q] at hm
          have z : m = n := by simpa using q
          cases hm
          rw [z]; exact hc
        | false =>
          rw [q] at hm
          exact ha m d hm
      have there : ∀ m d, acc.lookup m = some d → ∃ c', cl.lookup m = some c' := fun m d hm => by
        cases q : m == n with
        | true =>
          have z : m = n := by simpa using q
          subst z
          exact h2 m c (by simp [List.lookup_cons])
        | false => exact h2 m d (by rw [List.lookup_cons, q]; exact hm)
      refine ⟨cl, ?_, h1, there, fun y hy hf => ?_⟩
      · rw [List.forIn_cons]
        have ec : cellOf env n = pure c := by unfold cellOf; rw [hc]
        simp only [beq_self_eq_true, if_true, ec]
        exact e
      · rcases List.mem_cons.mp hy with z | z
        · subst z
          exact h2 n c (by simp [List.lookup_cons])
        · exact h3 y z hf
    · obtain ⟨cl, e, h1, h2, h3⟩ := closure_of r acc hr ha
      refine ⟨cl, ?_, h1, h2, fun y hy hf => ?_⟩
      · rw [List.forIn_cons]
        have q : (k == NameKind.free) = false := by cases k <;> first | rfl | exact absurd rfl hk
        simp only [q, Bool.false_eq_true, if_false]
        exact e
      · rcases List.mem_cons.mp hy with z | z
        · subst z
          exact absurd hf hk
        · exact h3 y z hf
theorem closure_ok {env : Env} {sc : Scope} (h : ∀ y ∈ sc.names, y.2 = .free → ∃ c, env.cells.lookup y.1 = some c) :
    ∃ cl : List (Str × Addr), closureFor sc env = pure cl ∧ (∀ n c, cl.lookup n = some c → env.cells.lookup n = some c) ∧ ∀ y ∈ sc.names, y.2 = .free → ∃ c, cl.lookup y.1 = some c := by
  obtain ⟨cl, e, h1, _, h3⟩ := closure_of (env := env) sc.names [] h (fun _ _ z => nomatch z)
  refine ⟨cl, ?_, h1, h3⟩
  unfold closureFor
  show ((forIn sc.names [] fun (p : Str × NameKind) r => if (p.2 == NameKind.free) = true then do let c ← cellOf env p.1; pure (ForInStep.yield ((p.1, c) :: r)) else pure (ForInStep.yield r)) >>= pure) = _
  rw [e]
  rfl
end L2

set_option Elab.async false
set_option linter.all false
set_option maxRecDepth 100000
namespace L2
open PySem PySem.Spec PyProof.Rows

/-- the context of a comprehension's block: s, H at its entry, ex the walked iterator's records -/
def cxComp (X : Cx) (N : List Str) (sc : Scope) (cl : List (Str × Addr)) (s : Shared) (H : Hp) (ex : List Addr) : Cx :=
  { X with N := N, s₀ := s, H₀ := H, env := compEnvC sc cl s.heap.objs.size X.env, outer := X.stack, stack := X.stack, ex := ex, fn := fun _ => false, pn := [], xe := fun _ _ => False }

/-- the block's names: k of its own, then names of the body around it, by their places -/
def frOk (NX N : List Str) (sx sc : Scope) (k : Nat) (js : List Nat) : Bool :=
  (N.length == k + js.length) && (List.range js.length).all fun i => match js[i]? with
    | none => true
    | some j => match NX[j]? with
      | none => false
      | some y => (N[k + i]? == some y) && (sx.names.lookup y == some .cell) && (sc.names.lookup y == some .free)
/-- their values at the entry -/
def cst (σ : St) (k : Nat) (js : List Nat) : St := List.replicate k none ++ js.map fun j => (σ[j]?).join

theorem frOk_at {NX N : List Str} {sx sc : Scope} {k : Nat} {js : List Nat} (h : frOk NX N sx sc k js = true) : N.length = k + js.length ∧
    ∀ i j, js[i]? = some j → ∃ y, NX[j]? = some y ∧ N[k + i]? = some y ∧ sx.names.lookup y = some .cell ∧ sc.names.lookup y = some .free := by
  unfold frOk at h
  rw [Bool.and_eq_true] at h
  obtain ⟨h1, h2⟩ := h
  refine ⟨by simpa using h1, fun i j e => ?_⟩
  have hi : i < js.length := (List.getElem?_eq_some_iff.mp e).1
  have q := List.all_eq_true.mp h2 i (List.mem_range.mpr hi)
  rw [e] at q
  dsimp only at q
  cases ny : NX[j]? with
  | none => rw [ny] at q; cases q
  | some y =>
    rw [ny] at q
    simp only [Bool.and_eq_true] at q
    obtain ⟨⟨q1, q2⟩, q3⟩ := q
    exact ⟨y, rfl, by simpa using q1, by simpa using q2, by simpa using q3⟩

section
variable {X : Cx} {pins : List (Addr × Obj)} {σ : St} {H : Hp} {s : Shared}

theorem Inv.compOk {N : List Str} {sc : Scope} {cl : List (Str × Addr)} {fp : List Addr} (I : Inv X pins σ H s) (hf : ∀ b ∈ fp, FpOk X pins H b) (hin : ∀ b ∈ fp, ∃ o, s.heap.get? b = some o)
    (hk : sc.kind = .function) (hsub : ∀ n c, cl.lookup n = some c → X.env.cells.lookup n = some c) (hall : ∀ y ∈ sc.names, y.2 = .free → ∃ c, cl.lookup y.1 = some c) (hcell : ∀ y ∈ sc.names, y.2 ≠ .cell) :
    (cxComp X N sc cl s H fp).Ok where
  mod := I.ok.mod
  kind := hk
  glob := I.ok.glob
  blt := I.ok.blt
  above := Nat.le_refl _
  inj := fun x y c h1 h2 => I.ok.inj x y c (hsub x c h1) (hsub y c h2)
  has := fun x hx => by
    have mem : ∀ {names : List (Str × NameKind)}, (∀ y ∈ names, y.2 ≠ NameKind.cell) → (∀ y ∈ names, y.2 = .free → ∃ c, cl.lookup y.1 = some c) →
        ((names.map fun (n, k) => if (k == NameKind.free && X.env.scope.kind == .function && X.env.kindOf n == some .cell) then (n, NameKind.cell) else (n, k)).lookup x = some .cell ∨
         (names.map fun (n, k) => if (k == NameKind.free && X.env.scope.kind == .function && X.env.kindOf n == some .cell) then (n, NameKind.cell) else (n, k)).lookup x = some .free) → ∃ c, cl.lookup x = some c := by
      intro names
      induction names with
      | nil => intro _ _ h; rcases h with h | h <;> simp at h
      | cons p r ih =>
        obtain ⟨n, k⟩ := p
        intro h1 h2 h3
        have t1 : ∀ y ∈ r, y.2 ≠ NameKind.cell := fun y hy => h1 y (List.mem_cons_of_mem _ hy)
        have t2 : ∀ y ∈ r, y.2 = NameKind.free → ∃ c, cl.lookup y.1 = some c := fun y hy => h2 y (List.mem_cons_of_mem _ hy)
        by_cases hx : x = n
        · subst hx
          by_cases hf : k = .free
          · exact h2 (x, k) List.mem_cons_self hf
          · exfalso
            have hc : k ≠ .cell := h1 (x, k) List.mem_cons_self
            have q : (k == NameKind.free) = false := by cases k <;> first | rfl | exact absurd rfl hf
            simp only [List.map_cons, q, Bool.false_and, Bool.false_eq_true, if_false, List.lookup_cons, beq_self_eq_true] at h3
            rcases h3 with h3 | h3
            · exact hc (Option.some.inj h3)
            · exact hf (Option.some.inj h3)
        · have q : (x == n) = false := by simpa using hx
          refine ih t1 t2 ?_
          rw [List.map_cons] at h3
          by_cases hb : (k == NameKind.free && X.env.scope.kind == .function && X.env.kindOf n == some .cell) = true
          · simpa only [hb, if_true, List.lookup_cons, q] using h3
          · simpa only [hb, if_false, Bool.false_eq_true, List.lookup_cons, q] using h3
    exact mem hcell hall hx
  cab := fun x c h _ => nomatch h
  hd := I.ok.hd
  frames := I.ok.frames
  stk := .inl rfl
  exf := fun b hb => by
    obtain ⟨o, e⟩ := hin b hb
    exact ⟨Nat.ne_of_lt (Heap.lt_size e), fun x c h z => (hf b hb).2.2.2.2.1 x c (hsub x c h) z⟩
  bs := I.bs
  bsz := Nat.le_trans I.ok.bsz I.sz
  noex := fun b o e hb => by
    rcases (hf b hb).2.2.2.1 with z | z
    · exact I.ok.noex b o e z
    · exact absurd (Nat.lt_of_lt_of_le (Heap.lt_size e) (Nat.le_trans I.ok.bsz z)) (Nat.lt_irrefl _)
  exfs := fun b hb z => by
    rcases List.mem_cons.mp (I.stkSub b z) with e | e
    · exact (hf b hb).2.1 e
    · exact (hf b hb).2.2.1 e
  funs := I.stack
  frf := I.stkFree

theorem cst_len {k : Nat} {js : List Nat} : (cst σ k js).length = k + js.length := by unfold cst; simp
theorem cst_lo {k i : Nat} {js : List Nat} {v : V} (h : (cst σ k js)[i]? = some (some v)) : k ≤ i := by
  unfold cst at h
  by_cases hi : i < k
  · rw [List.getElem?_append_left (by simpa using hi), List.getElem?_replicate, if_pos hi] at h
    cases h
  · omega
theorem cst_hi {k i : Nat} {js : List Nat} {v : V} (h : (cst σ k js)[k + i]? = some (some v)) : ∃ j, js[i]? = some j ∧ σ[j]? = some (some v) := by
  unfold cst at h
  rw [List.getElem?_append_right (by simp), List.length_replicate, Nat.add_sub_cancel_left, List.getElem?_map] at h
  cases q : js[i]? with
  | none => rw [q] at h; cases h
  | some j =>
    rw [q] at h
    refine ⟨j, rfl, ?_⟩
    have h : (σ[j]?).join = some v := Option.some.inj h
    cases z : σ[j]? with
    | none => rw [z] at h; cases h
    | some o => rw [z] at h; exact congrArg some h

/-- at the block's entry -/
theorem Inv.compStart {N : List Str} {sc sx : Scope} {cl : List (Str × Addr)} {fp : List Addr} {k : Nat} {js : List Nat} {NX : List Str} {h1 : Heap} (I : Inv X pins σ H s) (hf : ∀ b ∈ fp, FpOk X pins H b) (hin : ∀ b ∈ fp, ∃ o, s.heap.get? b = some o)
    (hk : sc.kind = .function) (hsub : ∀ n c, cl.lookup n = some c → X.env.cells.lookup n = some c) (hall : ∀ y ∈ sc.names, y.2 = .free → ∃ c, cl.lookup y.1 = some c) (hcell : ∀ y ∈ sc.names, y.2 ≠ .cell)
    (hNX : X.N = NX) (hsx : X.env.scope = sx) (hfr : frOk NX N sx sc k js = true) {m : Str → Option Value} (hns : h1.Ns s.heap.objs.size m) (keep : ∀ b o, s.heap.get? b = some o → h1.get? b = some o) {tk : Nat} :
    Inv (cxComp X N sc cl s H fp) [] (cst σ k js) H { s with heap := h1, toks := tk } := by
  obtain ⟨hlen, hat⟩ := frOk_at hfr
  refine ⟨I.compOk hf hin hk hsub hall hcell, rfl, I.bare, Un.kept keep, ⟨m, hns, fun i x v e1 e2 _ => ?_⟩, fun x c h => ?_, I.hok.fresh (Nat.le_refl _), fun x c h => I.freeC x c (hsub x c h), fun p hp => absurd (show p ∈ ([] : List (Addr × Obj)) from hp) (by simp), I.hok.kept keep, ?_⟩
  · have hi := cst_lo e2
    obtain ⟨d, rfl⟩ : ∃ d, i = k + d := ⟨i - k, by omega⟩
    obtain ⟨j, ej, ev⟩ := cst_hi e2
    obtain ⟨y, ny, nn, sxl, scl⟩ := hat d j ej
    have exy : x = y := Option.some.inj ((show N[k + d]? = some x from e1).symm.trans nn)
    subst exy
    obtain ⟨m', hn', hl'⟩ := I.loc
    obtain ⟨u, r, l⟩ := hl' j x v (by rw [hNX]; exact ny) ev (.inr (.inl (by rw [hsx]; exact sxl)))
    refine ⟨u, r, ?_⟩
    have kx : X.env.kindOf x = some .cell := by show X.env.scope.names.lookup x = _; rw [hsx]; exact sxl
    rcases l with ⟨z, _⟩ | ⟨_, c, hc, ic⟩
    · rw [kx] at z; cases z
    · obtain ⟨c', hc'⟩ := hall (x, .free) (PySem.mem_of_lookup scl) rfl
      have ecc : c' = c := Option.some.inj ((hsub x c' hc').symm.trans hc)
      subst ecc
      refine .inr ⟨.inl ?_, c', hc', ?_⟩
      · exact look_free scl I.ok.kind kx
      · obtain ⟨o, ho, hd⟩ := ic
        exact ⟨o, keep c' o ho, hd⟩
  · obtain ⟨v, o, ho, hd⟩ := I.cell x c (hsub x c h)
    exact ⟨v, o, keep c o ho, hd⟩
  · show (cst σ k js).length = N.length
    rw [cst_len, hlen]

/-- forgetting the block's own names -/
theorem Inv.compWeak {X' : Cx} {pl : List (Addr × Obj)} {σ' : St} {H' : Hp} {s' : Shared} {k : Nat} {js : List Nat} (I : Inv X' pl σ' H' s') (hl : σ'.length = k + js.length) (hd : ∀ i, k ≤ i → σ'[i]? = (cst σ k js)[i]?) : Inv X' pl (cst σ k js) H' s' :=
  I.weak (by rw [cst_len, hl]) fun i v e => by rw [hd i (cst_lo e)]; exact e

/-- behind the block: its frame C may change -/
theorem Inv.compBack {N : List Str} {sc : Scope} {cl : List (Str × Addr)} {fp : List Addr} {σ' : St} {H' : Hp} {s' : Shared} {h' : Heap} (I : Inv X pins σ H s) (hf : ∀ b ∈ fp, FpOk X pins H b)
    (J : Inv (cxComp X N sc cl s H fp) [] σ' H' s') (hs : ∀ b o, b ≠ s.heap.objs.size → s'.heap.get? b = some o → h'.get? b = some o) : Inv X pins σ H' { s' with heap := h' } := by
  have ne : ∀ b o, s.heap.get? b = some o → b ≠ s.heap.objs.size := fun b o e => Nat.ne_of_lt (Heap.lt_size e)
  have nC : H' s.heap.objs.size = none := J.free
  refine I.call' (s' := { s' with heap := h' }) (ch := fp) J.os ⟨fun b o e n hb hx => ?_, fun b o e n hb hx => ?_, fun b o e n hx => J.base.free b o e n hx, fun b o e hx => ?_, J.base.tups, J.base.frzs, J.base.tbls⟩ (fun b u q => ?_) J.bare (fun b hb => ?_)
  · exact hs b o (ne b o e) (J.base.keep b o e n hb hx)
  · obtain ⟨sl, z⟩ := J.base.slot b o e n hb hx
    exact ⟨sl, hs b _ (ne b o e) z⟩
  · obtain ⟨o', z⟩ := J.base.there b o e hx
    exact ⟨o', hs b o' (ne b o e) z⟩
  · refine (J.hok b u q).stay (fun c v hc z => hs c v ?_ z) (fun _ z => z) fun _ _ z => z
    rintro rfl
    rcases hc with z | z
    · rw [← z, nC] at q; cases q
    · rw [nC] at z; cases z
  · obtain ⟨f0, f1, f2, f3, f4, f5⟩ := hf b hb
    exact ⟨f3, f1, f4, f5⟩
end
end L2

set_option Elab.async false
set_option linter.all false
set_option maxRecDepth 100000
namespace L2
open PySem PySem.Spec PyProof.Rows

/-- the tests of a clause -/
def PTs (X : Cx) (ifs : List Expr) (t : TT) : Prop :=
  ∀ (pins : List (Addr × Obj)) (s : Shared) (σ : St) (H : Hp) (Q : Bool → Hp → Prop), Inv X pins σ H s → t σ H Q →
    wpAny (model X.prog X.w) X.A (forIn ifs true fun c r => if r = true then do let ok ← isTrue c X.env (eval c X.env); pure (ForInStep.yield ok) else pure (ForInStep.yield r)) (TP X pins σ Q) X.xe s
def tTT : TT := fun _ H Q => Q true H
theorem pts_nil {X : Cx} : PTs X [] tTT := fun _ _ _ H _ I h => wpAny_tests_nil ⟨H, I, h⟩
theorem pts_one {X : Cx} {c : Expr} {t : TT} (h : PT X c t) : PTs X [c] t := fun pins s σ H Q I q => wpAny_tests_one (h pins s σ H Q I q)

/-- what a comprehension's block does: J its source, D its list, σ0 its names at each turn's start -/
def CompBody (J : It) (g : TG) (tt : TT) (te : TE) (k : Nat) (σ0 : St) (D : Addr) (H1 : Hp) (Q : Hp → Prop) : Prop :=
  ∃ W : Nat → Nat → List V → Hp → Prop, (∃ m, W 0 m [] (upd H1 D (.lst []))) ∧ ∀ i m ys H, W i m ys H →
    (J.stop i H ∧ Q H) ∨ (J.go i H ∧ ∃ N : List V → Hp → Prop, (∀ ys' H', N ys' H' → ∃ m', m' < m ∧ W (i + 1) m' ys' H') ∧ ∀ x H2, J.yld i H x H2 → g x σ0 H2 fun σ3 H3 => (σ3.length = σ0.length ∧ ∀ j, k ≤ j → σ3[j]? = σ0[j]?) ∧ tt σ3 H3 fun b H4 =>
      if b = true then te σ3 H4 fun y H5 => H5 D = some (.lst ys) ∧ ys.length < sizeLine ∧ N (ys ++ [y]) (upd H5 D (.lst (ys ++ [y]))) else N ys H4)
def tComp (wi : TI) (g : TG) (tt : TT) (te : TE) (k : Nat) (js : List Nat) : TE := fun σ H Q => wi σ H fun J H1 => ∀ D, H1 D = none → CompBody J g tt te k (cst σ k js) D H1 fun H2 => Q (.ref D) H2

section
variable {X : Cx} {elt iter tg : Expr} {ifs : List Expr} {sc sx : Scope} {N NX : List Str} {k : Nat} {js : List Nat} {wi : TI} {g : TG} {tt : TT} {te : TE} {pos : Pos}

/-- the block: from the iterator on -/
theorem comp_block {pins : List (Addr × Obj)} {σ : St} {cl : List (Str × Addr)} {Q : Addr → Hp → Prop} {RR : Value → Addr → Result → Shared → Prop} {s2 : Shared} {it : Addr} {fp : List Addr} {tn : Nat → Heap → Prop} {J : It} {H2 : Hp}
    (hc : X.calm = true) (hk : sc.kind = .function) (hcell : ∀ y ∈ sc.names, y.2 ≠ .cell) (hNX : X.N = NX) (hsx : X.env.scope = sx) (hfr : frOk NX N sx sc k js = true)
    (hsub : ∀ n c, cl.lookup n = some c → X.env.cells.lookup n = some c) (hall : ∀ y ∈ sc.names, y.2 = .free → ∃ c, cl.lookup y.1 = some c)
    (hg : ∀ s H ex, PG (cxComp X N sc cl s H ex) tg g) (ht : ∀ s H ex, PTs (cxComp X N sc cl s H ex) ifs tt) (he : ∀ s H ex, PE (cxComp X N sc cl s H ex) elt te)
    (I2 : Inv X pins σ H2 s2) (T : Turn X.prog X.w X.K tg J fp it tn) (st2 : tn 0 s2.heap) (f2 : ∀ b ∈ fp, FpOk X pins H2 b)
    (hq : ∀ D, H2 D = none → CompBody J g tt te k (cst σ k js) D H2 (Q D))
    (hR : ∀ (D : Addr) (s3 s4 : Shared) (H3 H4 : Hp) (σ4 : St), s3.heap.get? s3.heap.objs.size = none → Inv X pins σ H3 s3 → (∀ b ∈ fp, FpOk X pins H3 b) → Inv (cxComp X N sc cl s3 H3 fp) [] σ4 H4 s4 → Q D H4 → RR (.ref D) s3.heap.objs.size (.ok .next) s4) :
    wpAny (model X.prog X.w) X.A (newList []) (fun acc s3 => wpAny (model X.prog X.w) X.A (newFunctionEnv sc X.env.globals cl [] X.env.qual none .none (some X.env)) (fun cenv s4 =>
      codeAny (model X.prog X.w) X.A (.compStart (.ListComp elt [⟨tg, iter, ifs, 0⟩] sc pos) 0 (.ref it) acc { cenv with scope := relabel sc X.env }) (RR acc cenv.locals) s4) X.xe s3) X.xe s2 := by
  have hD : H2 s2.heap.objs.size = none := I2.hok.fresh (Nat.le_refl _)
  refine wpAny_newObj_type ?_
  have I3 : Inv X pins σ (upd H2 s2.heap.objs.size (.lst [])) { s2 with heap := s2.heap.push { cls := .type "list", dict := none, data := .seq ([] : List Value).toArray } } := I2.laid (t' := s2.toks) (fun b u e => Heap.get?_push_of_some _ e) (Nat.le_refl _) ⟨Nat.zero_le _, [], 0, .nil, Heap.get?_push_size _ rfl⟩
  have f3 : ∀ b ∈ fp, FpOk X pins (upd H2 s2.heap.objs.size (.lst [])) b := fun b hb => by
    obtain ⟨o, e, _⟩ := T.obj _ _ st2 b hb
    obtain ⟨f0, fr⟩ := f2 b hb
    exact ⟨by rw [upd_ne (Nat.ne_of_lt (Heap.lt_size e))]; exact f0, fr⟩
  have st3 : tn 0 (s2.heap.push { cls := .type "list", dict := none, data := .seq ([] : List Value).toArray }) := T.keep _ _ _ st2 fun b _ o e => Heap.get?_push_of_some _ e
  have q3 := hq s2.heap.objs.size hD
  generalize s2.heap.objs.size = D at I3 f3 q3 ⊢
  generalize e3 : ({ s2 with heap := s2.heap.push { cls := .type "list", dict := none, data := .seq ([] : List Value).toArray } } : Shared) = s3 at I3 ⊢
  have st3 : tn 0 s3.heap := by rw [← e3]; exact st3
  have in3 : ∀ b ∈ fp, ∃ o, s3.heap.get? b = some o := fun b hb => by
    obtain ⟨o, e, _⟩ := T.obj _ _ st3 b hb
    exact ⟨o, e⟩
  refine wpAny_newFunctionEnv hcell (by intro y hy; simp at hy) (fun h1 hns hsb => ?_) hk
  have keep : ∀ b o, s3.heap.get? b = some o → h1.get? b = some o := fun b o e => hsb.extBut b o (Nat.ne_of_lt (Heap.lt_size e)) (Heap.get?_push_of_some _ e)
  have I4 : Inv (cxComp X N sc cl s3 (upd H2 D (.lst [])) fp) [] (cst σ k js) (upd H2 D (.lst [])) { s3 with heap := h1, toks := s3.toks + ([] : List (Str × Value)).length } := I3.compStart f3 in3 hk hsub hall hcell hNX hsx hfr hns keep
  have st4 : tn 0 h1 := T.keep _ _ _ st3 fun b _ o e => keep b o e
  obtain ⟨W, ⟨m0, w0⟩, turn⟩ := q3
  have stat : ∀ {H' : Hp}, (∀ b ∈ fp, H' b = none) → ∀ b ∈ fp, FpOk (cxComp X N sc cl s3 (upd H2 D (.lst [])) fp) [] H' b := fun hn b hb => by
    obtain ⟨o, e⟩ := in3 b hb
    refine ⟨hn b hb, Nat.ne_of_lt (Heap.lt_size e), I4.ok.exfs b hb, .inl hb, fun x c h z => (f3 b hb).2.2.2.2.1 x c (hsub x c h) z, fun p hp => absurd (show p ∈ ([] : List (Addr × Obj)) from hp) (by simp)⟩
  have loop : ∀ s5 : Shared, Inv (cxComp X N sc cl s3 (upd H2 D (.lst [])) fp) [] (cst σ k js) (upd H2 D (.lst [])) s5 → tn 0 s5.heap → upd H2 D (.lst []) D = some (.lst []) →
      codeAny (model X.prog X.w) X.A (.compLoop (.ListComp elt [⟨tg, iter, ifs, 0⟩] sc pos) 0 (.ref it) (.ref D) (compEnvC sc cl s3.heap.objs.size X.env)) (RR (.ref D) s3.heap.objs.size) s5 := fun s5 I5 st5 _ => by
    refine comp_walk (fun n s' => ∃ i ys H', Inv (cxComp X N sc cl s3 (upd H2 D (.lst [])) fp) [] (cst σ k js) H' s' ∧ tn i s'.heap ∧ (∀ b ∈ fp, H' b = none) ∧ W i n ys H') ?_ m0 ⟨0, [], _, I5, st5, fun b hb => (f3 b hb).1, w0⟩
    rintro n s6 ⟨i, ys, H6, I6, st6, fr6, w6⟩
    rcases turn i n ys H6 w6 with ⟨stop, qe⟩ | ⟨go, NN, hN, step⟩
    · refine thn (T.done (cxComp X N sc cl s3 (upd H2 D (.lst [])) fp) rfl rfl rfl hc i [] s6 _ H6 _ I6 (stat fr6) st6 stop) fun r s7 ⟨hr, I7⟩ => ?_
      subst hr
      exact hR D s3 s7 _ H6 _ (Heap.get?_none_of_le (Nat.le_refl _)) I3 f3 I7 qe
    · refine thn (T.item (cxComp X N sc cl s3 (upd H2 D (.lst [])) fp) rfl rfl rfl hc i [] s6 _ H6 _ I6 (stat fr6) st6 go) fun r s7 ⟨u, hr, h7⟩ => ?_
      subst hr
      refine thn h7 fun _ s8 ⟨x, H8, I8, r8, y8, st8, fr8⟩ => ?_
      have I8' := I8.pinned (stat fr8) (T.obj _ _ st8)
      refine thn (hg _ _ _ _ s8 _ H8 x u _ I8' r8 (step x H8 y8)) fun _ s9 ⟨σ9, H9, I9, ⟨l9, d9⟩, q9⟩ => ?_
      refine thn (ht _ _ _ _ s9 σ9 H9 _ I9 q9) fun ok s10 ⟨H10, I10, q10⟩ => ?_
      have back : ∀ {H' : Hp} {s' : Shared}, Inv (cxComp X N sc cl s3 (upd H2 D (.lst [])) fp) ([] ++ pinsAt fp s8.heap) σ9 H' s' → Inv (cxComp X N sc cl s3 (upd H2 D (.lst [])) fp) [] (cst σ k js) H' s' ∧ tn (i + 1) s'.heap ∧ ∀ b ∈ fp, H' b = none := fun {H' s'} Ie => by
        refine ⟨(Ie.unpinned).compWeak (by rw [l9, cst_len]) d9, T.keep _ _ _ st8 fun b hb o e => (Ie.pin (b, o) (List.mem_append_right _ (List.mem_append_right _ (mem_pinsAt hb e)))).1, fun b hb => ?_⟩
        obtain ⟨o, e, d⟩ := T.obj _ _ st8 b hb
        exact (Ie.pin (b, o) (List.mem_append_right _ (List.mem_append_right _ (mem_pinsAt hb e)))).2.1
      cases ok with
      | false =>
        obtain ⟨m', hm, w'⟩ := hN ys H10 q10
        obtain ⟨b1, b2, b3⟩ := back I10
        exact ⟨m', hm, i + 1, ys, H10, b1, b2, b3, w'⟩
      | true =>
        refine thn (he _ _ _ _ s10 σ9 H10 _ I10 q10) fun yv s11 ⟨y, H11, I11, r11, hl, hz, nn⟩ => ?_
        obtain ⟨m', hm, w'⟩ := hN _ _ nn
        refine thn (mt_append (X := cxComp X N sc cl s3 (upd H2 D (.lst [])) fp) _ s11 σ9 H11 (.ref D) [y] (.ref D) [yv] (fun _ H' => H' = upd H11 D (.lst (ys ++ [y]))) I11 rfl (.cons r11 .nil) ⟨D, ys, y, rfl, rfl, hl, hz, rfl⟩) fun _ s12 ⟨_, H12, I12, _, e12⟩ => ?_
        subst e12
        obtain ⟨b1, b2, b3⟩ := back I12
        exact ⟨m', hm, i + 1, ys ++ [y], _, b1, b2, b3, w'⟩
  exact codeAny_compStart_list (loop _ I4 st4 upd_same) (T.self _ 0 _ _ _ st4 (loop _ I4 st4 upd_same))

/-- [elt for tg in iter if ..] as a value -/
theorem pe_comp (NX : List Str) (sx : Scope) (k : Nat) (js : List Nat) (N : List Str) (hc : X.calm = true) (hfr : frOk NX N sx sc k js = true) (hi : PI X tg iter wi)
    (hg : ∀ cl s H ex, PG (cxComp X N sc cl s H ex) tg g) (ht : ∀ cl s H ex, PTs (cxComp X N sc cl s H ex) ifs tt) (he : ∀ cl s H ex, PE (cxComp X N sc cl s H ex) elt te)
    (hfree : ∀ y ∈ sc.names, y.2 = .free → sx.names.lookup y.1 = some .cell) (hnames : ∀ y ∈ sc.names, y.2 = .local → sc.names.lookup y.1 = some .local) (hcell : ∀ y ∈ sc.names, y.2 ≠ .cell)
    (hNX : X.N = NX := by rfl) (hsx : X.env.scope = sx := by rfl) (hk : sc.kind = .function := by rfl) (hs : ∀ x, foldedSetIterable iter X.env x = pure x := by intro _; rfl) :
    PE X (.ListComp elt [⟨tg, iter, ifs, 0⟩] sc pos) (tComp wi g tt te k js) := by
  intro pins s σ H Q I h
  obtain ⟨cl, hclos, hsub, hall⟩ := closure_ok (env := X.env) (sc := sc) fun y hy hf => I.ok.has y.1 (.inl (by show X.env.scope.names.lookup y.1 = _; rw [hsx]; exact hfree y hy hf))
  rw [eval_ListComp]
  refine wpAny_comprehension_free (use := none) rfl hs hclos hk hnames (thn (hi pins s σ H _ I h) fun xv s1 h1 => thn h1 fun itv s2 h2 => ?_)
  obtain ⟨it, fp, tn, J, H2, e, I2, T, st2, f2, q2⟩ := h2
  subst e
  refine comp_block (RR := fun acc C => compPost (model X.prog X.w) X.A X.xe none (EP X pins σ Q) acc C) (Q := fun D H' => Q (.ref D) H') hc hk hcell hNX hsx hfr hsub hall (hg cl) (ht cl) (he cl) I2 T st2 f2 q2 ?_
  intro D s3 s4 H3 H4 σ4 _ I3 f3 J4 q4
  obtain ⟨m, hn, _⟩ := J4.loc
  exact ⟨m, hn, fun h' hs' => ⟨.ref D, H4, I3.compBack f3 J4 fun b o hb e => (hs'.2 b hb).trans e, rfl, q4⟩⟩

/-- name = [elt for tg in iter if ..], a plain local name -/
theorem ps_comp (NX : List Str) (sx : Scope) (k : Nat) (js : List Nat) (N : List Str) {i : Nat} {y : Str} {py spos : Pos} (hN : X.N.Nodup) (hyi : X.N[i]? = some y) (hc : X.calm = true) (hfr : frOk NX N sx sc k js = true) (hi : PI X tg iter wi)
    (hg : ∀ cl s H ex, PG (cxComp X N sc cl s H ex) tg g) (ht : ∀ cl s H ex, PTs (cxComp X N sc cl s H ex) ifs tt) (he : ∀ cl s H ex, PE (cxComp X N sc cl s H ex) elt te)
    (hfree : ∀ y ∈ sc.names, y.2 = .free → sx.names.lookup y.1 = some .cell) (hnames : ∀ y ∈ sc.names, y.2 = .local → sc.names.lookup y.1 = some .local) (hcell : ∀ y ∈ sc.names, y.2 ≠ .cell)
    (hy : X.env.scope.names.lookup y = some .local := by rfl)
    (hsw : swapsWith (.ListComp elt [⟨tg, iter, ifs, 0⟩] sc pos) (some (.Name y py)) spos.line X.env = pure true := by rfl)
    (hNX : X.N = NX := by rfl) (hsx : X.env.scope = sx := by rfl) (hk : sc.kind = .function := by rfl) (hs : ∀ x, foldedSetIterable iter X.env x = pure x := by intro _; rfl) :
    PS X (.Assign [.Name y py] (.ListComp elt [⟨tg, iter, ifs, 0⟩] sc pos) spos) (tAsg (tComp wi g tt te k js) (gName i)) := by
  intro pins s σ H D I h
  obtain ⟨cl, hclos, hsub, hall⟩ := closure_ok (env := X.env) (sc := sc) fun y hy hf => I.ok.has y.1 (.inl (by show X.env.scope.names.lookup y.1 = _; rw [hsx]; exact hfree y hy hf))
  rw [exec_Assign_Name_used _ _ _ _ hsw]
  refine wpAny_bind (wpAny_standAt (wpAny_bind ?_))
  show wpAny _ X.A (comprehension (.ListComp elt [⟨tg, iter, ifs, 0⟩] sc pos) sc X.env _ (newList []) false (eval iter X.env) (some (assign (.Name y py) X.env)) >>= fun _ => pure ()) _ _ s
  refine wpAny_bind (wpAny_mono (Q := fun _ s' => SP X pins D .next s') (wpAny_comprehension_free (use := some (assign (.Name y py) X.env)) (Q := fun _ s' => SP X pins D .next s') rfl hs hclos hk hnames
    (thn (hi pins s σ H _ I h) fun xv s1 h1 => thn h1 fun itv s2 h2 => ?_)) (fun _ s' hq => wpAny_pure (wpAny_pure hq)) fun _ _ e => e)
  obtain ⟨it, fp, tn, J, H2, e, I2, T, st2, f2, q2⟩ := h2
  subst e
  refine comp_block (RR := fun acc C => compPost (model X.prog X.w) X.A X.xe (some (assign (.Name y py) X.env)) (fun _ s' => SP X pins D .next s') acc C) (Q := fun L H' => D.nx (σ.set i (some (.ref L))) H') hc hk hcell hNX hsx hfr hsub hall (hg cl) (ht cl) (he cl) I2 T st2 f2 q2 ?_
  intro L s3 s4 H3 H4 σ4 _ I3 f3 J4 q4
  obtain ⟨m, hn, _⟩ := J4.loc
  have I4 : Inv X pins σ H4 s4 := I3.compBack (h' := s4.heap) f3 J4 fun b o _ e => e
  show wpAny _ X.A (assign (.Name y py) X.env (.ref L)) _ _ _
  refine wpAny_assign_Name (store_ok2 I4 hN hyi (.inl hy) (v := .ref L) (u := .ref L) rfl (fun s5 I5 hsb => ?_) (.inr hy))
  have neC : ∀ a, (a = X.env.locals ∨ X.env.cells.lookup y = some a) → a ≠ s3.heap.objs.size := fun a ha z => by
    rcases ha with ha | ha
    · have := I3.lt
      rw [← ha, z] at this
      exact Nat.lt_irrefl _ this
    · obtain ⟨v, q⟩ := I3.cell y a ha
      have := q.lt
      rw [z] at this
      exact Nat.lt_irrefl _ this
  obtain ⟨a, sb, ha⟩ := hsb
  refine ⟨m, hn.sameBut sb (Ne.symm (neC a ha)), fun h' hs' => ?_⟩
  have fC : H4 s3.heap.objs.size = none := J4.free
  refine ⟨_, H4, ?_, q4⟩
  have nL : X.env.locals ≠ s3.heap.objs.size := neC _ (.inl rfl)
  refine I5.turned (it := s3.heap.objs.size) (t' := s5.toks) (fun b o hb e => (hs'.2 b hb).trans e) fC (Ne.symm nL) (.inr I3.sz) (fun x c e z => ?_) fun p hp z => ?_
  · obtain ⟨v, q⟩ := I3.cell x c e
    have := q.lt
    rw [z] at this
    exact Nat.lt_irrefl _ this
  · have := Heap.lt_size (I3.pin p hp).1
    rw [z] at this
    exact Nat.lt_irrefl _ this
end
end L2

set_option Elab.async false
set_option linter.all false
set_option maxRecDepth 100000
namespace L2
open PySem PySem.Spec PyProof.Rows
section
variable {X : Cx}
/-- isinstance(x, T), T a built-in type -/
def rIsi (K : PySem.W.Frag) : List V → Hp → VK → Prop := fun xs H Q => ∃ x T t b, xs = [x, .ty T] ∧ TyOf K H x t ∧ PySem.W.kitOne K t (.type T) = some b ∧ Q (.bl b) H
theorem call_isi : CallR X (.builtin "isinstance") (rIsi X.K) := by
  intro pins s σ H xs us Q I r h
  obtain ⟨x, T, t, b, rfl, ty, e, q⟩ := h
  obtain ⟨u, w, rfl, rx, ry⟩ := vals2 r
  cases ry
  exact isinst_ok I rx ty e fun tk => ⟨.bl b, H, I.tok _, rfl, q⟩

/-- // by a positive divisor below 2^64 -/
def CDivB (_ j : Int) : Prop := 0 < j ∧ j < 18446744073709551616
theorem op_fdivB : OpR X (binaryOp .FloorDiv) (rI CDivB fun i j => .int (i / j)) := opI fun i j _ _ _ _ _ hc q => by
  have h1 : (0 : Int) < j := hc.1
  have h2 : j < 18446744073709551616 := hc.2
  refine floordiv_int (by omega) (by rw [Int.fdiv_eq_ediv_of_nonneg i (by omega)]; exact q) (.inl (PyProof.noPylong_of_log2 ?_))
  have h0 : j.natAbs ≠ 0 := by omega
  have h64 : j.natAbs.log2 < 64 := (Nat.log2_lt h0).mpr (by omega)
  omega

/-- two items that == tells: flat ones, or one object -/
def EqW (x y : V) (b : Bool) : Prop := (flatV x = true ∧ flatV y = true ∧ b = eqV x y) ∨ (∃ a, x = .ref a ∧ y = .ref a ∧ b = true)
theorem EqW.at {A : Around} {s : Shared} {x y : V} {u v : Value} {b : Bool} (h : EqW x y b) (rx : RelV x u) (ry : RelV y v) : SeqAt.EqAt A s u v b := by
  rcases h with ⟨fx, fy, e⟩ | ⟨a, e1, e2, e3⟩
  · subst e
    exact eqAt_V rx ry fx fy
  · subst e1 e2 e3
    cases rx
    cases ry
    exact SeqAt.EqAt.same _
def rEqL (K : PySem.W.Frag) : R2 := fun x y H Q => ∃ a b xs ys, x = .ref a ∧ y = .ref b ∧ SqL K H a xs ∧ SqL K H b ys ∧
  ((xs.length ≠ ys.length ∧ Q (.bl false) H) ∨ (xs.length = ys.length ∧ ∃ e : Nat → Bool, (∀ j x y, xs[j]? = some x → ys[j]? = some y → EqW x y (e j)) ∧ Q (.bl ((List.range xs.length).all e)) H))
theorem op_eqL (hu : X.A.units < cLine) : OpR X (compareOp .Eq) (rEqL X.K) := by
  intro pins s σ H x y v u Q I rx ry h
  obtain ⟨a, b, xs, ys, rfl, rfl, ha, hb, h⟩ := h
  cases rx
  cases ry
  obtain ⟨its, r1, p1, _⟩ := I.list ha
  obtain ⟨its2, r2, p2, _⟩ := I.list hb
  have l1 := r1.length
  have l2 := r2.length
  rcases h with ⟨hn, q⟩ | ⟨he, e, hq, q⟩
  · refine SeqAt.eq_list_lengthsAt p1.isList p2.isList ?_ hu ⟨.bl false, H, I, rfl, q⟩
    simp only [List.size_toArray, bne_iff_ne, ne_eq]
    omega
  · refine SeqAt.eq_listAt (e := e) p1.isList p2.isList (by simp only [List.size_toArray]; omega) hu (fun j h1 h2 => ?_) ?_
    · simp only [List.size_toArray] at h1 h2
      have e1 : xs[j]? = some xs[j] := List.getElem?_eq_getElem (by omega)
      have e2 : ys[j]? = some ys[j] := List.getElem?_eq_getElem (by omega)
      obtain ⟨v1, g1, rv1⟩ := r1.get e1
      obtain ⟨v2, g2, rv2⟩ := r2.get e2
      have z1 : its.toArray[j] = v1 := by
        have : its[j]? = some its[j] := List.getElem?_eq_getElem h1
        rw [this] at g1
        simpa using Option.some.inj g1
      have z2 : its2.toArray[j] = v2 := by
        have : its2[j]? = some its2[j] := List.getElem?_eq_getElem h2
        rw [this] at g2
        simpa using Option.some.inj g2
      rw [z1, z2]
      exact (hq j _ _ e1 e2).at rv1 rv2
    · have z : its.toArray.size = xs.length := by simp only [List.size_toArray]; omega
      rw [z]
      exact ⟨.bl _, H, I, rfl, q⟩
/-- xs == [] -/
theorem rEqL_nil {K : PySem.W.Frag} {H : Hp} {Q : VK} {a b : Addr} {xs : List V} (ha : SqL K H a xs) (hb : SqL K H b []) (q : Q (.bl (decide (xs = []))) H) : rEqL K (.ref a) (.ref b) H Q := by
  refine ⟨a, b, xs, [], rfl, rfl, ha, hb, ?_⟩
  cases xs with
  | nil => exact .inr ⟨rfl, fun _ => true, fun j x y e => by simp at e, q⟩
  | cons x xs => exact .inl ⟨by simp, by simpa using q⟩

end
end L2

set_option Elab.async false
set_option linter.all false
set_option maxRecDepth 100000
/-! Readings, one lemma a construct; a def of the text as a thing to call. -/
namespace L2
open PySem PySem.Spec PyProof.Rows

/-- a def of the text, by its name -/
structure Fn (P : Program) (w : World) (K : PySem.W.Frag) (mg : Str → Option Value) (base : Heap) (x : Str) (k : Nat) (ps : List Str) (sp : Sp) : Prop where
  ex : ∃ f fd, FnOk P w K mg base CX0 k f fd ps sp ∧ mg x = some (.ref f) ∧ PySem.W.keepIn K (.ref f) = true ∧ Binds K fd ps []
section
variable {X : Cx} {k : Nat} {ps : List Str} {sp : Sp} {x : Str} {p pos : Pos} {e : Expr} {es : List Expr} {t : TA}
theorem pe_fn {j : Nat} (F : Fn X.prog X.w X.K X.mg X.base x k ps sp) (hr : Room j X.A) (hj : k ≤ j) (hg : Gl X x) (ha : PA X (e :: es) t) (hdb : (x == ("__debug__" : Str)) = false := by decide)
    (he : starEach (e :: es) X.env = (false, eval e X.env) :: starEach es X.env := by rfl) (hpl : (backTo pos (starEach es X.env)).any (·.1) = false := by rfl) :
    PE X (.Call (.Name x p) (e :: es) [] pos) (tCall sp [] E0 t) := by
  obtain ⟨f, fd, G, hm, hk, hb⟩ := F.ex
  exact pe_call G (hr.mono hj) hg hm hk hb .nil pass0 ha hdb he hpl
theorem pe_globI {i : Int} (hg : Gl X x) (hm : ∃ t, X.mg x = some (.int i t)) (hd : (x == ("__debug__" : Str)) = false := by decide) : PE X (.Name x pos) (tC (.int i)) := by
  obtain ⟨t, hm⟩ := hm
  exact pe_glob hg hm ⟨t, rfl⟩ hd
end

section
variable {σ : St} {H : Hp} {Q : VK} {D : Ends} {ta tb tc : TE} {t u : TS} {tt uu : TT} {tA : TA}
theorem r_var {i : Nat} {v : V} (e : σ[i]? = some (some v)) (q : Q v H) : tVar i σ H Q := ⟨v, e, q⟩
theorem r_c {v : V} (q : Q v H) : tC v σ H Q := q
theorem r_op {r : R2} (q : ta σ H fun x H1 => tb σ H1 fun y H2 => r x y H2 Q) : tOp r ta tb σ H Q := q
theorem r_un {r : V → Hp → VK → Prop} (q : ta σ H fun x H1 => r x H1 Q) : tUn r ta σ H Q := q
theorem r_I0 {g : Int → Int → V} {i j : Int} (q : Q (g i j) H) : rI0 g (.int i) (.int j) H Q := ⟨i, j, rfl, rfl, q⟩
theorem r_I {C : Int → Int → Prop} {g : Int → Int → V} {i j : Int} (c : C i j) (q : Q (g i j) H) : rI C g (.int i) (.int j) H Q := ⟨i, j, rfl, rfl, c, q⟩
theorem r_U {g : Int → V} {i : Int} (q : Q (g i) H) : rU g (.int i) H Q := ⟨i, rfl, q⟩
theorem r_EqI {i j : Int} (q : Q (.bl (decide (i = j))) H) : rEq (.int i) (.int j) H Q := ⟨rfl, by rw [show decide (V.int i = V.int j) = decide (i = j) by simp]; exact q⟩
theorem r_NeI {i j : Int} (q : Q (.bl (!decide (i = j))) H) : rNe (.int i) (.int j) H Q := ⟨rfl, by rw [show decide (V.int i = V.int j) = decide (i = j) by simp]; exact q⟩
theorem r_EqS {i j : Str} (q : Q (.bl (decide (i = j))) H) : rEq (.str i) (.str j) H Q := ⟨rfl, by rw [show decide (V.str i = V.str j) = decide (i = j) by simp]; exact q⟩
theorem r_NeS {i j : Str} (q : Q (.bl (!decide (i = j))) H) : rNe (.str i) (.str j) H Q := ⟨rfl, by rw [show decide (V.str i = V.str j) = decide (i = j) by simp]; exact q⟩
theorem r_test {q' : Bool → Hp → Prop} (q : ta σ H fun x H' => ∃ k, x = .bl k ∧ q' k H') : tTest ta σ H q' := q
theorem r_tB {q' : Bool → Hp → Prop} (q : ta σ H fun x H' => ∃ k, x = .bl k ∧ q' k H') : tB ta σ H q' := q
theorem r_bl {k : Bool} {q' : Bool → Prop} (q : q' k) : ∃ k', V.bl k = .bl k' ∧ q' k' := ⟨k, rfl, q⟩
theorem r_and {q' : Bool → Hp → Prop} (q : tt σ H fun c H1 => if c = true then uu σ H1 q' else q' false H1) : tAnd tt uu σ H q' := q
theorem r_or {q' : Bool → Hp → Prop} (q : tt σ H fun c H1 => if c = true then q' true H1 else uu σ H1 q') : tOr tt uu σ H q' := q
theorem r_not {q' : Bool → Hp → Prop} (q : tt σ H fun c H1 => q' (!c) H1) : tNot tt σ H q' := q
theorem r_andV (q : ta σ H fun x H1 => ∃ c, x = .bl c ∧ if c = true then tb σ H1 Q else Q (.bl false) H1) : tAndV ta tb σ H Q := q
theorem r_orV (q : ta σ H fun x H1 => ∃ c, x = .bl c ∧ if c = true then Q (.bl true) H1 else tb σ H1 Q) : tOrV ta tb σ H Q := q
theorem r_notV (q : ta σ H fun x H1 => ∃ c, x = .bl c ∧ Q (.bl (!c)) H1) : tNotV ta σ H Q := q
theorem r_if (q : tt σ H fun c H1 => if c = true then ta σ H1 Q else tb σ H1 Q) : tIf tt ta tb σ H Q := q
theorem r_next (q : D.nx σ H) : tNext D σ H := q
theorem r_seq (q : t { D with nx := u D } σ H) : tSeq t u D σ H := q
theorem r_drop (q : ta σ H fun _ H1 => D.nx σ H1) : tDrop ta D σ H := q
theorem r_ret (q : ta σ H D.rt) : tRet ta D σ H := q
theorem r_ifS (q : tt σ H fun b H1 => if b = true then t D σ H1 else u D σ H1) : tIfS tt t u D σ H := q
theorem r_asg {g : TG} (q : ta σ H fun x H1 => g x σ H1 D.nx) : tAsg ta g D σ H := q
theorem r_name {i : Nat} {v : V} {q' : St → Hp → Prop} (q : q' (σ.set i (some v)) H) : gName i v σ H q' := q
theorem r_gnil {q' : St → Hp → Prop} (q : q' σ H) : gNil [] σ H q' := ⟨rfl, q⟩
theorem r_gcons {g : TG} {gs : TGs} {v : V} {r : List V} {q' : St → Hp → Prop} (q : g v σ H fun σ' H' => gs r σ' H' q') : gCons g gs (v :: r) σ H q' := ⟨v, r, rfl, q⟩
theorem r_gtup {K : PySem.W.Frag} {n : Nat} {gs : TGs} {a : Addr} {xs : List V} {q' : St → Hp → Prop} (h : SqT K H a xs) (hn : xs.length = n) (q : gs xs σ H q') : gTup K n gs (.ref a) σ H q' := ⟨a, xs, rfl, h, hn, q⟩
theorem r_gsub {g : TSet} {v : V} {q' : St → Hp → Prop} (q : ta σ H fun o H1 => tb σ H1 fun i H2 => g o i v H2 fun H3 => q' σ H3) : gSub ta tb g v σ H q' := q
theorem r_augS {tget : V → V → Hp → VK → Prop} {tip : TIp} {tset : TSet} (q : ta σ H fun o H1 => tb σ H1 fun i H2 => tget o i H2 fun x H3 => tc σ H3 fun y H4 => tip x y H4 fun z H5 => tset o i z H5 fun H6 => D.nx σ H6) :
    tAugS ta tb tc tget tip tset D σ H := q
theorem r_nil {q' : List V → Hp → Prop} (q : q' [] H) : tNil σ H q' := q
theorem r_cons {q' : List V → Hp → Prop} (q : ta σ H fun x H1 => tA σ H1 fun xs H2 => q' (x :: xs) H2) : tCons ta tA σ H q' := q
theorem r_tup (q : tA σ H fun xs H1 => xs.length ≤ sizeLine ∧ ∀ p, H1 p = none → Q (.ref p) (upd H1 p (.tup xs))) : tTup tA σ H Q := q
theorem r_lst (q : tA σ H fun xs H1 => xs.length ≤ sizeLine ∧ ∀ p, H1 p = none → Q (.ref p) (upd H1 p (.lst xs))) : tLst tA σ H Q := q
theorem r_call {sp : Sp} (q : tA σ H fun vs H1 => sp (vs ++ []) H1 Q E0) : tCall sp [] E0 tA σ H Q := q
theorem r_cb {r : List V → Hp → VK → Prop} (q : tA σ H fun vs H1 => r vs H1 Q) : tCB r tA σ H Q := q
theorem r_bm {K : PySem.W.Frag} {T : String} {r : V → List V → Hp → VK → Prop} (q : ta σ H fun x H1 => tyV K T x H1 ∧ tA σ H1 fun xs H2 => r x xs H2 Q) : tBM K T r ta tA σ H Q := q
theorem r_app {l : Addr} {xs : List V} {y : V} (h : H l = some (.lst xs)) (hz : xs.length < sizeLine) (q : Q .non (upd H l (.lst (xs ++ [y])))) : rAppend (.ref l) [y] H Q := ⟨l, xs, y, rfl, rfl, h, hz, q⟩
theorem r_ixL {K : PySem.W.Frag} {p : Addr} {xs : List V} {i : Int} {v : V} (h : SqL K H p xs) (e : atI xs i = some v) (q : Q v H) : rIxL K (.ref p) (.int i) H Q := ⟨p, xs, i, v, rfl, rfl, h, e, q⟩
theorem r_ixT {K : PySem.W.Frag} {p : Addr} {xs : List V} {i : Int} {v : V} (h : SqT K H p xs) (e : atI xs i = some v) (q : Q v H) : rIxT K (.ref p) (.int i) H Q := ⟨p, xs, i, v, rfl, rfl, h, e, q⟩
theorem r_setL {p : Addr} {xs : List V} {k : Int} {j : Nat} {v : V} {q' : Hp → Prop} (h : H p = some (.lst xs)) (e : ixN xs.length k = some j) (q : q' (upd H p (.lst (xs.set j v)))) : rSetL (.ref p) (.int k) v H q' := ⟨p, xs, k, j, rfl, rfl, h, e, q⟩
theorem r_sl {r : V → Option Int → Option Int → Hp → VK → Prop} {tl th : TO} (q : ta σ H fun x H1 => tl σ H1 fun l H2 => th σ H2 fun u H3 => r x l u H3 Q) : tSl r ta tl th σ H Q := q
theorem r_noPart {q' : Option Int → Hp → Prop} (q : q' none H) : tNoPart σ H q' := q
theorem r_part {q' : Option Int → Hp → Prop} (q : ta σ H fun x H1 => ∃ i, x = .int i ∧ q' (some i) H1) : tPart ta σ H q' := q
theorem r_exI {i : Int} {q' : Int → Prop} (q : q' i) : ∃ i', V.int i = .int i' ∧ q' i' := ⟨i, rfl, q⟩
theorem r_isi {K : PySem.W.Frag} {x : V} {T : String} {t : Value} {b : Bool} (ty : TyOf K H x t) (e : PySem.W.kitOne K t (.type T) = some b) (q : Q (.bl b) H) : rIsi K [x, .ty T] H Q := ⟨x, T, t, b, rfl, ty, e, q⟩
theorem r_rng1 {q' : It → Hp → Prop} (q : tA σ H fun vs H1 => ∃ j : Int, vs = [.int j] ∧ -(2 ^ 62) ≤ j ∧ j < 2 ^ 62 ∧ q' (Itr 0 j.toNat) H1) : iRng1 tA σ H q' := q
theorem r_ilist {K : PySem.W.Frag} {q' : It → Hp → Prop} (q : ta σ H fun x H1 => ∃ a, x = .ref a ∧ (∃ xs, SqL K H1 a xs) ∧ q' (Itl K a) H1) : iList K ta σ H q' := q
end
theorem Same.new {H : Hp} {p : Addr} {o : HO} (h : H p = none) : Same H (upd H p o) := fun b u e => by rw [upd_ne (ne_of_none e h)]; exact e
theorem Same.out {H H' : Hp} {p : Addr} {o o' : HO} (h : H p = none) (s : Same (upd H p o) H') : Same H H' := (Same.new h).trans s
theorem Same.setp {H H' : Hp} {p : Addr} {o : HO} (h : H p = none) (s : Same H H') : Same H (upd H' p o) := fun b u e => by rw [upd_ne (ne_of_none e h)]; exact s b u e
theorem Same.seqT {K : PySem.W.Frag} {H H' : Hp} {a : Addr} {xs : List V} (e : Same H H') (h : SqT K H a xs) : SqT K H' a xs := by
  rcases h with (h | ⟨o, h⟩) | h
  · exact .inl (.inl (e _ _ h))
  · exact .inl (.inr ⟨o, e _ _ h⟩)
  · exact .inr h
theorem atI_ints {ns : List Int} {i : Int} (h0 : 0 ≤ i) (h1 : i < (ns.length : Int)) : atI (ns.map V.int) i = some (V.int (ns.getD i.toNat 0)) := by
  obtain ⟨j, rfl⟩ : ∃ j : Nat, i = (j : Int) := ⟨i.toNat, by omega⟩
  refine atI_nat ?_
  have hj : j < ns.length := by omega
  rw [List.getElem?_map, List.getElem?_eq_getElem hj]
  simp [List.getD, hj]
/-- for k in range(..) by its invariant -/
theorem r_for {wi : TI} {g : TG} {tb : TS} {D : Ends} {σ : St} {H : Hp} (q : wi σ H fun J H1 => ∃ W : Nat → Nat → St → Hp → Prop, (∃ m, W 0 m σ H1) ∧ ∀ i m σ H, W i m σ H →
    (J.stop i H ∧ D.nx σ H) ∨ (J.go i H ∧ ∃ N : St → Hp → Prop, (∀ σ' H', N σ' H' → ∃ m', m' < m ∧ W (i + 1) m' σ' H') ∧ ∀ x H', J.yld i H x H' → g x σ H' fun σ2 H2 => tb { D with nx := N, ct := N, bk := D.nx } σ2 H2)) : tFor wi g tb D σ H := q

/-- a comprehension over a range: ys at each turn -/
theorem comp_range {lo : Int} {n : Nat} {g : TG} {tt : TT} {te : TE} {k : Nat} {σ0 : St} {D : Addr} {H1 : Hp} {Q : Hp → Prop} (Pv : Nat → List V → Hp → Prop) (h0 : Pv 0 [] (upd H1 D (.lst [])))
    (hs : ∀ i ys H, i < n → Pv i ys H → g (.int (lo + i)) σ0 H fun σ3 H3 => (σ3.length = σ0.length ∧ ∀ j, k ≤ j → σ3[j]? = σ0[j]?) ∧ tt σ3 H3 fun b H4 =>
      if b = true then te σ3 H4 fun y H5 => H5 D = some (.lst ys) ∧ ys.length < sizeLine ∧ Pv (i + 1) (ys ++ [y]) (upd H5 D (.lst (ys ++ [y]))) else Pv (i + 1) ys H4)
    (hd : ∀ ys H, Pv n ys H → Q H) : CompBody (Itr lo n) g tt te k σ0 D H1 Q := by
  refine ⟨fun i m ys H => m = n - i ∧ i ≤ n ∧ Pv i ys H, ⟨n, by simp, Nat.zero_le _, h0⟩, ?_⟩
  rintro i m ys H ⟨rfl, hi, p⟩
  by_cases hlt : i < n
  · refine .inr ⟨hlt, Pv (i + 1), fun ys' H' p' => ⟨n - (i + 1), by omega, rfl, hlt, p'⟩, fun x H2 y => ?_⟩
    obtain ⟨e, y⟩ := y
    subst e y
    exact hs i ys _ hlt p
  · have e : i = n := by omega
    subst e
    exact .inl ⟨Nat.le_refl _, hd ys H p⟩
/-- .. over a list that stays -/
theorem comp_list {K : PySem.W.Frag} {a : Addr} {xs : List V} {g : TG} {tt : TT} {te : TE} {k : Nat} {σ0 : St} {D : Addr} {H1 : Hp} {Q : Hp → Prop} (Pv : Nat → List V → Hp → Prop) (h0 : Pv 0 [] (upd H1 D (.lst []))) (hl : ∀ i ys H, i ≤ xs.length → Pv i ys H → SqL K H a xs)
    (hs : ∀ i x ys H, xs[i]? = some x → Pv i ys H → g x σ0 H fun σ3 H3 => (σ3.length = σ0.length ∧ ∀ j, k ≤ j → σ3[j]? = σ0[j]?) ∧ tt σ3 H3 fun b H4 =>
      if b = true then te σ3 H4 fun y H5 => H5 D = some (.lst ys) ∧ ys.length < sizeLine ∧ Pv (i + 1) (ys ++ [y]) (upd H5 D (.lst (ys ++ [y]))) else Pv (i + 1) ys H4)
    (hd : ∀ ys H, Pv xs.length ys H → Q H) : CompBody (Itl K a) g tt te k σ0 D H1 Q := by
  refine ⟨fun i m ys H => m = xs.length - i ∧ i ≤ xs.length ∧ Pv i ys H, ⟨xs.length, by simp, Nat.zero_le _, h0⟩, ?_⟩
  rintro i m ys H ⟨rfl, hi, p⟩
  have q := hl i ys H hi p
  by_cases hlt : i < xs.length
  · refine .inr ⟨⟨xs, xs[i], q, by simp [hlt]⟩, Pv (i + 1), fun ys' H' p' => ⟨xs.length - (i + 1), by omega, rfl, hlt, p'⟩, fun x H2 y => ?_⟩
    obtain ⟨e, y⟩ := y
    subst e
    exact hs i x ys _ (y xs q) p
  · have e : i = xs.length := by omega
    subst e
    exact .inl ⟨⟨xs, q, Nat.le_refl _⟩, hd ys H p⟩
/-! built-in functions by names of their own -/
def rLen (K : PySem.W.Frag) : List V → Hp → VK → Prop := fun xs H Q => ∃ p ys, xs = [.ref p] ∧ (SqL K H p ys ∨ SqT K H p ys) ∧ Q (.int ys.length) H
def rSum (K : PySem.W.Frag) : List V → Hp → VK → Prop := fun xs H Q => ∃ (p : Addr) (ns : List Int), xs = [.ref p] ∧ SqL K H p (ns.map V.int) ∧ Q (.int ns.sum) H
def rMin : List V → Hp → VK → Prop := fun xs H Q => ∃ i j, xs = [.int i, .int j] ∧ Q (.int (if j < i then j else i)) H
def rMax : List V → Hp → VK → Prop := fun xs H Q => ∃ i j, xs = [.int i, .int j] ∧ Q (.int (if j > i then j else i)) H
def rListOf (K : PySem.W.Frag) : List V → Hp → VK → Prop := fun xs H Q => ∃ p ys, xs = [.ref p] ∧ (SqL K H p ys ∨ SqT K H p ys) ∧ ∀ l, H l = none → Q (.ref l) (upd H l (.lst ys))
def rIntOf : List V → Hp → VK → Prop := fun xs H Q => (∃ i, xs = [.int i] ∧ Q (.int i) H) ∨ ∃ k, xs = [.bl k] ∧ Q (.int (if k then 1 else 0)) H
section
variable {X : Cx}
theorem cb_len : CallR X (.builtin "len") (rLen X.K) := call_len_seq
theorem cb_list : CallR X (.type "list") (rListOf X.K) := call_list_of
theorem cb_int : CallR X (.type "int") rIntOf := call_int1
end
section
variable {K : PySem.W.Frag} {H : Hp} {Q : VK}
theorem r_lenL {p : Addr} {ys : List V} (h : SqL K H p ys) (q : Q (.int ys.length) H) : rLen K [.ref p] H Q := ⟨p, ys, rfl, .inl h, q⟩
theorem r_lenT {p : Addr} {ys : List V} (h : SqT K H p ys) (q : Q (.int ys.length) H) : rLen K [.ref p] H Q := ⟨p, ys, rfl, .inr h, q⟩
theorem r_sum {p : Addr} {ns : List Int} (h : SqL K H p (ns.map V.int)) (q : Q (.int ns.sum) H) : rSum K [.ref p] H Q := ⟨p, ns, rfl, h, q⟩
theorem r_min {i j : Int} (q : Q (.int (if j < i then j else i)) H) : rMin [.int i, .int j] H Q := ⟨i, j, rfl, q⟩
theorem r_max {i j : Int} (q : Q (.int (if j > i then j else i)) H) : rMax [.int i, .int j] H Q := ⟨i, j, rfl, q⟩
theorem r_list {p : Addr} {ys : List V} (h : SqL K H p ys) (q : ∀ l, H l = none → Q (.ref l) (upd H l (.lst ys))) : rListOf K [.ref p] H Q := ⟨p, ys, rfl, .inl h, q⟩
theorem r_intB {k : Bool} (q : Q (.int (if k then 1 else 0)) H) : rIntOf [.bl k] H Q := .inr ⟨k, rfl, q⟩
theorem r_isiInt {i : Int} (q : Q (.bl true) H) : rIsi K [.int i, .ty "int"] H Q := r_isi (.int i) rfl q
theorem r_isiNoB {i : Int} (q : Q (.bl false) H) : rIsi K [.int i, .ty "bool"] H Q := r_isi (.int i) rfl q
theorem r_isiList {a : Addr} {xs : List V} (h : H a = some (.lst xs)) (q : Q (.bl true) H) : rIsi K [.ref a, .ty "list"] H Q := r_isi (.lst h) rfl q
theorem r_isiTup {a : Addr} {xs : List V} (h : H a = some (.tup xs)) (q : Q (.bl true) H) : rIsi K [.ref a, .ty "tuple"] H Q := r_isi (.tup h) rfl q
theorem r_isiStr {x : Str} (q : Q (.bl true) H) : rIsi K [.str x, .ty "str"] H Q := r_isi (.str x) rfl q
theorem r_disp {xs : List V} {P : Prop} (h : xs.length ≤ 1000) (q : P) : xs.length ≤ sizeLine ∧ P := ⟨Nat.le_of_lt (small1000 h), q⟩
end
section
variable {K : PySem.W.Frag} {H : Hp} {i : Int}
theorem r_tyL {p : Addr} {xs : List V} {q : Prop} (h : SqL K H p xs) (k : q) : tyV K "list" (.ref p) H ∧ q := ⟨.inl ⟨rfl, xs, h⟩, k⟩
theorem atI2 {a b : Int} (h0 : 0 ≤ i) (h1 : i < 2) : atI [V.int a, V.int b] i = some (V.int ([a, b].getD i.toNat 0)) := atI_ints (ns := [a, b]) h0 h1
theorem atI3 {a b c : Int} (h0 : 0 ≤ i) (h1 : i < 3) : atI [V.int a, V.int b, V.int c] i = some (V.int ([a, b, c].getD i.toNat 0)) := atI_ints (ns := [a, b, c]) h0 h1
theorem atI4 {a b c d : Int} (h0 : 0 ≤ i) (h1 : i < 4) : atI [V.int a, V.int b, V.int c, V.int d] i = some (V.int ([a, b, c, d].getD i.toNat 0)) := atI_ints (ns := [a, b, c, d]) h0 h1
theorem atI5 {a b c d e : Int} (h0 : 0 ≤ i) (h1 : i < 5) : atI [V.int a, V.int b, V.int c, V.int d, V.int e] i = some (V.int ([a, b, c, d, e].getD i.toNat 0)) := atI_ints (ns := [a, b, c, d, e]) h0 h1
theorem atI7 {a b c d e f g : Int} (h0 : 0 ≤ i) (h1 : i < 7) : atI [V.int a, V.int b, V.int c, V.int d, V.int e, V.int f, V.int g] i = some (V.int ([a, b, c, d, e, f, g].getD i.toNat 0)) := atI_ints (ns := [a, b, c, d, e, f, g]) h0 h1
end
theorem r_comp {wi : TI} {g : TG} {tt : TT} {te : TE} {k : Nat} {js : List Nat} {σ : St} {H : Hp} {Q : VK} (q : wi σ H fun J H1 => ∀ D, H1 D = none → CompBody J g tt te k (cst σ k js) D H1 fun H2 => Q (.ref D) H2) : tComp wi g tt te k js σ H Q := q
theorem r_tt {σ : St} {H : Hp} {q : Bool → Hp → Prop} (h : q true H) : tTT σ H q := h
theorem iteNT {A B : Prop} (h : B) : if (!true) = true then A else B := iteF h
theorem iteNF {A B : Prop} (h : A) : if (!false) = true then A else B := iteT h
theorem iteDT {c A B : Prop} [Decidable c] (hc : c) (h : A) : if decide c = true then A else B := by rw [decide_eq_true hc]; exact iteT h
theorem iteDF {c A B : Prop} [Decidable c] (hc : ¬ c) (h : B) : if decide c = true then A else B := by rw [decide_eq_false hc]; exact iteF h
theorem iteNDT {c A B : Prop} [Decidable c] (hc : ¬ c) (h : A) : if (!decide c) = true then A else B := by rw [decide_eq_false hc]; exact iteT h
theorem iteNDF {c A B : Prop} [Decidable c] (hc : c) (h : B) : if (!decide c) = true then A else B := by rw [decide_eq_true hc]; exact iteF h
theorem ix_listK {X : Cx} (K : PySem.W.Frag) (h : X.K = K) : IxR X (rIxL K) := h ▸ ix_list
theorem ix_tupK {X : Cx} (K : PySem.W.Frag) (h : X.K = K) : IxR X (rIxT K) := h ▸ ix_tup
theorem cb_lenK {X : Cx} (K : PySem.W.Frag) (h : X.K = K) : CallR X (.builtin "len") (rLen K) := h ▸ cb_len
end L2

set_option Elab.async false
set_option linter.all false
set_option maxRecDepth 100000
namespace L2
open PySem PySem.Spec PyProof.Rows

/-- hi, hi - 1, .. (n of them) -/
def Itd (hi : Int) (n : Nat) : It := ⟨fun i _ => i < n, fun i H x H' => H' = H ∧ x = .int (hi - i), fun i _ => n ≤ i⟩
section
variable {X : Cx} {tg : Expr}
/-- range(i, j, -1) -/
def iRngD (ta : TA) : TI := fun σ H R => ta σ H fun vs H1 => ∃ i j : Int, vs = [.int i, .int j, .int (-1)] ∧ (-(2 ^ 62) ≤ i ∧ i < 2 ^ 62 ∧ -(2 ^ 62) ≤ j ∧ j < 2 ^ 62) ∧ R (Itd i (i - j).toNat) H1
end
theorem r_rngD {tA : TA} {σ : St} {H : Hp} {q' : It → Hp → Prop} (q : tA σ H fun vs H1 => ∃ i j : Int, vs = [.int i, .int j, .int (-1)] ∧ (-(2 ^ 62) ≤ i ∧ i < 2 ^ 62 ∧ -(2 ^ 62) ≤ j ∧ j < 2 ^ 62) ∧ q' (Itd i (i - j).toNat) H1) : iRngD tA σ H q' := q
/-! a list of tuples of ints -/
/-- the rows of a table stand as tuples at the addresses as -/
def TabIs (H : Hp) (as : List Addr) (rows : List (List Int)) : Prop := as.length = rows.length ∧ ∀ (j : Nat) (a : Addr) (r : List Int), as[j]? = some a → rows[j]? = some r → H a = some (.tup (r.map V.int))
theorem TabIs.nil {H : Hp} : TabIs H [] [] := ⟨rfl, fun j a r e => by simp at e⟩
theorem TabIs.same {H H' : Hp} {as : List Addr} {rows : List (List Int)} (t : TabIs H as rows) (s : Same H H') : TabIs H' as rows := ⟨t.1, fun j a r e1 e2 => s _ _ (t.2 j a r e1 e2)⟩
theorem TabIs.at {H : Hp} {as : List Addr} {rows : List (List Int)} (t : TabIs H as rows) {j : Nat} {a : Addr} (e : as[j]? = some a) : ∃ r, rows[j]? = some r ∧ H a = some (.tup (r.map V.int)) := by
  have hj : j < as.length := (List.getElem?_eq_some_iff.mp e).1
  have hj' : j < rows.length := by rw [← t.1]; exact hj
  exact ⟨rows[j], List.getElem?_eq_getElem hj', t.2 j a _ e (List.getElem?_eq_getElem hj')⟩
theorem TabIs.mem {H : Hp} {as : List Addr} {rows : List (List Int)} (t : TabIs H as rows) {a : Addr} (h : a ∈ as) : ∃ r : List Int, H a = some (.tup (r.map V.int)) := by
  obtain ⟨j, hj, e⟩ := List.getElem_of_mem h
  obtain ⟨r, _, q⟩ := t.at (j := j) (by rw [List.getElem?_eq_getElem hj, e])
  exact ⟨r, q⟩
/-- a list's own change does not touch the tuples -/
theorem TabIs.lst {H : Hp} {as : List Addr} {rows : List (List Int)} (t : TabIs H as rows) {p : Addr} {xs : List V} {o : HO} (hp : H p = some (.lst xs)) : TabIs (upd H p o) as rows :=
  ⟨t.1, fun j a r e1 e2 => by rw [upd_ne (ne_of (t.2 j a r e1 e2) hp (by intro z; cases z))]; exact t.2 j a r e1 e2⟩
theorem TabIs.push {H : Hp} {as : List Addr} {rows : List (List Int)} (t : TabIs H as rows) {q : Addr} {r : List Int} (hq : H q = some (.tup (r.map V.int))) : TabIs H (as ++ [q]) (rows ++ [r]) := by
  refine ⟨by simp [t.1], fun j a r' e1 e2 => ?_⟩
  by_cases hj : j < as.length
  · rw [List.getElem?_append_left hj] at e1
    rw [List.getElem?_append_left (by rw [← t.1]; exact hj)] at e2
    exact t.2 j a r' e1 e2
  · have l1 : as.length ≤ j := by omega
    rw [List.getElem?_append_right l1] at e1
    rw [List.getElem?_append_right (by rw [← t.1]; exact l1), ← t.1] at e2
    have hj0 : j - as.length = 0 := by
      have := (List.getElem?_eq_some_iff.mp e1).1
      simp at this
      omega
    rw [hj0] at e1 e2
    simp at e1 e2
    subst e1 e2
    exact hq
theorem TabIs.set {H : Hp} {as : List Addr} {rows : List (List Int)} (t : TabIs H as rows) {q : Addr} {r : List Int} (hq : H q = some (.tup (r.map V.int))) (k : Nat) : TabIs H (as.set k q) (rows.set k r) := by
  refine ⟨by simp [t.1], fun j a r' e1 e2 => ?_⟩
  rw [List.getElem?_set] at e1 e2
  by_cases hk : k = j
  · subst hk
    rw [if_pos rfl] at e1 e2
    have h1 : k < as.length := by
      by_cases h : k < as.length
      · exact h
      · rw [if_neg h] at e1; cases e1
    rw [if_pos h1] at e1
    rw [if_pos (by rw [← t.1]; exact h1)] at e2
    cases e1
    cases e2
    exact hq
  · rw [if_neg hk] at e1 e2
    exact t.2 j a r' e1 e2
theorem atI_refs {as : List Addr} {i : Int} (h0 : 0 ≤ i) (h1 : i < (as.length : Int)) : atI (as.map V.ref) i = some (V.ref (as.getD i.toNat 0)) := by
  obtain ⟨j, rfl⟩ : ∃ j : Nat, i = (j : Int) := ⟨i.toNat, by omega⟩
  refine atI_nat ?_
  have hj : j < as.length := by omega
  rw [List.getElem?_map, List.getElem?_eq_getElem hj]
  simp [List.getD, hj]
theorem atI_refs_last {as : List Addr} (h : as ≠ []) : atI (as.map V.ref) (-1) = some (V.ref (as.getD (as.length - 1) 0)) := by
  obtain ⟨bs, b, rfl⟩ : ∃ bs b, as = bs ++ [b] := ⟨as.dropLast, as.getLast h, (List.dropLast_concat_getLast h).symm⟩
  rw [List.map_append]
  have e : atI (bs.map V.ref ++ [V.ref b]) (-1) = some (V.ref b) := atI_last _ _
  rw [show List.map V.ref [b] = [V.ref b] from rfl, e]
  simp [List.getD]
theorem TabIs.get {H : Hp} {as : List Addr} {rows : List (List Int)} (t : TabIs H as rows) {j : Nat} (h : j < rows.length) : H (as.getD j 0) = some (.tup ((rows.getD j []).map V.int)) := by
  have hj : j < as.length := by rw [t.1]; exact h
  refine t.2 j _ _ ?_ ?_
  · rw [List.getElem?_eq_getElem hj]; simp [List.getD, hj]
  · rw [List.getElem?_eq_getElem h]; simp [List.getD, h]
theorem getD_at {α : Type} {l : List α} {j : Nat} {d : α} (h : j < l.length) : l.getD j d = l[j] := by simp [List.getD, h]
theorem getD_mem {α : Type} {l : List α} {j : Nat} {d : α} (h : j < l.length) : l.getD j d ∈ l := by rw [getD_at h]; exact List.getElem_mem h
theorem two_of {r : List Int} (h : r.length = 2) : r = [r.getD 0 0, r.getD 1 0] := by
  match r, h with
  | [l, f], _ => rfl
def Two (rows : List (List Int)) : Prop := ∀ r ∈ rows, r.length = 2
theorem TabIs.two {H : Hp} {as : List Addr} {rows : List (List Int)} (t : TabIs H as rows) (tw : Two rows) {j : Nat} (h : j < rows.length) : H (as.getD j 0) = some (.tup [.int ((rows.getD j []).getD 0 0), .int ((rows.getD j []).getD 1 0)]) := by
  have hg := t.get h
  have e := two_of (tw (rows.getD j []) (getD_mem h))
  generalize rows.getD j [] = r at hg e
  rw [e] at hg
  exact hg
end L2

set_option Elab.async false
set_option linter.all false
set_option maxRecDepth 100000
namespace L2
open PySem PySem.Spec PyProof.Rows

/-- two lists side by side: a new tuple each turn -/
def Itz (K : PySem.W.Frag) (l1 l2 : Addr) : It :=
  ⟨fun i H => ∃ xs ys x y, SqL K H l1 xs ∧ SqL K H l2 ys ∧ xs[i]? = some x ∧ ys[i]? = some y,
   fun i H v H' => ∃ T x y, v = .ref T ∧ H T = none ∧ H' = upd H T (.tup [x, y]) ∧ ∀ xs ys, SqL K H l1 xs → SqL K H l2 ys → xs[i]? = some x ∧ ys[i]? = some y,
   fun i H => ∃ xs ys, SqL K H l1 xs ∧ SqL K H l2 ys ∧ min xs.length ys.length = i⟩
section
variable {X : Cx}
def iZip (K : PySem.W.Frag) (ta : TA) : TI := fun σ H R => ta σ H fun vs H1 => ∃ l1 l2, vs = [.ref l1, .ref l2] ∧ (∃ xs, SqL K H1 l1 xs) ∧ (∃ ys, SqL K H1 l2 ys) ∧ R (Itz K l1 l2) H1
/-- xs != ys -/
def rNeL (K : PySem.W.Frag) : R2 := fun x y H Q => ∃ a b xs ys, x = .ref a ∧ y = .ref b ∧ SqL K H a xs ∧ SqL K H b ys ∧
  ((xs.length ≠ ys.length ∧ Q (.bl true) H) ∨ (xs.length = ys.length ∧ ∃ e : Nat → Bool, (∀ j x y, xs[j]? = some x → ys[j]? = some y → EqW x y (e j)) ∧ Q (.bl (!(List.range xs.length).all e)) H))
theorem op_neL (hu : X.A.units < cLine) : OpR X (compareOp .NotEq) (rNeL X.K) := by
  intro pins s σ H x y v u Q I rx ry h
  obtain ⟨a, b, xs, ys, rfl, rfl, ha, hb, h⟩ := h
  cases rx
  cases ry
  obtain ⟨its, r1, p1, _⟩ := I.list ha
  obtain ⟨its2, r2, p2, _⟩ := I.list hb
  have l1 := r1.length
  have l2 := r2.length
  rcases h with ⟨hn, q⟩ | ⟨he, e, hq, q⟩
  · refine SeqAt.RcNeAt.lists_lengths p1.isList p2.isList ?_ hu X.prog X.w X.xe _ ⟨.bl true, H, I, rfl, q⟩
    simp only [List.size_toArray, bne_iff_ne, ne_eq]
    omega
  · refine SeqAt.RcNeAt.lists (e := e) p1.isList p2.isList (by simp only [List.size_toArray]; omega) hu (fun j h1 h2 => ?_) X.prog X.w X.xe _ ?_
    · simp only [List.size_toArray] at h1 h2
      have e1 : xs[j]? = some xs[j] := List.getElem?_eq_getElem (by omega)
      have e2 : ys[j]? = some ys[j] := List.getElem?_eq_getElem (by omega)
      obtain ⟨v1, g1, rv1⟩ := r1.get e1
      obtain ⟨v2, g2, rv2⟩ := r2.get e2
      have z1 : its.toArray[j] = v1 := by
        have : its[j]? = some its[j] := List.getElem?_eq_getElem h1
        rw [this] at g1
        simpa using Option.some.inj g1
      have z2 : its2.toArray[j] = v2 := by
        have : its2[j]? = some its2[j] := List.getElem?_eq_getElem h2
        rw [this] at g2
        simpa using Option.some.inj g2
      rw [z1, z2]
      exact (hq j _ _ e1 e2).at rv1 rv2
    · have z : its.toArray.size = xs.length := by simp only [List.size_toArray]; omega
      rw [z]
      exact ⟨.bl _, H, I, rfl, q⟩
end
theorem r_zip {K : PySem.W.Frag} {tA : TA} {σ : St} {H : Hp} {q' : It → Hp → Prop} (q : tA σ H fun vs H1 => ∃ l1 l2, vs = [.ref l1, .ref l2] ∧ (∃ xs, SqL K H1 l1 xs) ∧ (∃ ys, SqL K H1 l2 ys) ∧ q' (Itz K l1 l2) H1) : iZip K tA σ H q' := q
end L2

set_option Elab.async false
set_option linter.all false
set_option maxRecDepth 100000
namespace L2
open PySem PySem.Spec PyProof.Rows

theorem set0 {σ0 : St} {x : Option V} : (σ0.set 0 x).length = σ0.length ∧ ∀ j, 1 ≤ j → (σ0.set 0 x)[j]? = σ0[j]? :=
  ⟨List.length_set .., fun j hj => List.getElem?_set_ne (by omega)⟩

section
variable {K : PySem.W.Frag} {tt : TT} {te : TE} {σ0 : St} {D : Addr} {H1 : Hp} {Q : Hp → Prop}
end
/-- a list by its places -/
def tab (n : Nat) (F : Nat → Int) : List Int := (List.range n).map F
theorem r_slT {K : PySem.W.Frag} {H : Hp} {Q : VK} {a : Addr} {xs ys : List V} {lo hi : Option Int} (h : SqT K H a xs) (hn : ¬ (HT.sIx xs.length 0 lo = 0 ∧ HT.sIx xs.length xs.length hi = xs.length)) (e : cutV xs lo hi = ys) (q : ∀ p, H p = none → Q (.ref p) (upd H p (.tup ys))) : rSlT K (.ref a) lo hi H Q := ⟨a, xs, rfl, h, hn, by rw [e]; exact q⟩
end L2

set_option Elab.async false
set_option linter.all false
set_option maxRecDepth 100000
namespace L2
open PySem PySem.Spec PyProof.Rows
section
variable {X : Cx}
/-- a dict of the module's with texts as keys and ints as values: in, item -/
def rInD (d : Addr) (D : List (PyData × PyData)) : R2 := fun x y H Q => ∃ z, x = .str z ∧ y = .ref d ∧ Q (.bl (Spec.lookup (.str z) D).isSome) H
/-- isinstance(x, tuple), any tuple that is read -/
def rIsiT (K : PySem.W.Frag) : List V → Hp → VK → Prop := fun xs H Q => ∃ a ys, xs = [.ref a, .ty "tuple"] ∧ SqT K H a ys ∧ Q (.bl true) H
/-- a name of the module's that holds an object -/
theorem pe_globR {x : Str} {d : Addr} {pos : Pos} (hg : Gl X x) (hm : X.mg x = some (.ref d)) (hd : (x == ("__debug__" : Str)) = false := by decide) : PE X (.Name x pos) (tC (.ref d)) := pe_glob hg hm rfl hd
end
section
variable {K : PySem.W.Frag} {H : Hp} {Q : VK}
theorem r_inD {d : Addr} {D : List (PyData × PyData)} {z : Str} (q : Q (.bl (Spec.lookup (.str z) D).isSome) H) : rInD d D (.str z) (.ref d) H Q := ⟨z, rfl, rfl, q⟩
theorem r_isiTT {a : Addr} {ys : List V} (h : SqT K H a ys) (q : Q (.bl true) H) : rIsiT K [.ref a, .ty "tuple"] H Q := ⟨a, ys, rfl, h, q⟩
end
theorem iteP {c A B : Prop} [Decidable c] (hc : c) (h : A) : if c then A else B := by rw [if_pos hc]; exact h
theorem iteN {c A B : Prop} [Decidable c] (hc : ¬ c) (h : B) : if c then A else B := by rw [if_neg hc]; exact h
theorem r_cat {l b : Addr} {xs zs : List V} {H : Hp} {Q : VK} (h1 : H l = some (.lst xs)) (h2 : H b = some (.lst zs)) (hz : xs.length + zs.length ≤ 1000) (q : ∀ p, H p = none → Q (.ref p) (upd H p (.lst (xs ++ zs)))) : rCat (.ref l) (.ref b) H Q :=
  ⟨l, b, xs, zs, rfl, rfl, h1, h2, Nat.le_of_lt (small1000 hz), q⟩
end L2

set_option Elab.async false
set_option linter.all false
set_option maxRecDepth 100000
namespace L2
open PySem PySem.Spec PyProof.Rows

/-- places and items: a new tuple each turn -/
def Ite (K : PySem.W.Frag) (l : Addr) : It :=
  ⟨fun i H => ∃ xs x, SqL K H l xs ∧ xs[i]? = some x,
   fun i H v H' => ∃ T x, v = .ref T ∧ H T = none ∧ H' = upd H T (.tup [.int (i : Nat), x]) ∧ ∀ xs, SqL K H l xs → xs[i]? = some x,
   fun i H => ∃ xs, SqL K H l xs ∧ xs.length = i⟩
theorem turn_enum {P : Program} {w : World} {K : PySem.W.Frag} {es : List Expr} {kt : Nat} {pt : Pos} (z i1 l : Addr) (n1 : z ≠ i1) (n2 : l ≠ z) (n3 : l ≠ i1) :
    Turn P w K (.Tuple es kt pt) (Ite K l) [z, i1] z (fun i h => (∃ old, IsEnum h z i1 (i : Nat) old) ∧ h.IsListIter i1 l i) where
  mem := by simp
  obj := fun i h st b hb => by
    obtain ⟨⟨old, hz⟩, ⟨o1, e1, c1, d1⟩⟩ := st
    have hb' : b = z ∨ b = i1 := by simpa using hb
    rcases hb' with rfl | rfl
    · exact ⟨_, hz, fun v q => by cases (show Data.fields _ = Data.cell v from q)⟩
    · exact ⟨o1, e1, fun v q => by rw [d1] at q; cases q⟩
  keep := fun i h h' st k => by
    obtain ⟨⟨old, hz⟩, h1⟩ := st
    exact ⟨⟨old, k z (by simp) _ hz⟩, h1.at fun o e => k i1 (by simp) o e⟩
  item := by
    intro X hP hw hK hc i pins s σ H E I hf st hg
    subst hP hw hK
    obtain ⟨xs, x, q1, ex⟩ := hg
    obtain ⟨hz, h1⟩ := st
    obtain ⟨its1, r1, p1, z1⟩ := I.list q1
    have L1 := r1.length
    have W := WalksT.enumerate (prog := X.prog) (w := X.w) (I.ok.hd hc) z i1 l n1 n2 n3 its1.toArray
    have hx : i < xs.length := (List.getElem?_eq_some_iff.mp ex).1
    refine W.item i s _ _ (by simp only [List.size_toArray]; omega) ⟨hz, h1, p1.isList⟩ fun T vals h' tk hv hT hTup mid kk => ?_
    refine ⟨.ref T, rfl, W.go es kt pt i T _ _ _ mid fun h'' st' kk' => ?_⟩
    obtain ⟨t1, u1, g1, rfl⟩ := hv
    obtain ⟨w1, e1, rx⟩ := r1.get ex
    have ew1 : u1 = w1 := by
      have : its1[i]? = some u1 := by simpa using g1
      rw [this] at e1; exact Option.some.inj e1
    subst ew1
    have nT : H T = none := I.hok.fresh hT
    have tw : T ∉ [z, i1] := W.apart i T _ mid
    have keep : ∀ b o, b ∉ [z, i1] → s.heap.get? b = some o → h''.get? b = some o := fun b o hb e => kk' b o hb (kk b o hb e)
    have neT : ∀ b o, s.heap.get? b = some o → b ≠ T := fun b o e => Nat.ne_of_lt (Nat.lt_of_lt_of_le (Heap.lt_size e) hT)
    have nin : ∀ b u, H b = some u → b ∉ [z, i1] := fun b u e hm => by
      rw [(hf b hm).1] at e; cases e
    have tupT : IsTup h'' T #[.int (i : Nat) t1, u1] := by
      obtain ⟨o, e, c, n, d⟩ := hTup
      exact ⟨o, kk' T o tw e, c, n, d⟩
    have hok : HOk X.prog X.w (upd H T (.tup [.int (i : Nat), x])) h'' := fun b u e => by
      by_cases hb : b = T
      · subst hb
        rw [upd_same] at e
        cases e
        exact ⟨by show 2 ≤ sizeLine; decide, [.int (i : Nat) t1, u1], .cons ⟨_, rfl⟩ (.cons rx .nil), tupT⟩
      · rw [upd_ne hb] at e
        refine (I.hok b u e).stay (fun c v hcc q => keep c v ?_ q) (fun c q => by rw [upd_ne (ne_of_none q nT)]; exact q) fun c zs q => by rw [upd_ne (ne_of_none q nT)]; exact q
        rcases hcc with rfl | hcc
        · exact nin _ _ e
        · exact nin _ _ hcc
    have I2 : Inv X pins σ (upd H T (.tup [.int (i : Nat), x])) { s with heap := h'', toks := tk } := by
      refine I.step (g' := s.gens) (d' := s.drawn) (ch := [z, i1]) (fun b hb => ?_) (fun b o _ _ hb e _ => keep b o hb e) (fun b o _ _ hb e _ => ⟨o.slots, keep b o hb e⟩) (fun b o _ e n => by rw [upd_ne (neT b o e)]; exact n)
        (fun b o hb e => ⟨o, keep b o hb e⟩) (fun b zs e => by rw [upd_ne (ne_of_none e nT)]; exact e) (fun b o u e => by rw [upd_ne (ne_of_none e nT)]; exact e) (fun b ps e => ⟨#[], by rw [upd_ne (ne_of_none e nT), e]; simp⟩) (fun m hm => ?_) hok I.bare
      · obtain ⟨f0, f1, f2, f3, f4, f5⟩ := hf b hb
        exact ⟨f3, f1, f4, f5⟩
      · obtain ⟨o, es', ep, ho, r⟩ := hm
        exact ⟨o, es', ep, keep _ o (fun hm => (hf _ hm).2.1 rfl) ho, r⟩
    obtain ⟨sz, s1, _⟩ := st'
    refine ⟨.ref T, _, I2, rfl, ⟨T, x, rfl, nT, rfl, fun xs' q1' => by rw [I.list_inj q1' q1]; exact ex⟩, ⟨sz, s1⟩, fun b hb => ?_⟩
    obtain ⟨o, e, _⟩ : ∃ o, s.heap.get? b = some o ∧ True := by
      obtain ⟨old, hz⟩ := hz
      obtain ⟨o1, e1, _⟩ := h1
      have hb' : b = z ∨ b = i1 := by simpa using hb
      rcases hb' with rfl | rfl
      · exact ⟨_, hz, trivial⟩
      · exact ⟨_, e1, trivial⟩
    rw [upd_ne (neT b o e)]
    exact (hf b hb).1
  done := by
    intro X hP hw hK hc i pins s σ H E I hf st hg
    subst hP hw hK
    obtain ⟨xs, q1, en⟩ := hg
    obtain ⟨hz, h1⟩ := st
    obtain ⟨its1, r1, p1, z1⟩ := I.list q1
    have L1 := r1.length
    have W := WalksT.enumerate (prog := X.prog) (w := X.w) (I.ok.hd hc) z i1 l n1 n2 n3 its1.toArray
    have en' : its1.toArray.size = i := by simp only [List.size_toArray]; omega
    refine W.done s _ _ (by rw [en']; exact ⟨hz, h1, p1.isList⟩) fun h' tk kk => ⟨rfl, ?_⟩
    have nin : ∀ b u, H b = some u → b ∉ [z, i1] := fun b u e hm => by
      rw [(hf b hm).1] at e; cases e
    refine I.step (g' := s.gens) (d' := s.drawn) (ch := [z, i1]) (fun b hb => ?_) (fun b o _ _ hb e _ => kk b o hb e) (fun b o _ _ hb e _ => ⟨o.slots, kk b o hb e⟩) (fun b o _ e n => n)
      (fun b o hb e => ⟨o, kk b o hb e⟩) (fun b zs e => e) (fun b o u e => e) (fun b ps e => ⟨#[], by rw [e]; simp⟩) (fun m hm => ?_) (fun b u e => ?_) I.bare
    · obtain ⟨f0, f1, f2, f3, f4, f5⟩ := hf b hb
      exact ⟨f3, f1, f4, f5⟩
    · obtain ⟨o, es', ep, ho, r⟩ := hm
      exact ⟨o, es', ep, kk _ o (fun hm => (hf _ hm).2.1 rfl) ho, r⟩
    · refine (I.hok b u e).stay (fun c v hcc q => kk c v ?_ q) (fun _ q => q) fun _ _ q => q
      rcases hcc with rfl | hcc
      · exact nin _ _ e
      · exact nin _ _ hcc
  self := fun _ _ _ _ _ st h => by
    obtain ⟨⟨old, hz⟩, _⟩ := st
    exact wpAny_pyIter_enum hz h
section
variable {X : Cx}
def iEnum (K : PySem.W.Frag) (ta : TA) : TI := fun σ H R => ta σ H fun vs H1 => ∃ l, vs = [.ref l] ∧ (∃ xs, SqL K H1 l xs) ∧ R (Ite K l) H1
theorem pi_enum {a : Expr} {ta : TA} {p pos : Pos} {es : List Expr} {kt : Nat} {pt : Pos} (hg : Gl X "enumerate") (hm : X.mg "enumerate" = none) (ha : PA X [a] ta) (hs : starEach [a] X.env = [(false, eval a X.env)] := by rfl) : PI X (.Tuple es kt pt) (.Call (.Name "enumerate" p) [a] [] pos) (iEnum X.K ta) := by
  intro pins s σ H R I h
  refine Call_ (ld_blt I hg hm PyProof.Rows.boot_enumerate (PyProof.Rows.callWith_type1 (thn (ha pos pins s σ H _ I h) fun us s1 ⟨vs, H1, I1, r1, q1⟩ => ?_) (by rw [hs]; rfl) (by rfl)))
  obtain ⟨l1, e, ⟨xs, q1⟩, q⟩ := q1
  subst e
  obtain ⟨u1, rfl, e1⟩ : ∃ u1, us = [u1] ∧ RelV (.ref l1) u1 := by
    cases r1 with
    | cons r rr => cases rr; exact ⟨_, rfl, r⟩
  cases e1
  obtain ⟨its1, r1, p1, z1⟩ := I1.list q1
  have lt1 : l1 < s1.heap.objs.size := by obtain ⟨o, n, e, _⟩ := p1; exact Heap.lt_size e
  refine call_enumerate_list p1.isList fun h' hz hi1 hsz hk => ?_
  refine wpAny_pyIter_enum hz ?_
  refine ⟨s1.heap.objs.size + 1, [s1.heap.objs.size + 1, s1.heap.objs.size], _, _, H1, rfl, I1.kept (t' := s1.toks) hk, turn_enum _ _ _ (Nat.succ_ne_self _) (Nat.ne_of_lt (Nat.lt_succ_of_lt lt1)) (Nat.ne_of_lt lt1), ⟨⟨_, hz⟩, hi1⟩, fun b hb => ?_, q⟩
  have hb' : b = s1.heap.objs.size + 1 ∨ b = s1.heap.objs.size := by simpa using hb
  have hge : s1.heap.objs.size ≤ b := by
    rcases hb' with rfl | rfl
    · exact Nat.le_add_right _ _
    · exact Nat.le_refl _
  exact I1.fpOk hge (I1.hok.fresh hge)
/-- over a list that stays -/
theorem for_enum {K : PySem.W.Frag} {l : Addr} {xs : List V} {g : TG} {tb : TS} {D : Ends} {σ : St} {H : Hp} (Pv : Nat → St → Hp → Prop) (h0 : Pv 0 σ H) (hl : ∀ i σ H, i ≤ xs.length → Pv i σ H → SqL K H l xs)
    (hs : ∀ i x T σ H, xs[i]? = some x → H T = none → Pv i σ H → g (.ref T) σ (upd H T (.tup [.int (i : Nat), x])) fun σ2 H2 => tb { D with nx := Pv (i + 1), ct := Pv (i + 1), bk := D.nx } σ2 H2) (hd : ∀ σ H, Pv xs.length σ H → D.nx σ H) :
    ∃ W : Nat → Nat → St → Hp → Prop, (∃ m, W 0 m σ H) ∧ ∀ i m σ H, W i m σ H →
      ((Ite K l).stop i H ∧ D.nx σ H) ∨ ((Ite K l).go i H ∧ ∃ N : St → Hp → Prop, (∀ σ' H', N σ' H' → ∃ m', m' < m ∧ W (i + 1) m' σ' H') ∧ ∀ x H', (Ite K l).yld i H x H' → g x σ H' fun σ2 H2 => tb { D with nx := N, ct := N, bk := D.nx } σ2 H2) := by
  refine ⟨fun i m σ H => m = xs.length - i ∧ i ≤ xs.length ∧ Pv i σ H, ⟨xs.length, by simp, Nat.zero_le _, h0⟩, ?_⟩
  rintro i m σ H ⟨rfl, hi, p⟩
  have q1 := hl i σ H hi p
  by_cases hlt : i < xs.length
  · refine .inr ⟨⟨xs, xs[i], q1, by simp [hlt]⟩, Pv (i + 1), fun σ' H' p' => ⟨xs.length - (i + 1), by omega, rfl, hlt, p'⟩, fun v H' y => ?_⟩
    obtain ⟨T, x, e1, e2, e3, e4⟩ := y
    subst e1 e3
    exact hs i x T σ H (e4 xs q1) e2 p
  · have e : i = xs.length := by omega
    subst e
    exact .inl ⟨⟨xs, q1, rfl⟩, hd σ H p⟩
theorem pg_tupK {es : List Expr} {k : Nat} {t : TGs} {n : Nat} {pos : Pos} (K : PySem.W.Frag) (hK : X.K = K) (hc : X.calm = true) (h : PGs X es t)
    (hn : (assignEach es X.env).length = n := by rfl) (hst : (assignEach es X.env).findIdx? (·.1) = none := by rfl) : PG X (.Tuple es k pos) (gTup K n t) := hK ▸ pg_tup hc h hn hst
end
theorem r_rng2 {tA : TA} {σ : St} {H : Hp} {q' : It → Hp → Prop} (q : tA σ H fun vs H1 => ∃ i j : Int, vs = [.int i, .int j] ∧ (-(2 ^ 62) ≤ i ∧ i < 2 ^ 62 ∧ -(2 ^ 62) ≤ j ∧ j < 2 ^ 62) ∧ q' (Itr i (j - i).toNat) H1) : iRng2 tA σ H q' := q
theorem r_enum {K : PySem.W.Frag} {tA : TA} {σ : St} {H : Hp} {q' : It → Hp → Prop} (q : tA σ H fun vs H1 => ∃ l, vs = [.ref l] ∧ (∃ xs, SqL K H1 l xs) ∧ q' (Ite K l) H1) : iEnum K tA σ H q' := q
theorem set01 {σ0 : St} {x y : Option V} : ((σ0.set 0 x).set 1 y).length = σ0.length ∧ ∀ j, 2 ≤ j → ((σ0.set 0 x).set 1 y)[j]? = σ0[j]? :=
  ⟨by rw [List.length_set, List.length_set], fun j hj => by rw [List.getElem?_set_ne (by omega), List.getElem?_set_ne (by omega)]⟩
section
variable {K : PySem.W.Frag} {tt : TT} {te : TE} {σ0 : St} {D : Addr} {H1 : Hp} {Q : Hp → Prop}
end
theorem tab_at? {n i : Nat} {F : Nat → Int} (h : i < n) : ((tab n F).map V.int)[i]? = some (V.int (F i)) := by simp [tab, h]
theorem atI_tab {n i : Nat} {F : Nat → Int} (h : i < n) : atI ((tab n F).map V.int) (0 + (i : Int)) = some (V.int (F i)) := by
  rw [Int.zero_add]
  exact atI_nat (tab_at? h)
theorem TabIs.cat {H : Hp} {as bs : List Addr} {rows rows' : List (List Int)} (t : TabIs H as rows) (u : TabIs H bs rows') : TabIs H (as ++ bs) (rows ++ rows') := by
  refine ⟨by simp [t.1, u.1], fun j a r e1 e2 => ?_⟩
  by_cases hj : j < as.length
  · rw [List.getElem?_append_left hj] at e1
    rw [List.getElem?_append_left (by rw [← t.1]; exact hj)] at e2
    exact t.2 j a r e1 e2
  · have l1 : as.length ≤ j := by omega
    rw [List.getElem?_append_right l1] at e1
    rw [List.getElem?_append_right (by rw [← t.1]; exact l1), ← t.1] at e2
    exact u.2 _ a r e1 e2
theorem r_slLE {K : PySem.W.Frag} {H : Hp} {Q : VK} {a : Addr} {xs : List V} {lo hi : Option Int} (h : SqL K H a xs) (q : ∀ p, H p = none → Q (.ref p) (upd H p (.lst (cutV xs lo hi)))) : rSlL K (.ref a) lo hi H Q := ⟨a, xs, rfl, h, q⟩
end L2

set_option Elab.async false
set_option linter.all false
set_option maxRecDepth 100000
/-! A set's table: a free slot is found. -/
namespace L2
open PySem PySem.Spec PyProof.Rows
open PySem.SetTable (Probe Met leap runEnd bits)

/-- the next run -/
def lp (m : Nat) (p : Probe) : Probe := { p with j := (leap m p.i p.perturb).1, more := runEnd m (leap m p.i p.perturb).1 - (leap m p.i p.perturb).1, i := (leap m p.i p.perturb).1, perturb := (leap m p.i p.perturb).2 }
section
variable {t : SetTable} {hs : Nat → Int} {h : Int}
variable (hd : t.dummies = #[]) (hn : ∀ i, t.place[i]? ≠ none → hs i ≠ h)
include hd hn
end
/-- the runs' starts -/
def sq (m : Nat) (x : Nat × Nat) : Nat × Nat := leap m x.1 x.2
/-! a table laid anew -/
end L2

set_option Elab.async false
set_option linter.all false
set_option maxRecDepth 100000
namespace L2
open PySem PySem.Spec PyProof.Rows
open PySem.SetTable (Probe Met leap runEnd bits)
end L2

set_option Elab.async false
set_option linter.all false
set_option maxRecDepth 100000
namespace L2
open PySem PySem.Spec PyProof.Rows
open PySem.SetTable (Probe Met leap runEnd bits)
/-- a set of n tuples, whose hashes are among HS -/
def SetT (h : Heap) (S : Addr) (n : Nat) (HS : List Int) : Prop :=
  ∃ o es ep t, h.get? S = some o ∧ o.ExactSet ∧ o.data = .set es ep t ∧ es.size = n ∧ t.place.size = n ∧ t.dummies = #[] ∧ (t.mask = 7 ∧ n ≤ 4 ∨ t.mask = 31 ∧ n ≤ 18) ∧ ∀ e ∈ es.toList, e.1 ∈ HS
theorem SetT.keeps {h h' : Heap} {S : Addr} {n : Nat} {HS : List Int} (x : SetT h S n HS) (k : ∀ o, h.get? S = some o → h'.get? S = some o) : SetT h' S n HS := by
  obtain ⟨o, es, ep, t, ho, r⟩ := x
  exact ⟨o, es, ep, t, k o ho, r⟩
section
variable {prog : Program} {w : World} {A : Around} {E : Value → Shared → Prop} {s : Shared}
end
end L2

set_option Elab.async false
set_option linter.all false
set_option maxRecDepth 100000
namespace L2
open PySem PySem.Spec PyProof.Rows
section
variable {prog : Program} {w : World} {A : Around} {R : Result → Shared → Prop} {I : Addr} {fp wr : List Addr} {G : Array GenState → Array GenState → Prop} {n : Nat} {P : Nat → Value → Prop} {St : Nat → Shared → Prop}
end
end L2

set_option Elab.async false
set_option linter.all false
set_option maxRecDepth 100000
namespace L2
open PySem PySem.Spec PyProof.Rows
section
variable {prog : Program} {w : World} {A : Around} {E : Value → Shared → Prop} {s : Shared}
end
end L2

set_option Elab.async false
set_option linter.all false
set_option maxRecDepth 100000
namespace L2
open PySem PySem.Spec PyProof.Rows
section
variable {X : Cx}
end
end L2

set_option Elab.async false
set_option linter.all false
set_option maxRecDepth 100000
namespace L2
open PySem PySem.Spec PyProof.Rows
/-- a comprehension over a tuple that stays -/
theorem comp_tup {K : PySem.W.Frag} {a : Addr} {xs : List V} {g : TG} {tt : TT} {te : TE} {k : Nat} {σ0 : St} {D : Addr} {H1 : Hp} {Q : Hp → Prop} (Pv : Nat → List V → Hp → Prop) (h0 : Pv 0 [] (upd H1 D (.lst []))) (hl : ∀ i ys H, i ≤ xs.length → Pv i ys H → SqT K H a xs)
    (hs : ∀ i x ys H, xs[i]? = some x → Pv i ys H → g x σ0 H fun σ3 H3 => (σ3.length = σ0.length ∧ ∀ j, k ≤ j → σ3[j]? = σ0[j]?) ∧ tt σ3 H3 fun b H4 =>
      if b = true then te σ3 H4 fun y H5 => H5 D = some (.lst ys) ∧ ys.length < sizeLine ∧ Pv (i + 1) (ys ++ [y]) (upd H5 D (.lst (ys ++ [y]))) else Pv (i + 1) ys H4)
    (hd : ∀ ys H, Pv xs.length ys H → Q H) : CompBody (Itt K a) g tt te k σ0 D H1 Q := by
  refine ⟨fun i m ys H => m = xs.length - i ∧ i ≤ xs.length ∧ Pv i ys H, ⟨xs.length, by simp, Nat.zero_le _, h0⟩, ?_⟩
  rintro i m ys H ⟨rfl, hi, p⟩
  have q := hl i ys H hi p
  by_cases hlt : i < xs.length
  · refine .inr ⟨⟨xs, xs[i], q, by simp [hlt]⟩, Pv (i + 1), fun ys' H' p' => ⟨xs.length - (i + 1), by omega, rfl, hlt, p'⟩, fun x H2 y => ?_⟩
    obtain ⟨e, y⟩ := y
    subst e
    exact hs i x ys _ (y xs q) p
  · have e : i = xs.length := by omega
    subst e
    exact .inl ⟨⟨xs, q, Nat.le_refl _⟩, hd ys H p⟩
theorem rNeL_nil {K : PySem.W.Frag} {H : Hp} {Q : VK} {a b : Addr} (ha : SqL K H a []) (hb : SqL K H b []) (q : Q (.bl false) H) : rNeL K (.ref a) (.ref b) H Q :=
  ⟨a, b, [], [], rfl, rfl, ha, hb, .inr ⟨rfl, fun _ => true, fun j x y e => by simp at e, q⟩⟩
theorem r_itup {K : PySem.W.Frag} {ta : TE} {σ : St} {H : Hp} {q' : It → Hp → Prop} (q : ta σ H fun x H1 => ∃ a, x = .ref a ∧ (∃ xs, SqT K H1 a xs) ∧ q' (Itt K a) H1) : iTup K ta σ H q' := q
end L2

set_option Elab.async false
set_option linter.all false
set_option maxRecDepth 100000
namespace L2
open PySem PySem.Spec PyProof.Rows

/-! ### an exception of an own class that leaves a def -/
/-- behind a call: the exception at a of the class C, the tuple of its arguments at t (tracked), the abstract heap H'; B is what stays whatever frame it leaves next -/
def CX1 (P : Program) (w : World) : CXT := fun outer H s E e s' =>
  ∃ (a C t : Addr) (H' : Hp) (B : Heap), e = .ref a ∧ s'.os = s.os ∧ AllBare s'.gens ∧ Un (frs outer) [] H H' s.heap s'.heap ∧ HOk P w H' B ∧
    (∀ b o, s.heap.get? b = some o → b ∉ frs outer → (∃ o', B.get? b = some o') ∧ (H b = none → B.get? b = some o)) ∧
    Heap.FlyingW B outer a (.ref C) (.ref t) s'.heap ∧ E (.ref C) (some t) H'

theorem un_fly {fs : List Addr} {H H' : Hp} {h h' B : Heap} (kB : ∀ b o, h.get? b = some o → b ∉ fs → (∃ o', B.get? b = some o') ∧ (H b = none → B.get? b = some o)) (st : B.StaysIn h')
    (fr : ∀ b o, h.get? b = some o → b ∈ fs → ∃ sl, h'.get? b = some { o with slots := sl }) (free : ∀ b o, h.get? b = some o → H b = none → H' b = none)
    (tups : ∀ b xs, H b = some (.tup xs) → H' b = some (.tup xs)) (frzs : ∀ b o u, H b = some (.frz o u) → H' b = some (.frz o u)) (tbls : ∀ b ps, H b = some (.tbl ps) → ∃ more, H' b = some (.tbl (ps ++ more))) :
    Un fs [] H H' h h' where
  keep := fun b o e n hb _ => st b o ((kB b o e hb).2 n)
  slot := fun b o e n hb _ => fr b o e hb
  free := fun b o e n _ => free b o e n
  there := fun b o e _ => by
    by_cases hb : b ∈ fs
    · obtain ⟨sl, q⟩ := fr b o e hb; exact ⟨_, q⟩
    · obtain ⟨o', q⟩ := (kB b o e hb).1; exact ⟨o', st _ _ q⟩
  tups := tups
  frzs := frzs
  tbls := tbls

theorem HOk.none_of {P : Program} {w : World} {H : Hp} {h : Heap} {a : Addr} (x : HOk P w H h) (e : h.get? a = none) : H a = none := by
  cases q : H a with
  | none => rfl
  | some u =>
    have := x a u q
    exfalso
    cases u with
    | lst xs => obtain ⟨_, _, _, _, e'⟩ := this; rw [e] at e'; cases e'
    | tup xs => obtain ⟨_, _, _, _, e', _⟩ := this; rw [e] at e'; cases e'
    | dK kvs => obtain ⟨_, _, _, _, o, _, _, e', _⟩ := this; rw [e] at e'; cases e'
    | dT kvs => obtain ⟨_, _, _, _, o, _, _, e', _⟩ := this; rw [e] at e'; cases e'
    | set S n => obtain ⟨o, _, _, _, e', _⟩ := this; rw [e] at e'; cases e'
    | ins C dx fs => obtain ⟨_, _, _, e', _⟩ := this; rw [e] at e'; cases e'
    | own y => obtain ⟨_, e'⟩ := this; rw [e] at e'; cases e'
    | xd fs => obtain ⟨_, ⟨_, _, _, e', _⟩, _⟩ := this; rw [e] at e'; cases e'
    | rng lo hi => obtain ⟨_, _, _, e'⟩ := this; rw [e] at e'; cases e'
    | frz ob u => obtain ⟨e', _⟩ := this; rw [e] at e'; cases e'
    | tbl ps => have e' : h.get? a = some _ := this; rw [e] at e'; cases e'
    | met f y => have e' : h.get? a = some _ := this; rw [e] at e'; cases e'
    | ext φ => obtain ⟨_, ⟨_, e'⟩, _⟩ := this; rw [e] at e'; cases e'
/-- what is tracked stays where untracked things are hidden -/
theorem HOk.hide {P : Program} {w : World} {H : Hp} {h : Heap} {l : List Addr} (x : HOk P w H h) (n : ∀ b ∈ l, H b = none) : HOk P w H (PySem.W.hideAll h l) := fun a o e =>
  (x a o e).stay (fun b u hb q => PySem.W.hideAll_get l q fun z => by
    rcases hb with rfl | hb
    · rw [n _ z] at e; cases e
    · rw [n _ z] at hb; cases hb) (fun _ q => q) fun _ _ q => q
/-- a new object laid and tracked, by its address alone -/
theorem HOk.laidN {P : Program} {w : World} {H : Hp} {h h' : Heap} {a : Addr} {o : HO} (x : HOk P w H h) (k : ∀ b u, h.get? b = some u → h'.get? b = some u) (hn : H a = none) (new : ObjOk P w (upd H a o) h' a o) : HOk P w (upd H a o) h' := fun b u e => by
  by_cases hb : b = a
  · subst hb; rw [upd_same] at e; cases e; exact new
  · rw [upd_ne hb] at e
    exact (x b u e).stay (fun c v _ q => k c v q) (fun c q => by rw [upd_ne (ne_of_none q hn)]; exact q) fun c xs q => by rw [upd_ne (ne_of_none q hn)]; exact q

section
variable {P : Program} {w : World} {K : PySem.W.Frag} {mg : Str → Option Value} {base : Heap} {N : List Str} {qual : Str} {scope : Scope} {f : Addr} {cd : Value} {A : Around} {outer : List Env} {s₀ : Shared} {H₀ : Hp} {E : XK}

theorem mem_frs {env : Env} {l : List Env} {b : Addr} (hb : b ∈ frs (env :: l)) : env.frame = some b ∨ b ∈ frs l := by
  unfold frs at hb ⊢
  rw [List.filterMap_cons] at hb
  cases q : env.frame with
  | none => rw [q] at hb; exact .inr hb
  | some c =>
    rw [q] at hb
    rcases List.mem_cons.mp hb with e | hb
    · exact .inl (by rw [e])
    · exact .inr hb

/-- an exception of a callee passes -/
theorem passX : Passes (CX1 P w) (cxOf (CX1 P w) P w K mg base N qual scope f cd A outer s₀ H₀ E) E := by
  intro pins σ H s e s' I ⟨a, C, t, H', B, he, os, bare, un, hok, kB, fl, hE⟩
  subst he
  show wpAny _ _ (leaving _ (.ref a)) _ _ s'
  refine wpAny_leaves_onW (base := B) I.ok.frames rfl fl fun h' fl' up => ?_
  have st := I.stack
  have fr : ∀ b o, s.heap.get? b = some o → b ∈ frs (cxOf (CX1 P w) P w K mg base N qual scope f cd A outer s₀ H₀ E).stack → ∃ sl, h'.get? b = some { o with slots := sl } := fun b o ho hb => by
    obtain ⟨_, o', ho', hd⟩ := st.mem hb
    rw [ho] at ho'; cases ho'
    obtain ⟨sl, q⟩ := un.slot b o ho (I.stkFree b hb) hb (by simp)
    obtain ⟨sl', q'⟩ := up b _ q hd
    exact ⟨sl', q'⟩
  have u2 : Un (frs (cxOf (CX1 P w) P w K mg base N qual scope f cd A outer s₀ H₀ E).stack) [] H H' s.heap h' :=
    un_fly kB fl'.1 fr (fun b o e n => un.free b o e n (by simp)) un.tups un.frzs un.tbls
  have J := I.call' (s' := { s' with heap := h' }) (ch := []) os u2 (hok.kept fl'.1) bare (fun _ z => nomatch z)
  refine ⟨a, C, t, H', B, rfl, J.os, J.bare, J.base, hok, fun b o e hb => ?_, fl', hE⟩
  obtain ⟨o', e1⟩ := I.base.there b o e (by show b ∉ []; simp)
  have nb : b ∉ frs (cxOf (CX1 P w) P w K mg base N qual scope f cd A outer s₀ H₀ E).stack := fun z => by
    rcases mem_frs z with q | q
    · have q : s₀.heap.objs.size = b := Option.some.inj q
      exact absurd (Heap.lt_size e) (by rw [q]; exact Nat.lt_irrefl _)
    · exact hb q
  refine ⟨(kB b o' e1 nb).1, fun n => ?_⟩
  exact (kB b o (I.base.keep b o e n hb (by show b ∉ []; simp)) nb).2 (I.base.free b o e n (by show b ∉ []; simp))

/-- an exception of an own class is made in a def's body and leaves it -/
def Raises (X : Cx) (E : XK) : Prop := ∀ (pins : List (Addr × Obj)) (σ : St) (H : Hp) (s : Shared) (h' : Heap) (e C : Addr) (us : List Value) (vs : List V), Inv X pins σ H s → Heap.MadeExcOf s.heap h' e (.ref C) us → Vals vs us → vs.length ≤ sizeLine →
  (∀ t, H t = none → E (.ref C) (some t) (upd H t (.tup vs))) → X.xe (.ref e) { s with heap := h' }

theorem raiseX : Raises (cxOf (CX1 P w) P w K mg base N qual scope f cd A outer s₀ H₀ E) E := by
  intro pins σ H s h' e C us vs I hx rv hz hE
  show wpAny _ _ (leaving _ (.ref e)) _ _ _
  obtain ⟨t, he, htn, ht⟩ := hx.there
  have tn : H t = none := I.hok.none_of htn
  have en : H e = none := I.hok.none_of hx.new
  have st := I.stack
  have st' : h'.FunFrames base (cxOf (CX1 P w) P w K mg base N qual scope f cd A outer s₀ H₀ E).stack := st.of_keeps fun b o hb _ => ⟨o, hx.keeps b o hb, rfl⟩
  have stF : ∀ b ∈ frs (cxOf (CX1 P w) P w K mg base N qual scope f cd A outer s₀ H₀ E).stack, H b = none := I.stkFree
  have tnf : t ∉ frs (cxOf (CX1 P w) P w K mg base N qual scope f cd A outer s₀ H₀ E).stack := fun z => by
    obtain ⟨_, o, ho, _⟩ := st.mem z
    rw [htn] at ho; cases ho
  have tne : t ≠ e := fun z => by
    subst z
    rw [he] at ht
    injection ht with ht
    have := congrArg Obj.data ht
    cases this
  refine wpAny_leaving_firstW (base := PySem.W.hideAll h' (e :: frs (cxOf (CX1 P w) P w K mg base N qual scope f cd A outer s₀ H₀ E).stack)) (a0 := .ref t) (L := s₀.heap.objs.size) I.ok.frames
    (PySem.W.funFrames_hide st' fun env henv b hb => List.mem_cons_of_mem _ (List.mem_filterMap.mpr ⟨env, henv, hb⟩)) rfl he (fun b o q => PySem.W.of_hideAll _ q) (PySem.W.hideAll_none _ List.mem_cons_self) rfl rfl rfl fun h'' hL => ?_
  obtain ⟨k1, k2, k3, k4⟩ := hL
  have hok' : HOk P w (upd H t (.tup vs)) h' := I.hok.laidN hx.keeps tn ⟨hz, us, rv, ⟨_, ht, rfl, _, rfl⟩⟩
  have hokB : HOk P w (upd H t (.tup vs)) (PySem.W.hideAll h' (e :: frs (cxOf (CX1 P w) P w K mg base N qual scope f cd A outer s₀ H₀ E).stack)) := hok'.hide fun b hb => by
    rcases List.mem_cons.mp hb with rfl | hb
    · rw [upd_ne (Ne.symm tne)]; exact en
    · rw [upd_ne (show b ≠ t from fun z => tnf (z ▸ hb))]; exact stF b hb
  have kB : ∀ b o, s.heap.get? b = some o → b ∉ frs (cxOf (CX1 P w) P w K mg base N qual scope f cd A outer s₀ H₀ E).stack →
      (∃ o', (PySem.W.hideAll h' (e :: frs (cxOf (CX1 P w) P w K mg base N qual scope f cd A outer s₀ H₀ E).stack)).get? b = some o') ∧ (H b = none → (PySem.W.hideAll h' (e :: frs (cxOf (CX1 P w) P w K mg base N qual scope f cd A outer s₀ H₀ E).stack)).get? b = some o) := fun b o ho hb => by
    have q := PySem.W.hideAll_get (e :: frs (cxOf (CX1 P w) P w K mg base N qual scope f cd A outer s₀ H₀ E).stack) (hx.keeps b o ho) fun z => by
      rcases List.mem_cons.mp z with rfl | z
      · rw [hx.new] at ho; cases ho
      · exact hb z
    exact ⟨⟨o, q⟩, fun _ => q⟩
  have fr : ∀ b o, s.heap.get? b = some o → b ∈ frs (cxOf (CX1 P w) P w K mg base N qual scope f cd A outer s₀ H₀ E).stack → ∃ sl, h''.get? b = some { o with slots := sl } := fun b o ho hb => by
    obtain ⟨_, o', ho', hd⟩ := st.mem hb
    rw [ho] at ho'; cases ho'
    exact k4 b o (hx.keeps b o ho) hd
  have ne : ∀ {b o}, H b = some o → b ≠ t := fun {b o} q z => by rw [z, tn] at q; cases q
  have u2 : Un (frs (cxOf (CX1 P w) P w K mg base N qual scope f cd A outer s₀ H₀ E).stack) [] H (upd H t (.tup vs)) s.heap h'' :=
    un_fly kB k1 fr (fun b o ho n => by rw [upd_ne fun z => by rw [z, htn] at ho; cases ho]; exact n) (fun b xs q => by rw [upd_ne (ne q)]; exact q) (fun b o u q => by rw [upd_ne (ne q)]; exact q)
      (fun b ps q => ⟨#[], by rw [upd_ne (ne q), q]; simp⟩)
  have J := I.call' (s' := { s with heap := h'' }) (ch := []) rfl u2 (hokB.kept k1) I.bare (fun _ z => nomatch z)
  obtain ⟨_, _, k2'⟩ := k2
  refine ⟨e, C, t, _, _, rfl, J.os, J.bare, J.base, hokB, fun b o hb nb => ?_, ⟨k1, PySem.W.hideAll_none _ List.mem_cons_self, k2', k3⟩, hE t tn⟩
  obtain ⟨o', e1⟩ := I.base.there b o hb (by show b ∉ []; simp)
  have nb' : b ∉ frs (cxOf (CX1 P w) P w K mg base N qual scope f cd A outer s₀ H₀ E).stack := fun z => by
    rcases mem_frs z with q | q
    · have q : s₀.heap.objs.size = b := Option.some.inj q
      exact absurd (Heap.lt_size hb) (by rw [q]; exact Nat.lt_irrefl _)
    · exact nb q
  refine ⟨(kB b o' e1 nb').1, fun n => ?_⟩
  exact (kB b o (I.base.keep b o hb n nb (by show b ∉ []; simp)) nb').2 (I.base.free b o hb n (by show b ∉ []; simp))
end
end L2

set_option Elab.async false
set_option linter.all false
set_option maxRecDepth 100000
namespace L2
open PySem PySem.Spec PyProof.Rows

/-! ### raise C(..), C an own class under ValueError -/
abbrev bmV : List Value := [.type "ValueError", .type "Exception", .type "BaseException", .type "object"]
abbrev ExcCls (K : PySem.W.Frag) (C : Addr) : Prop := PySem.W.excIn K C bmV "ValueError.__new__" = true

theorem exc_of {K : PySem.W.Frag} {h : Heap} {C : Addr} {bmB : List Value} {newId : String} (X : K.In h) (z : PySem.W.excIn K C bmB newId = true) :
    ∃ nm qn N bs bm hd sn sub ab col dd k0 k1 k2 k3 k5 mN, h.get? C = some (excClassObj nm qn C N bs bm hd sn sub ab col dd k0 k1 k2 k3 k5 newId) ∧ h.Ns N mN ∧ mN "__init__" = none ∧ OwnTail h bmB bm := by
  unfold PySem.W.excIn at z
  cases e : K.lookup C with
  | none => rw [e] at z; cases z
  | some o =>
    rw [e] at z
    obtain ⟨oc, od, data, sl⟩ := o
    split at z
    next dd cd sl' heq =>
      injection heq with heq
      cases heq
      split at z
      next C' bm a0 a1 a2 a3 n a5 hm hs =>
        rw [Bool.and_eq_true, Bool.and_eq_true, Bool.and_eq_true, Bool.and_eq_true, Bool.and_eq_true] at z
        obtain ⟨⟨⟨⟨⟨z1, z2⟩, z3⟩, z4⟩, z5⟩, z6⟩ := z
        obtain rfl := beq_iff_eq.mp z1
        obtain rfl := beq_iff_eq.mp z2
        have z6 := beq_iff_eq.mp z6
        cases cd with
        | mk nm bs mro ns qn hd sn sub ab col del =>
          have hm' : mro = _ := hm
          subst hm'
          cases del with
          | true => cases z3
          | false =>
            cases sl with
            | mk l =>
              have hs' : l = _ := hs
              subst hs'
              exact ⟨nm, qn, ns, bs, bm, hd, sn, sub, ab, col, od, a0, a1, a2, a3, a5, _, X _ _ e, .of_isNs (PySem.W.isNs_of_in X z5), PySem.W.nsMap_none_of_in X z5 z6, PySem.W.tail_of_in X z4⟩
      next => cases z
    next => cases z

/-- raise C(e, ..) -/
def tRaise (C : Addr) (E : XK) (t : TA) : TS := fun _ σ H => t σ H fun vs H1 => vs.length ≤ sizeLine ∧ ∀ p, H1 p = none → E (.ref C) (some p) (upd H1 p (.tup vs))
theorem ps_raise {X : Cx} {E : XK} {C : Addr} {x : Str} {np cpos pos : Pos} {e : Expr} {es : List Expr} {t : TA} (hR : Raises X E) (hh : X.A.handled = none) (hg : Gl X x) (hm : X.mg x = some (.ref C)) (q : ExcCls X.K C) (ha : PA X (e :: es) t)
    (hd : (x == ("__debug__" : Str)) = false := by decide) (he : starEach (e :: es) X.env = (false, eval e X.env) :: starEach es X.env := by rfl) (hpl : (backTo cpos (starEach es X.env)).any (·.1) = false := by rfl) :
    PS X (.Raise (some (.Call (.Name x np) (e :: es) [] cpos)) none pos) (tRaise C E t) := by
  intro pins s σ H D I h
  obtain ⟨nm, qn, Nn, bs, bm, hd', sn, sub, ab, col, dd, k0, k1, k2, k3, k5, mN, hC, hN, hni, T⟩ := exc_of I.mod.kin q
  refine wpAny_Raise_call_subT (C := C) (nm := nm) (q := qn) (N := Nn) (bs := bs) (bm := bm) (hdct := hd') (sn := sn) (sub := sub) (ab := ab) (col := col) (dd := dd) (k0 := k0) (k1 := k1) (k2 := k2) (k3 := k3) (k5 := k5)
    F.excBase_ValueError (mN := mN) (T.hasType F.excBase_ValueError.hasBase) hh ?_ hni (ld_glob I hg hm ⟨rfl, ?_⟩ hd)
  · rw [he]; show (false || (backTo cpos (starEach es X.env)).any (·.1)) = false; rw [hpl]; rfl
  · have h2 := ha cpos pins s σ H _ I h
    rw [he] at h2 ⊢
    refine Calls.evalArgs_plain (wpAny_mono h2 (fun us s₂ hh2 => ?_) fun _ _ y => y)
    obtain ⟨vs, H1, I1, rv, hz, hE⟩ := hh2
    exact ⟨rfl, by rw [← rv.length]; exact hz, I1.bk _ _ hC, hN.keeps I1.bk, T.keeps I1.bk, fun h' e hx => hR pins σ H1 s₂ h' e C us vs I1 hx rv hz hE⟩
theorem r_raise {C : Addr} {E : XK} {t : TA} {D : Ends} {σ : St} {H : Hp} (q : t σ H fun vs H1 => vs.length ≤ sizeLine ∧ ∀ p, H1 p = none → E (.ref C) (some p) (upd H1 p (.tup vs))) : tRaise C E t D σ H := q

/-! ### defs that may raise -/
/-- a def (or method) of the text, defaults and all -/
structure FunD (K : PySem.W.Frag) (x qual : Str) (st : Stmt) (f : Addr) (fd : FuncData) (dV : Value) : Prop where
  ex : ∃ (oc : Value) (od : Option Addr) (kV doc pm : Value) (an : Option Addr) (cdv ct : Value) (osl : Array (Option Value)),
    fd = PySem.W.fnOf x qual (defArgs st) (defBody st) (defScope st) dV kV doc pm an cdv ct ∧ K.lookup f = some ⟨oc, od, .func fd, osl⟩ ∧ PySem.W.codeIn K cdv qual = true
theorem Fun.d {K : PySem.W.Frag} {x qual : Str} {st : Stmt} {f : Addr} {fd : FuncData} (F : Fun K x qual st f fd) : FunD K x qual st f fd .none := ⟨F.ex⟩
section
variable {P : Program} {w : World} {K : PySem.W.Frag} {mg : Str → Option Value} {base : Heap}
theorem FunD.okX {x qual : Str} {st : Stmt} {f : Addr} {fd : FuncData} {dV : Value} {N ps : List Str} {k : Nat} {sp : Sp} (F : FunD K x qual st f fd dV) (S : FnScope N ps (defScope st)) (len : ∀ vs H Q E, sp vs H Q E → vs.length = ps.length)
    (hbody : ∀ (cdv : Value) (A : Around) (outer : List Env) (s : Shared) (H : Hp) (vs : List V) (Q : VK) (E : XK), Room k (A.deeper (envOfC qual (defScope st) s.heap.objs.size f cdv)) → sp vs H Q E →
      ∃ t, PSs (cxOf (CX1 P w) P w K mg base N qual (defScope st) f cdv A outer s H E) (defBody st) t ∧ t { nx := fun _ H' => Q .non H', rt := Q } (start N vs) H) : FnOk P w K mg base (CX1 P w) (k + 1) f fd ps sp := by
  obtain ⟨oc, od, kV, doc, pm, an, cdv, ct, osl, rfl, lk, hcd⟩ := F.ex
  exact fn_of lk hcd S len fun A outer s H vs Q E hr hsp => hbody cdv A outer s H vs Q E hr hsp
theorem FunD.ok {x qual : Str} {st : Stmt} {f : Addr} {fd : FuncData} {dV : Value} {N ps : List Str} {k : Nat} {sp : Sp} (F : FunD K x qual st f fd dV) (S : FnScope N ps (defScope st)) (len : ∀ vs H Q E, sp vs H Q E → vs.length = ps.length)
    (hbody : ∀ (cdv : Value) (A : Around) (outer : List Env) (s : Shared) (H : Hp) (vs : List V) (Q : VK) (E : XK), Room k (A.deeper (envOfC qual (defScope st) s.heap.objs.size f cdv)) → sp vs H Q E →
      ∃ t, PSs (cxOf CX0 P w K mg base N qual (defScope st) f cdv A outer s H E).nox (defBody st) t ∧ t { nx := fun _ H' => Q .non H', rt := Q } (start N vs) H) : FnOk P w K mg base CX0 (k + 1) f fd ps sp := by
  obtain ⟨oc, od, kV, doc, pm, an, cdv, ct, osl, rfl, lk, hcd⟩ := F.ex
  refine fn_of lk hcd S len fun A outer s H vs Q E hr hsp => ?_
  obtain ⟨t, h, q⟩ := hbody cdv A outer s H vs Q E hr hsp
  exact ⟨t, h.nox, q⟩
/-- a def that may raise, by its name -/
structure FnX (P : Program) (w : World) (K : PySem.W.Frag) (mg : Str → Option Value) (base : Heap) (x : Str) (k : Nat) (ps : List Str) (sp : Sp) : Prop where
  ex : ∃ f fd, FnOk P w K mg base (CX1 P w) k f fd ps sp ∧ mg x = some (.ref f) ∧ PySem.W.keepIn K (.ref f) = true ∧ Binds K fd ps []
/-- a method of the class at C; ds: the defaults that fill up -/
structure MtF (P : Program) (w : World) (K : PySem.W.Frag) (mg : Str → Option Value) (base : Heap) (CX : CXT) (C : Addr) (m : Str) (k : Nat) (ps : List Str) (dvs : List V) (sp : Sp) : Prop where
  ex : ∃ f fd ds, FnOk P w K mg base CX k f fd ps sp ∧ Meth K C m f ∧ Binds K fd ps ds ∧ Vals dvs ds
/-- the making of an instance of the class at C -/
structure MkF (P : Program) (w : World) (K : PySem.W.Frag) (mg : Str → Option Value) (base : Heap) (C : Addr) (k : Nat) (ps : List Str) (dvs : List V) (sp : Sp) : Prop where
  ex : ∃ f fd ds, FnOk P w K mg base CX0 k f fd ps sp ∧ Mk K C f ∧ Binds K fd ps ds ∧ Vals dvs ds
end
section
variable {X : Cx} {k : Nat} {ps : List Str} {sp : Sp} {x m : Str} {C : Addr} {p pos apos : Pos} {e o : Expr} {es : List Expr} {ta : TE} {t : TA} {E : XK} {CX : CXT} {dvs : List V}
theorem pe_fnX {j : Nat} (F : FnX X.prog X.w X.K X.mg X.base x k ps sp) (hr : Room j X.A) (hj : k ≤ j) (hp : Passes (CX1 X.prog X.w) X E) (hg : Gl X x) (ha : PA X (e :: es) t) (hdb : (x == ("__debug__" : Str)) = false := by decide)
    (he : starEach (e :: es) X.env = (false, eval e X.env) :: starEach es X.env := by rfl) (hpl : (backTo pos (starEach es X.env)).any (·.1) = false := by rfl) :
    PE X (.Call (.Name x p) (e :: es) [] pos) (tCall sp [] E t) := by
  obtain ⟨f, fd, G, hm, hk, hb⟩ := F.ex
  exact pe_call G (hr.mono hj) hg hm hk hb .nil hp ha hdb he hpl
theorem pe_mk {j : Nat} (F : MkF X.prog X.w X.K X.mg X.base C k ps dvs sp) (hr : Room j X.A) (hj : k + 1 ≤ j) (hg : Gl X x) (hm : X.mg x = some (.ref C)) (ha : PA X (e :: es) t) (hdb : (x == ("__debug__" : Str)) = false := by decide)
    (he : starEach (e :: es) X.env = (false, eval e X.env) :: starEach es X.env := by rfl) (hpl : (backTo pos (starEach es X.env)).any (·.1) = false := by rfl) : PE X (.Call (.Name x p) (e :: es) [] pos) (tMake C sp dvs E0 t) := by
  obtain ⟨f, fd, ds, G, M, hb, hd⟩ := F.ex
  exact pe_make M G (hr.mono hj) hg hm hb hd pass0 ha hdb he hpl
theorem pe_mt {pl : Sem Bool} {j : Nat} (F : MtF X.prog X.w X.K X.mg X.base CX C m k ps dvs sp) (c : Cls X.K C) (hr : Room j X.A) (hj : k ≤ j) (hp : Passes CX X E) (he : PE X o ta) (ha : PA X (e :: es) t)
    (hst : starEach (e :: es) X.env = (false, eval e X.env) :: starEach es X.env := by rfl) (hpl : (backTo pos (starEach es X.env)).any (·.1) = false := by rfl)
    (ht : eval (.Call (.Attribute o m apos) (e :: es) [] pos) X.env = (do
      let ov ← eval o X.env
      standAt apos.atName
      let (f, first) ← holding [ov] (getMethod ov m pl)
      callWith pos f first (backTo pos (starEach (e :: es) X.env)) (backToKw pos (keywordEach [] X.env))) := by rfl) :
    PE X (.Call (.Attribute o m apos) (e :: es) [] pos) (tMeth C m sp dvs E ta t) := by
  obtain ⟨f, fd, ds, G, hm, hb, hd⟩ := F.ex
  exact pe_meth he c hm G (hr.mono hj) hb hd hp ha hst hpl ht
theorem pe_mt0 {pl : Sem Bool} {j : Nat} (F : MtF X.prog X.w X.K X.mg X.base CX C m k ps dvs sp) (c : Cls X.K C) (hr : Room j X.A) (hj : k ≤ j) (hp : Passes CX X E) (he : PE X o ta)
    (ht : eval (.Call (.Attribute o m apos) [] [] pos) X.env = (do
      let ov ← eval o X.env
      standAt apos.atName
      let (f, first) ← holding [ov] (getMethod ov m pl)
      callWith pos f first (backTo pos (starEach [] X.env)) (backToKw pos (keywordEach [] X.env))) := by rfl) :
    PE X (.Call (.Attribute o m apos) [] [] pos) (tMeth C m sp dvs E ta tNil) := by
  obtain ⟨f, fd, ds, G, hm, hb, hd⟩ := F.ex
  exact pe_meth0 he c hm G (hr.mono hj) hb hd hp ht
end
theorem hu4 {k : Nat} {A : Around} (hr : Room k A) : A.units + 4 < cLine := by have := hr.units; omega
end L2

set_option Elab.async false
set_option linter.all false
set_option maxRecDepth 100000
namespace L2
open PySem PySem.Spec PyProof.Rows

/-! ### try: body / except D as n: suite -/
/-- within the suite: the exception e is handled -/
def Cx.suite (X : Cx) (pn : List (Addr × Obj)) (e : Addr) : Cx := { X with A := X.A.mark (some (.ref e)), calm := false, pn := pn, xe := fun _ _ => False }
theorem Cx.Ok.suite {X : Cx} (ok : X.Ok) (pn : List (Addr × Obj)) (e : Addr) : (X.suite pn e).Ok :=
  ⟨ok.mod, ok.kind, ok.glob, ok.blt, ok.above, ok.inj, ok.has, ok.cab, (fun z => nomatch z), ok.frames, ok.stk, ok.exf, ok.bs, ok.bsz, ok.noex, ok.exfs, ok.funs, ok.frf⟩
section
variable {X : Cx} {pins pn : List (Addr × Obj)} {σ : St} {H : Hp} {s : Shared} {e : Addr} {xe : Value → Shared → Prop}
theorem Inv.suite (I : Inv X pins σ H s) (hp : ∀ p ∈ pn, s.heap.get? p.1 = some p.2 ∧ H p.1 = none ∧ p.1 ≠ X.env.locals ∧ p.1 ∉ X.fs ∧ ∀ v, p.2.data ≠ .cell v) : Inv (X.suite pn e) [] σ H s :=
  ⟨I.ok.suite pn e, I.os, I.bare, I.base, I.loc, I.cell, I.free, I.freeC, fun p h => hp p (by have h : p ∈ pn ++ [] := h; simpa using h), I.hok, I.len⟩
theorem Inv.unsuite {ps : List (Addr × Obj)} (ok : X.Ok) (I : Inv (X.suite pn e) ps σ H s) (hp : ∀ p ∈ X.pn ++ pins, p ∈ pn) : Inv X pins σ H s :=
  ⟨ok, I.os, I.bare, I.base, I.loc, I.cell, I.free, I.freeC, fun p h => I.pin p (List.mem_append_left _ (hp p h)), I.hok, I.len⟩
/-- the body's context -/
abbrev Cx.tried (X : Cx) (pn : List (Addr × Obj)) (xe : Value → Shared → Prop) : Cx := { X with pn := pn, xe := xe }
theorem Cx.Ok.tried {X : Cx} (ok : X.Ok) : (X.tried pn xe).Ok :=
  ⟨ok.mod, ok.kind, ok.glob, ok.blt, ok.above, ok.inj, ok.has, ok.cab, ok.hd, ok.frames, ok.stk, ok.exf, ok.bs, ok.bsz, ok.noex, ok.exfs, ok.funs, ok.frf⟩
theorem Inv.tried (I : Inv X pins σ H s) : Inv (X.tried (X.pn ++ pins) xe) [] σ H s :=
  ⟨I.ok.tried, I.os, I.bare, I.base, I.loc, I.cell, I.free, I.freeC, fun p h => I.pin p (by simpa using h), I.hok, I.len⟩
theorem Inv.untried {ps : List (Addr × Obj)} (ok : X.Ok) (I : Inv (X.tried (X.pn ++ pins) xe) ps σ H s) : Inv X pins σ H s :=
  ⟨ok, I.os, I.bare, I.base, I.loc, I.cell, I.free, I.freeC, fun p h => I.pin p (List.mem_append_left _ h), I.hok, I.len⟩
end

/-- the suite's ends: the name is gone behind it -/
def Ends.un (D : Ends) (i : Nat) : Ends := { nx := fun σ H => D.nx (σ.set i none) H, rt := D.rt, bk := fun σ H => D.bk (σ.set i none) H, ct := fun σ H => D.ct (σ.set i none) H }
/-- the names' values at the suite: nothing is known but the exception -/
def exSt (n i : Nat) (e : Addr) : St := (List.replicate n none).set i (some (.ref e))
/-- the exception, as the suite sees it: its address e, its class, its arguments' tuple -/
def tTry (n i : Nat) (Cs : List Addr) (tb : XK → TS) (ts : Addr → Addr → Addr → TS) : TS := fun D σ H =>
  tb (fun cls t H' => ∃ C p, cls = .ref C ∧ t = some p ∧ C ∈ Cs ∧ ∀ e, H' e = none → ts e C p (D.un i) (exSt n i e) H') D σ H

theorem unbind_ok {X : Cx} {pins : List (Addr × Obj)} {σ : St} {H : Hp} {s : Shared} {M : Model} {A : Around} {E : Value → Shared → Prop} {i : Nat} {x : Str} {pos : Pos} {Q : Unit → Shared → Prop} (I : Inv X pins σ H s) (hN : X.N.Nodup) (hi : X.N[i]? = some x)
    (hx : X.env.scope.names.lookup x = some .local) (h : ∀ s', Inv X pins (σ.set i none) H s' → Q () s') : wpAny M A (do bindName X.env x .none; unbindBehindTheSuite X.env x pos) Q E s := by
  have hcls : (X.env.scope.kind == .class || (X.env.scope.kind == .module && X.env.locals != X.env.globals)) = false := by rw [I.ok.kind]; rfl
  refine wpAny_bind (wpAny_bindName (store_ok2 (v := .non) I hN hi (.inl hx) rfl (fun s1 I1 _ => ?_) (.inr hx)))
  have hiσ : i < σ.length := by rw [I.len]; exact (List.getElem?_eq_some_iff.mp hi).1
  obtain ⟨m, hn, hl⟩ := id I1.loc
  obtain ⟨u, ru, lk⟩ := hl i x .non hi (List.getElem?_set_self hiσ) (.inl hx)
  have hm : m x = some u := by
    rcases lk with ⟨_, q⟩ | ⟨k, _⟩
    · exact q
    · rcases k with k | k <;> (rw [show X.env.kindOf x = some .local from hx] at k; cases k)
  unfold unbindBehindTheSuite
  refine wpAny_onRaise ?_
  refine wpAny_unbindName_local hx hn hm hcls fun h' u' hn' hs => ?_
  refine h _ ?_
  have cne := I1.cne
  obtain ⟨oL, _, _, hoL, _⟩ := id hn
  refine ⟨I1.ok, I1.os, I1.bare, ⟨fun b o e n hb hx' => ?_, fun b o e n hb hx' => ?_, I1.base.free, fun b o e hx' => ?_, I1.base.tups, I1.base.frzs, I1.base.tbls⟩, ⟨_, hn', fun j y v' e1 e2 e3 => ?_⟩, fun y c e => ?_, I1.free, I1.freeC, fun p hp => ?_, fun b ob e => ?_, by rw [List.length_set]; exact I.len⟩
  · exact (hs.2 b (Nat.ne_of_lt (Nat.lt_of_lt_of_le (Heap.lt_size e) I1.ok.above))).trans (I1.base.keep b o e n hb hx')
  · obtain ⟨sl, q⟩ := I1.base.slot b o e n hb hx'
    exact ⟨sl, (hs.2 b (Nat.ne_of_lt (Nat.lt_of_lt_of_le (Heap.lt_size e) I1.ok.above))).trans q⟩
  · obtain ⟨o', q⟩ := I1.base.there b o e hx'
    exact ⟨o', (hs.2 b (Nat.ne_of_lt (Nat.lt_of_lt_of_le (Heap.lt_size e) I1.ok.above))).trans q⟩
  · have hj : j ≠ i := fun z => by
      subst z
      rw [List.getElem?_set_self hiσ] at e2
      cases e2
    rw [List.getElem?_set_ne (Ne.symm hj)] at e2
    obtain ⟨w', r', q⟩ := hl j y v' e1 (by rw [List.getElem?_set_ne (Ne.symm hj)]; exact e2) e3
    refine ⟨w', r', ?_⟩
    rcases q with ⟨k, e⟩ | ⟨k, c, e, z⟩
    · refine .inl ⟨k, ?_⟩
      have : y ≠ x := fun e => hj (nodup_ix hN e1 (e ▸ hi))
      simp [this, e]
    · exact .inr ⟨k, c, e, z.sameBut hs (cne y c e)⟩
  · obtain ⟨w', z⟩ := I1.cell y c e
    exact ⟨w', z.sameBut hs (cne y c e)⟩
  · obtain ⟨e, n, ne, nf, d⟩ := I1.pin p hp
    exact ⟨(hs.2 p.1 ne).trans e, n, ne, nf, d⟩
  · refine (I1.hok b ob e).stay (fun c w' hc q => (hs.2 c ?_).trans q) (fun _ q => q) fun _ _ q => q
    rintro rfl
    rcases hc with rfl | hc
    · rw [I1.free] at e; cases e
    · rw [I1.free] at hc; cases hc

theorem ps_try {X : Cx} {i : Nat} {n x : Str} {D0 : Addr} {Cs : List Addr} {body suite : List Stmt} {b₀ : Stmt} {np hpos pos : Pos} {tb : XK → TS} {ts : Addr → Addr → Addr → TS} (hst : X.stack = X.env :: X.outer) (hN : X.N.Nodup) (hi : X.N[i]? = some n) (hloc : X.env.scope.names.lookup n = some .local)
    (hg : Gl X x) (hm : X.mg x = some (.ref D0)) (hx : ∀ C ∈ Cs, PySem.W.exmOne X.K (.ref C) (.ref D0) = some true)
    (hb : ∀ (pn : List (Addr × Obj)) (xe : Value → Shared → Prop) (E : XK), Passes (CX1 X.prog X.w) (X.tried pn xe) E → PSs (X.tried pn xe) body (tb E))
    (hs : ∀ (pn : List (Addr × Obj)) (e C p : Addr) (oe : Obj), C ∈ Cs → (e, oe) ∈ pn → oe.cls = .ref C → PSs (X.suite pn e) (b₀ :: suite) (ts e C p))
    (hd : (x == ("__debug__" : Str)) = false := by decide) :
    PS X (.Try body [.ExceptHandler (some (.Name x np)) (some n) (b₀ :: suite) hpos] [] [] pos) (tTry X.N.length i Cs tb ts) := by
  intro pins s σ H D I h
  have ok := I.ok
  have hfr : X.env.frame = some X.env.locals := by
    rcases ok.stk with e | ⟨_, e⟩
    · rw [hst] at e
      exact absurd (congrArg List.length e) (by simp)
    · exact e
  refine wpAny_Try_except ?_
  refine wpAny_mono (hb (X.pn ++ pins) (fun e s₁ => wpAny (model X.prog X.w) X.A (noteFrame e X.env) (fun _ s₂ => wpAny (model X.prog X.w) X.A (setFlight e none)
      (fun _ s₃ => wpAny (model X.prog X.w) X.A (handleBy e X.env [.ExceptHandler (some (.Name x np)) (some n) (b₀ :: suite) hpos]) (SP X pins D) X.xe s₃) X.xe s₂) X.xe s₁) _ ?_ [] s σ H D I.tried h) (fun f s1 q => ?_) (fun _ _ q => q)
  · intro pins' σ' H1 s1 e s' I1 ⟨a, C, t, H', B, he, os, bare, un, hok, kB, fl, C', p, hC', hp', hCs, hE⟩
    subst he
    cases hC'
    cases hp'
    have J1 : Inv X pins σ' H1 s1 := I1.untried ok
    have fl1 : Heap.FlyingW B (X.env :: X.outer) a (.ref C) (.ref t) s'.heap := hst ▸ fl
    have frs1 : X.A.frames = some (X.env :: X.outer) := hst ▸ ok.frames
    show wpAny (model X.prog X.w) X.A (noteFrame (.ref a) X.env) _ X.xe s'
    refine wpAny_looks_onW (base := B) frs1 hfr fl1 fun h4 held4 up4 => ?_
    refine wpAny_landsW held4 fun h5 fl5 up5 => ?_
    have st := J1.stack
    have frB : ∀ {h6 : Heap}, s'.heap.UpToSlots h6 → ∀ b o, s1.heap.get? b = some o → b ∈ frs X.stack → ∃ sl, h6.get? b = some { o with slots := sl } := fun {h6} up b o ho hb => by
      obtain ⟨_, o', ho', hdd⟩ := st.mem hb
      rw [ho] at ho'; cases ho'
      obtain ⟨sl, q⟩ := un.slot b o ho (J1.stkFree b hb) hb (by simp)
      obtain ⟨sl', q'⟩ := up b _ q hdd
      exact ⟨sl', q'⟩
    have an : H' a = none := hok.none_of fl.2.1
    have mkI : ∀ {h6 : Heap} {tk : Nat}, B.StaysIn h6 → s'.heap.UpToSlots h6 → Inv X pins σ' H' { s' with heap := h6, toks := tk } := fun {h6 tk} sb up =>
      J1.call' (s' := { s' with heap := h6, toks := tk }) (ch := []) os (un_fly kB sb (frB up) (fun b o e n => un.free b o e n (by simp)) un.tups un.frzs un.tbls) (hok.kept sb) bare (fun _ z => nomatch z)
    have J5 := mkI (tk := s'.toks) fl5.1 (up4.trans up5)
    refine wpAny_handleBy_cons (codeAny_handlers_test ?_) (by intro q; cases q)
    have J5m : Inv (X.suite X.pn a) [] σ' H' { s' with heap := h5 } := J5.suite fun p hp => J5.pin p (List.mem_append_left _ hp)
    refine ld_glob (X := X.suite X.pn a) J5m hg hm ?_ hd
    obtain ⟨ob, hob, hobc⟩ := fl5.there
    have LT : PySem.W.Looks (model X.prog X.w) h5 (typeOf (.ref a)) (.ref C) := hobc ▸ (PySem.W.Looks.ld hob).andThen .now
    refine (PySem.W.exm_one J5.kIn LT (hx C hCs)).here ?_
    dsimp only [if_true]
    refine codeAny_handlers_suite_as ?_
    refine lands_againW fl5 fun h6 fl6 up6 => ?_
    have J6 := mkI (tk := s'.toks) fl6.1 ((up4.trans up5).trans up6)
    obtain ⟨oe, ws, hoe, hoec, hoed, _⟩ := fl6.first
    have aL : a ≠ X.env.locals := fun z => by
      obtain ⟨m, ⟨oL, es, ep, hoL, hdL, _⟩, _⟩ := J6.loc
      have hoe : h6.get? a = some oe := hoe
      have hoL : h6.get? X.env.locals = some oL := hoL
      rw [z, hoL] at hoe; cases hoe
      rw [hdL] at hoed; cases hoed
    have aF : a ∉ X.fs := fun z => by
      obtain ⟨_, o', ho', hdd⟩ := J6.funs.mem z
      have hoe : h6.get? a = some oe := hoe
      have ho' : h6.get? a = some o' := ho'
      rw [ho'] at hoe; cases hoe
      exact hdd ws hoed
    have K6 : Inv (X.suite (X.pn ++ pins ++ [(a, oe)]) a) [] σ' H' { s' with heap := h6 } := J6.suite fun p hp => by
      rcases List.mem_append.mp hp with hp | hp
      · exact J6.pin p hp
      · obtain rfl := List.mem_singleton.mp hp
        exact ⟨hoe, an, aL, aF, fun v q => by rw [hoed] at q; cases q⟩
    have hiσ : i < X.N.length := (List.getElem?_eq_some_iff.mp hi).1
    have K6' : Inv (X.suite (X.pn ++ pins ++ [(a, oe)]) a) [] (List.replicate X.N.length none) H' { s' with heap := h6 } := K6.weak (by rw [List.length_replicate]; exact J6.len.symm) fun j v q => by
      rw [List.getElem?_replicate] at q
      split at q <;> cases q
    refine store_ok2 (X := X.suite (X.pn ++ pins ++ [(a, oe)]) a) (i := i) (v := .ref a) K6' hN hi (.inl hloc) rfl (fun s7 J7 _ => ?_) (.inr hloc)
    refine wpAny_mono (hs _ a C t oe hCs (List.mem_append_right _ List.mem_cons_self) hoec [] s7 _ H' (D.un i) J7 (hE a an)) (fun f s8 q => ?_) (fun _ _ q => False.elim q)
    have back : ∀ {ps σ8 H8}, Inv (X.suite (X.pn ++ pins ++ [(a, oe)]) a) ps σ8 H8 s8 → Inv X pins σ8 H8 s8 := fun J8 => J8.unsuite ok fun p hp => List.mem_append_left _ hp
    cases f with
    | next =>
      obtain ⟨σ8, H8, J8, q8⟩ := q
      exact unbind_ok (back J8) hN hi hloc fun s9 J9 => ⟨_, H8, J9, q8⟩
    | brk =>
      obtain ⟨σ8, H8, J8, q8⟩ := q
      exact unbind_ok (back J8) hN hi hloc fun s9 J9 => ⟨_, H8, J9, q8⟩
    | cont =>
      obtain ⟨σ8, H8, J8, q8⟩ := q
      exact unbind_ok (back J8) hN hi hloc fun s9 J9 => ⟨_, H8, J9, q8⟩
    | ret u =>
      obtain ⟨v, σ8, H8, J8, rv, q8⟩ := q
      exact unbind_ok (back J8) hN hi hloc fun s9 J9 => ⟨v, _, H8, J9, rv, q8⟩
  · cases f with
    | next =>
      obtain ⟨σ', H', J, q⟩ := q
      exact wpAny_execs_nil ⟨σ', H', J.untried ok, q⟩
    | brk =>
      obtain ⟨σ', H', J, q⟩ := q
      exact ⟨σ', H', J.untried ok, q⟩
    | cont =>
      obtain ⟨σ', H', J, q⟩ := q
      exact ⟨σ', H', J.untried ok, q⟩
    | ret u =>
      obtain ⟨v, σ', H', J, rv, q⟩ := q
      exact ⟨v, σ', H', J.untried ok, rv, q⟩
theorem r_try {n i : Nat} {Cs : List Addr} {tb : XK → TS} {ts : Addr → Addr → Addr → TS} {D : Ends} {σ : St} {H : Hp} (q : tb (fun cls t H' => ∃ C p, cls = .ref C ∧ t = some p ∧ C ∈ Cs ∧ ∀ e, H' e = none → ts e C p (D.un i) (exSt n i e) H') D σ H) :
    tTry n i Cs tb ts D σ H := q
end L2

set_option Elab.async false
set_option linter.all false
set_option maxRecDepth 100000
namespace L2
open PySem PySem.Spec PyProof.Rows PySem.W PySem.Builtin PySem.Builtin.ObjectAttr PySem.Builtin.Getset_descriptor

/-! ### isinstance(e, D) of a caught exception: nothing is known of its own dict -/
def IsOf (x C : Addr) (h : Heap) : Prop := ∃ o, h.get? x = some o ∧ o.cls = .ref C
theorem IsOf.looks {M : Model} {h : Heap} {x C : Addr} (p : IsOf x C h) : Looks M h (typeOf (.ref x)) (.ref C) := by
  obtain ⟨o, h1, h2⟩ := p
  exact h2 ▸ (Looks.ld h1).andThen .now
/-- what the class of an exception must have -/
structure XCls (K : Frag) (D : Addr) : Prop where
  ga : findIn K (.ref D) "__getattribute__" = some (some (.builtin "BaseException.__getattribute__"))
  gt : findIn K (.ref D) "__getattr__" = some none
  hd : hasDictIn K D = true
  ca : findIn K (.ref D) "__class__" = some (some (.builtin "object.__class__"))
  sp : specialIn K (.builtin "object.__class__") "__get__" = some (some (.builtin "getset_descriptor.__get__"))
  tk : takesIn K (.builtin "object.__class__") = some true
  mo : mroIn K D (.type "object") = some true
  mb : mroIn K D (.type "BaseException") = some true
section
variable {prog : Program} {w : World} {A : Around} {E : Value → Shared → Prop} {s : Shared} {K : Frag} {x D : Addr}
theorem find_cls {M : Model} {h : Heap} (X : K.In h) (c : XCls K D) : Looks M h (find (.ref x) (.ref D) "__class__") (.bind (.builtin "getset_descriptor.__get__") (.builtin "object.__class__")) :=
  (looks_findIn X c.ca).andThen ((looks_specialIn X c.sp).andThen ((show Looks M h (dataDescriptor? (some (.builtin "object.__class__")) (some (.builtin "getset_descriptor.__get__"))) (some (.builtin "getset_descriptor.__get__", .builtin "object.__class__")) from (looks_takesIn X c.tk).andThen .now).andThen (Looks.tag .now)))
theorem cls_run {R : Result → Shared → Prop} {tp : Value} (X : K.In s.heap) (p : IsOf x D s.heap) (c : XCls K D) (q : R (.ok (.ret (.ref D))) s) :
    codeAny (model prog w) A (.call (.builtin "getset_descriptor.__get__") ⟨[.builtin "object.__class__", .ref x, tp], []⟩) R s := by
  have T0 := p.looks (M := model prog w)
  have T1 := looks_mroIn (M := model prog w) X c.mo
  cases s with
  | mk hh g dr t os =>
    refine codeAny_call_builtin KF.slot_gs.plain KF.entry_gs ?_
    refine KF.slot_gs.check _ _ _ _ _ _ _ _ KF.type_class (KF.args_gs _ _ _) ?_
    unfold Builtin.«getset_descriptor.__get__»
    unfold descrGet
    rw [dga_obj]
    refine wpAny_bind (wpAny_pure ?_)
    unfold descrGetter
    unfold descrCheckInstance descrNameAndClass
    unfold isInstance
    simp only [KF.owner_class]
    repeat lk
    refine ⟨Code.quiet_builtin _ (by decide +kernel), ?_⟩
    refine codeAny_builtin KF.entry_class ?_
    unfold Builtin.«object.__class__»
    unfold shownTypeOf
    repeat lk
    exact q
theorem cls_entry {tk : Tok} {Q : Fin → Shared → Prop} (X : K.In s.heap) (p : IsOf x D s.heap) (c : XCls K D) (q : Q (.done (.ret (.ref D))) s) :
    wpAny (model prog w) A (Builtin.«object.__getattribute__» ⟨[.ref x, .str "__class__" tk], []⟩) Q E s := by
  have T0 := p.looks (M := model prog w)
  have T2 := find_cls (M := model prog w) (x := x) X c
  cases s with
  | mk hh gg d t os =>
    refine wpAny_bind (wpAny_pure ?_)
    refine wpAny_bind (wpAny_pure ?_)
    refine wpAny_bind (T0.at (wpAny_bind (T2.at ?_)))
    show wpAny _ _ (holding [.builtin "object.__class__"] (call (.builtin "getset_descriptor.__get__") [.builtin "object.__class__", .ref x, .ref D]) >>= ret) _ _ _
    refine wpAny_bind (wpAny_holding (wpAny_call (cls_run (s := ⟨hh, gg, d, t, os⟩) X p c ?_)))
    exact wpAny_pure q
theorem cls_check {nameV : Value} {Q : Unit → Shared → Prop} (X : K.In s.heap) (p : IsOf x D s.heap) (c : XCls K D) (q : Q () s) :
    wpAny (model prog w) A (checkBuiltinCall "BaseException.__getattribute__" ⟨[.ref x, nameV], []⟩) Q E s := by
  have T0 := p.looks (M := model prog w)
  have T1 := looks_mroIn (M := model prog w) X c.mb
  have k1 : builtinKind "BaseException.__getattribute__" = some .slot := by decide +kernel
  have k2 : splitId "BaseException.__getattribute__" = some ("BaseException", "__getattribute__") := by decide +kernel
  have k3 := F.args_bexc_ga (.ref x) nameV
  cases s with
  | mk hh gg d t os =>
    simp only [checkBuiltinCall, k1, k2]
    refine wpAny_bind ?_
    unfold isInstance
    repeat (first | lk | wp_step)
    exact q
theorem cls_call {tk : Tok} {R : Result → Shared → Prop} (X : K.In s.heap) (p : IsOf x D s.heap) (c : XCls K D) (q : R (.ok (.ret (.ref D))) s) :
    codeAny (model prog w) A (.call (.builtin "BaseException.__getattribute__") ⟨[.ref x, .str "__class__" tk], []⟩) R s :=
  codeAny_call_builtin F.excAttr_ValueError.ga.plain F.entry_bexc_ga (cls_check X p c (cls_entry X p c q))
theorem cls_by {tk : Tok} {Q : Value → Shared → Prop} (X : K.In s.heap) (p : IsOf x D s.heap) (c : XCls K D) (q : Q (.ref D) s) : wpAny (model prog w) A (getAttrBy (.ref x) (.str "__class__" tk) false) Q E s := by
  have T0 := p.looks (M := model prog w)
  have T1 := looks_findIn (M := model prog w) X c.ga
  have T3 := looks_findIn (M := model prog w) X c.gt
  have f3 := F.excAttr_ValueError.ga.bind (.ref x)
  have n1 : (Value.builtin "BaseException.__getattribute__" == Value.builtin "object.__getattribute__") = false := by decide +kernel
  cases s with
  | mk hh g d t os =>
    unfold getAttrBy
    refine wpAny_holding ?_
    refine wpAny_bind (T0.at (wpAny_bind (T1.at ?_)))
    dsimp only
    rw [n1, Bool.and_false, if_neg Bool.false_ne_true]
    unfold getAttrByItsOwn
    unfold hookBefore
    refine wpAny_bind ?_
    rw [if_pos (show onTheHeap (.ref D) = true from rfl)]
    refine T3.at ?_
    refine wpAny_bind (wpAny_attempt (wpAny_holding ?_))
    unfold callGetattribute
    rw [Bool.false_and, if_neg Bool.false_ne_true]
    unfold boundAndCalled
    rw [f3]
    refine wpAny_bind (wpAny_pure ?_)
    refine wpAny_call (cls_call (s := ⟨hh, g, d, t, os⟩) X p c ?_)
    exact handed_on rfl q
theorem cls_attr {Q : Option Value → Shared → Prop} (X : K.In s.heap) (p : IsOf x D s.heap) (c : XCls K D) (q : Q (some (.ref D)) { s with toks := s.toks + 1 }) : wpAny (model prog w) A (getAttr? (.ref x) "__class__") Q E s := by
  unfold getAttr?
  unfold getAttrBy?
  refine wpAny_bind (wpAny_mkText ?_)
  refine wpAny_bind (wpAny_attempt (cls_by (s := { s with toks := s.toks + 1 }) X p c ?_))
  exact wpAny_pure q
theorem kitx_exc (c : XCls K D) : KitX K (.ref x) (.ref D) (IsOf x D) where
  ty := fun _ _ _ p => p.looks
  it := fun M h X p => by
    obtain ⟨cd, hc, _⟩ := any_some c.hd
    unfold clsIn at hc
    split at hc
    next c1 d1 cd1 sl1 ho =>
      intro A' Q' E' s' k q
      unfold isType
      unfold loadHead
      exact wpAny_bind (wpAny_loadPart (k _ _ (X _ _ ho)) (wpAny_pure q))
    next => cases hc
  ne := fun h tp dd its n sl X htp => by
    obtain ⟨cd, hc, _⟩ := any_some c.hd
    cases q : (Value.ref D == Value.ref tp) with
    | false => rfl
    | true =>
      have e : D = tp := Value.ref.inj (beq_iff_eq.mp q)
      subst e
      unfold clsIn at hc
      split at hc
      next c1 d1 cd1 sl1 ho =>
        have z := (X _ _ ho).symm.trans htp
        cases z
      next => cases hc
  ca := fun X p k => cls_attr X p c k
end
end L2

set_option Elab.async false
set_option linter.all false
set_option maxRecDepth 100000
namespace L2
open PySem PySem.Spec PyProof.Rows

/-! ### zip of three lists of one length -/
abbrev t3 (a b c : Value) : Obj := { cls := .type "tuple", data := .seq #[a, b, c] }
structure Ap3 (z TI TO i1 i2 i3 l1 l2 l3 : Addr) : Prop where
  nd : [z, TI, TO, i1, i2, i3].Nodup
  n1 : l1 ∉ [z, TO, i1, i2, i3]
  n2 : l2 ∉ [z, TO, i1, i2, i3]
  n3 : l3 ∉ [z, TO, i1, i2, i3]
structure Z3 (h : Heap) (z TI TO i1 i2 i3 l1 l2 l3 : Addr) (f0 : Value) (k : Nat) : Prop where
  hz : IsZip h z TI TO f0
  hTI : h.get? TI = some (t3 (.ref i1) (.ref i2) (.ref i3))
  hTO : ∃ a b c, h.get? TO = some (t3 a b c)
  it1 : h.IsListIter i1 l1 k
  it2 : h.IsListIter i2 l2 k
  it3 : h.IsListIter i3 l3 k
structure L3 (h : Heap) (l1 l2 l3 : Addr) (xs ys zs : Array Value) : Prop where
  p1 : h.IsList l1 xs
  p2 : h.IsList l2 ys
  p3 : h.IsList l3 zs
theorem L3.mono {h h' : Heap} {l1 l2 l3 : Addr} {xs ys zs : Array Value} (L : L3 h l1 l2 l3 xs ys zs) (k : ∀ c o, c = l1 ∨ c = l2 ∨ c = l3 → h.get? c = some o → h'.get? c = some o) : L3 h' l1 l2 l3 xs ys zs :=
  ⟨L.p1.at fun o e => k l1 o (.inl rfl) e, L.p2.at fun o e => k l2 o (.inr (.inl rfl)) e, L.p3.at fun o e => k l3 o (.inr (.inr rfl)) e⟩
theorem upd3 {prog : Program} {w : World} {A : Around} {E : Value → Shared → Prop} {s : Shared} {T : Addr} {a b c x : Value} {k : Nat} {Q : Unit → Shared → Prop} (hT : s.heap.get? T = some (t3 a b c))
    (h : ∀ h', h'.get? T = some { cls := .type "tuple", data := .seq ((#[a, b, c] : Array Value).setIfInBounds k x) } → Heap.SameBut T s.heap h' → Q () { s with heap := h' }) : wpAny (model prog w) A (updateSeq T (·.setIfInBounds k x)) Q E s := by
  refine wpAny_updateSeq hT rfl ?_
  refine h _ ?_ (Heap.SameBut.update ..)
  rw [Heap.get?_update_self _ hT rfl]
  simp [Obj.mapSeq]

section
variable {prog : Program} {w : World} {A : Around} {E : Value → Shared → Prop} {s : Shared} {z TI TO i1 i2 i3 l1 l2 l3 : Addr} {k : Nat} {xs ys zs : Array Value}
theorem zip3_item {x y u : Value} {Q : Value → Shared → Prop} (D : Ap3 z TI TO i1 i2 i3 l1 l2 l3) (S : Z3 s.heap z TI TO i1 i2 i3 l1 l2 l3 .none k) (L : L3 s.heap l1 l2 l3 xs ys zs)
    (hx : xs[k]? = some x) (hy : ys[k]? = some y) (hu : zs[k]? = some u)
    (hQ : ∀ h', Z3 h' z TI TO i1 i2 i3 l1 l2 l3 (rawInt s.heap.objs.size) (k + 1) → h'.get? s.heap.objs.size = some (t3 x y u) → (∀ c o, c ∉ [z, TO, i1, i2, i3] → s.heap.get? c = some o → h'.get? c = some o) →
      Q (.ref s.heap.objs.size) { s with heap := h' }) :
    wpAny (model prog w) A (Builtin.«zip.__next__» ⟨[.ref z], []⟩) (fun fin s' => ∃ v, fin = .done (.ret v) ∧ Q v s') E s := by
  obtain ⟨nd, n1, n2, n3⟩ := D
  simp only [List.nodup_cons, List.mem_cons, List.not_mem_nil, or_false, not_or] at nd n1 n2 n3
  obtain ⟨⟨zI, zO, z1, z2, z3⟩, ⟨IO, I1, I2, I3⟩, ⟨O1, O2, O3⟩, ⟨i12, i13⟩, i23, _⟩ := nd
  obtain ⟨hz, hTI, ⟨a, b, c, hTO⟩, it1, it2, it3⟩ := S
  show wpAny _ _ (field (.ref z) 2 >>= _) _ _ _
  refine wpAny_bind (wpAny_field hz rfl (x := .bool false) rfl ?_)
  show wpAny _ _ (field (.ref z) 3 >>= _) _ _ _
  refine wpAny_bind (wpAny_field hz rfl (x := .ref TI) rfl ?_)
  refine wpAny_bind (wpAny_seqItems hTI rfl ?_)
  show wpAny _ _ (Builtin.SmallTypes.ownedTupleIsFree (.ref z) >>= _) _ _ _
  refine wpAny_bind ?_
  unfold Builtin.SmallTypes.ownedTupleIsFree
  refine wpAny_bind (wpAny_field hz rfl (x := .none) rfl (wpAny_pure ?_))
  simp only [if_true]
  refine wpAny_bind (wpAny_rule ?_)
  refine wpAny_bind (wpAny_field hz rfl (x := .ref TO) rfl ?_)
  refine wpAny_bind (wpAny_setField_rec hz (by simp) fun g1 gz gs1 => ?_)
  have gz : IsZip g1 z TI TO .ellipsis := gz
  refine wpAny_bind ?_
  simp only [List.zipIdx_cons, List.zipIdx_nil, List.forIn_cons, List.forIn_nil]
  -- the first
  refine wpAny_bind (wpAny_bind (wpAny_onRaise ?_))
  show wpAny _ _ (Builtin.SmallTypes.nextOf (.ref i1) >>= _) _ _ _
  refine wpAny_bind (wpAny_nextOf_list_item (it1.extBut gs1.extBut (Ne.symm z1)) (L.p1.extBut gs1.extBut n1.1) hx fun g2 j1 gs2 => wpAny_pure ?_)
  have O2' : g2.get? TO = some (t3 a b c) := gs2.extBut _ _ O1 (gs1.extBut _ _ (Ne.symm zO) hTO)
  refine wpAny_bind (wpAny_seqItems O2' rfl ?_)
  refine wpAny_bind (upd3 O2' fun g3 hO3 gs3 => ?_)
  have O3' : g3.get? TO = some (t3 x b c) := hO3
  refine wpAny_bind (wpAny_letGo (wpAny_pure ?_))
  -- the second
  have e13 : ∀ c o, c ≠ z → c ≠ TO → c ≠ i1 → s.heap.get? c = some o → g3.get? c = some o := fun c o c1 c2 c3 e => gs3.extBut _ _ c2 (gs2.extBut _ _ c3 (gs1.extBut _ _ c1 e))
  refine wpAny_bind (wpAny_bind (wpAny_onRaise ?_))
  show wpAny _ _ (Builtin.SmallTypes.nextOf (.ref i2) >>= _) _ _ _
  refine wpAny_bind (wpAny_nextOf_list_item (it2.at fun o e => e13 _ o (Ne.symm z2) (Ne.symm O2) (Ne.symm i12) e) (L.p2.at fun o e => e13 _ o n2.1 n2.2.1 n2.2.2.1 e) hy fun g4 j2 gs4 => wpAny_pure ?_)
  have O4' : g4.get? TO = some (t3 x b c) := gs4.extBut _ _ O2 O3'
  refine wpAny_bind (wpAny_seqItems O4' rfl ?_)
  refine wpAny_bind (upd3 O4' fun g5 hO5 gs5 => ?_)
  have O5' : g5.get? TO = some (t3 x y c) := hO5
  refine wpAny_bind (wpAny_letGo (wpAny_pure ?_))
  -- the third
  have e35 : ∀ c o, c ≠ TO → c ≠ i2 → g3.get? c = some o → g5.get? c = some o := fun c o c2 c4 e => gs5.extBut _ _ c2 (gs4.extBut _ _ c4 e)
  refine wpAny_bind (wpAny_bind (wpAny_onRaise ?_))
  show wpAny _ _ (Builtin.SmallTypes.nextOf (.ref i3) >>= _) _ _ _
  refine wpAny_bind (wpAny_nextOf_list_item (it3.at fun o e => e35 _ o (Ne.symm O3) (Ne.symm i23) (e13 _ o (Ne.symm z3) (Ne.symm O3) (Ne.symm i13) e))
    (L.p3.at fun o e => e35 _ o n3.2.1 n3.2.2.2.1 (e13 _ o n3.1 n3.2.1 n3.2.2.1 e)) hu fun g6 j3 gs6 => wpAny_pure ?_)
  have O6' : g6.get? TO = some (t3 x y c) := gs6.extBut _ _ O3 O5'
  refine wpAny_bind (wpAny_seqItems O6' rfl ?_)
  refine wpAny_bind (upd3 O6' fun g7 hO7 gs7 => ?_)
  have O7' : g7.get? TO = some (t3 x y u) := hO7
  refine wpAny_bind (wpAny_letGo (wpAny_pure (wpAny_pure ?_)))
  -- the tuple
  have e57 : ∀ c o, c ≠ TO → c ≠ i3 → g5.get? c = some o → g7.get? c = some o := fun c o c2 c5 e => gs7.extBut _ _ c2 (gs6.extBut _ _ c5 e)
  refine wpAny_bind (wpAny_seqItems O7' rfl ?_)
  refine wpAny_bind (wpAny_newTuple ?_)
  have sz : g7.objs.size = s.heap.objs.size := by rw [gs7.1, gs6.1, gs5.1, gs4.1, gs3.1, gs2.1, gs1.1]
  have all : ∀ c o, c ∉ [z, TO, i1, i2, i3] → s.heap.get? c = some o → g7.get? c = some o := fun c o nc e => by
    simp only [List.mem_cons, List.not_mem_nil, or_false, not_or] at nc
    obtain ⟨c1, c2, c3, c4, c5⟩ := nc
    exact e57 c o c2 c5 (e35 c o c2 c4 (e13 c o c1 c2 c3 e))
  have gz7 : IsZip g7 z TI TO .ellipsis := e57 _ _ zO z3 (e35 _ _ zO z2 (gs3.extBut _ _ zO (gs2.extBut _ _ z1 gz)))
  have k1 : g7.IsListIter i1 l1 (k + 1) := j1.at fun o e => e57 _ o (Ne.symm O1) i13 (e35 _ o (Ne.symm O1) i12 (gs3.extBut _ _ (Ne.symm O1) e))
  have k2 : g7.IsListIter i2 l2 (k + 1) := j2.at fun o e => e57 _ o (Ne.symm O2) i23 (gs5.extBut _ _ (Ne.symm O2) e)
  have k3 : g7.IsListIter i3 l3 (k + 1) := j3.at fun o e => gs7.extBut _ _ (Ne.symm O3) e
  have kT : g7.get? TI = some (t3 (.ref i1) (.ref i2) (.ref i3)) := all TI _ (by simp only [List.mem_cons, List.not_mem_nil, or_false, not_or]; exact ⟨Ne.symm zI, IO, I1, I2, I3⟩) hTI
  show wpAny _ _ (Builtin.SmallTypes.ownedTupleHandOut (.ref z) (.ref g7.objs.size) >>= _) _ _ _
  refine wpAny_bind ?_
  unfold Builtin.SmallTypes.ownedTupleHandOut
  have gz8 : IsZip (g7.push (t3 x y u)) z TI TO .ellipsis := Heap.get?_push_of_some _ gz7
  refine wpAny_bind (wpAny_setField_rec gz8 (by simp) fun g9 hz9 gs9 => ?_)
  have gz9 : IsZip g9 z TI TO (rawInt g7.objs.size) := hz9
  refine wpAny_setField_rec gz9 (by simp) fun g10 hz10 gs10 => ?_
  have gz10 : IsZip g10 z TI TO (rawInt g7.objs.size) := hz10
  have up : ∀ c o, c ≠ z → g7.get? c = some o → g10.get? c = some o := fun c o c1 e => gs10.extBut _ _ c1 (gs9.extBut _ _ c1 (Heap.get?_push_of_some _ e))
  have zlt : g7.objs.size ≠ z := Nat.ne_of_gt (Heap.lt_size gz7)
  have hT10 : g10.get? g7.objs.size = some (t3 x y u) := gs10.extBut _ _ zlt (gs9.extBut _ _ zlt (Heap.get?_push_size _ rfl))
  rw [sz] at gz10 hT10
  refine wpAny_pure ⟨_, rfl, ?_⟩
  show Q (.ref g7.objs.size) _
  rw [sz]
  refine hQ g10 ⟨gz10, up _ _ (Ne.symm zI) kT, ⟨_, _, _, up _ _ (Ne.symm zO) O7'⟩, k1.at fun o e => up _ o (Ne.symm z1) e, k2.at fun o e => up _ o (Ne.symm z2) e, k3.at fun o e => up _ o (Ne.symm z3) e⟩ hT10 fun c o nc e => ?_
  refine up c o (fun q => ?_) (all c o nc e)
  simp only [List.mem_cons, List.not_mem_nil, or_false, not_or] at nc
  exact nc.1 q
theorem zip3_end {Q : Fin → Shared → Prop} (hh : A.handled = none) (D : Ap3 z TI TO i1 i2 i3 l1 l2 l3) (S : Z3 s.heap z TI TO i1 i2 i3 l1 l2 l3 .none k) (L : L3 s.heap l1 l2 l3 xs ys zs) (hx : xs[k]? = none)
    (hE : ∀ h' e, (∀ c o, c ∉ [z, TO, i1, i2, i3] → s.heap.get? c = some o → h'.get? c = some o) → (∃ o, h'.get? e = some o ∧ o.cls = .type "StopIteration") → E (.ref e) { s with heap := h' }) :
    wpAny (model prog w) A (Builtin.«zip.__next__» ⟨[.ref z], []⟩) Q E s := by
  obtain ⟨nd, n1, n2, n3⟩ := D
  simp only [List.nodup_cons, List.mem_cons, List.not_mem_nil, or_false, not_or] at nd n1 n2 n3
  obtain ⟨⟨zI, zO, z1, z2, z3⟩, _⟩ := nd
  obtain ⟨hz, hTI, ⟨a, b, c, hTO⟩, it1, it2, it3⟩ := S
  show wpAny _ _ (field (.ref z) 2 >>= _) _ _ _
  refine wpAny_bind (wpAny_field hz rfl (x := .bool false) rfl ?_)
  show wpAny _ _ (field (.ref z) 3 >>= _) _ _ _
  refine wpAny_bind (wpAny_field hz rfl (x := .ref TI) rfl ?_)
  refine wpAny_bind (wpAny_seqItems hTI rfl ?_)
  show wpAny _ _ (Builtin.SmallTypes.ownedTupleIsFree (.ref z) >>= _) _ _ _
  refine wpAny_bind ?_
  unfold Builtin.SmallTypes.ownedTupleIsFree
  refine wpAny_bind (wpAny_field hz rfl (x := .none) rfl (wpAny_pure ?_))
  simp only [if_true]
  refine wpAny_bind (wpAny_rule ?_)
  refine wpAny_bind (wpAny_field hz rfl (x := .ref TO) rfl ?_)
  refine wpAny_bind (wpAny_setField_rec hz (by simp) fun g1 gz gs1 => ?_)
  have gz : IsZip g1 z TI TO .ellipsis := gz
  refine wpAny_bind ?_
  simp only [List.zipIdx_cons, List.zipIdx_nil, List.forIn_cons, List.forIn_nil]
  refine wpAny_bind (wpAny_bind (wpAny_onRaise ?_))
  show wpAny _ _ (Builtin.SmallTypes.nextOf (.ref i1) >>= _) _ _ _
  refine wpAny_bind (wpAny_nextOf_list_end hh (it1.extBut gs1.extBut (Ne.symm z1)) (L.p1.extBut gs1.extBut n1.1) hx fun g2 e gs2 he => ?_)
  obtain ⟨oe, hoe, hce⟩ := he
  have gz2 : IsZip g2 z TI TO .ellipsis := gs2 _ _ z1 gz
  have hez : e ≠ z := fun q => by
    subst q
    rw [gz2] at hoe
    cases hoe
    simp at hce
  refine wpAny_setField_rec gz2 (by simp) fun g3 _ gs3 => ?_
  refine hE g3 e (fun c o nc e' => ?_) ⟨oe, gs3.extBut _ _ hez hoe, hce⟩
  simp only [List.mem_cons, List.not_mem_nil, or_false, not_or] at nc
  exact gs3.extBut _ _ nc.1 (gs2 _ _ nc.2.2.1 (gs1.extBut _ _ nc.1 e'))

theorem args_init4 (a b c d : Value) : argsOk "object.__init__" ⟨[a, b, c, d], []⟩ := by
  unfold argsOk
  rw [signature?_of (id := "object.__init__") (n := ['_', '_', 't', 'i', 'n', 'i', '_', '_']) (o := ['t', 'c', 'e', 'j', 'b', 'o']) (by kernel_rfl) F.owner_object]
  kernel_rfl
abbrev zg1 (h : Heap) (l1 : Addr) : Heap := h.push { cls := .type "list_iterator", data := .fields #[.ref l1, .int 0 0] }
abbrev zg2 (h : Heap) (l1 l2 : Addr) : Heap := (zg1 h l1).push { cls := .type "list_iterator", data := .fields #[.ref l2, .int 0 0] }
abbrev zg3 (h : Heap) (l1 l2 l3 : Addr) : Heap := (zg2 h l1 l2).push { cls := .type "list_iterator", data := .fields #[.ref l3, .int 0 0] }
abbrev zg4 (h : Heap) (l1 l2 l3 : Addr) : Heap := (zg3 h l1 l2 l3).push (t3 (.ref h.objs.size) (.ref (zg1 h l1).objs.size) (.ref (zg2 h l1 l2).objs.size))
abbrev zg5 (h : Heap) (l1 l2 l3 : Addr) : Heap := (zg4 h l1 l2 l3).push (t3 .none .none .none)
abbrev zg6 (h : Heap) (l1 l2 l3 : Addr) : Heap := (zg5 h l1 l2 l3).push { cls := .type "zip", data := .fields #[.none, .bool false, .bool false, .ref (zg3 h l1 l2 l3).objs.size, .ref (zg4 h l1 l2 l3).objs.size] }
set_option maxHeartbeats 4000000 in
theorem zip3_new (l1 l2 l3 : Addr) (xs ys zs : Array Value) : Meets (Builtin.«zip.__new__» ⟨[.type "zip", .ref l1, .ref l2, .ref l3], []⟩) (fun _ R s => L3 s.heap l1 l2 l3 xs ys zs ∧
      R (.ok (.ret (.ref (zg5 s.heap l1 l2 l3).objs.size))) { s with heap := zg6 s.heap l1 l2 l3 }) :=
  .of_wp fun prog w A R s h => by
    obtain ⟨hp, g, d, tk, os⟩ := s
    obtain ⟨⟨q1, q2, q3⟩, h⟩ := h
    have hsub := sub_zip
    have a1 : Heap.IsList (Shared.heap ⟨hp, g, d, tk, os⟩) l1 xs := q1
    have a2 : Heap.IsList (Shared.heap ⟨hp.push { cls := .type "list_iterator", data := .fields #[.ref l1, .int 0 0] }, g, d, tk, os⟩) l2 ys := Heap.IsList.push q2 _
    have a3 : Heap.IsList (Shared.heap ⟨(hp.push { cls := .type "list_iterator", data := .fields #[.ref l1, .int 0 0] }).push { cls := .type "list_iterator", data := .fields #[.ref l2, .int 0 0] }, g, d, tk, os⟩) l3 zs := Heap.IsList.push (Heap.IsList.push q3 _) _
    wp_walk using wpAny_pyIter_list a1, wpAny_pyIter_list a2, wpAny_pyIter_list a3
    exact ⟨_, rfl, h⟩
theorem call_zip3 {Q : Value → Shared → Prop} (L : L3 s.heap l1 l2 l3 xs ys zs)
    (h : ∀ h', Z3 h' (s.heap.objs.size + 5) (s.heap.objs.size + 3) (s.heap.objs.size + 4) s.heap.objs.size (s.heap.objs.size + 1) (s.heap.objs.size + 2) l1 l2 l3 .none 0 → (∀ c o, s.heap.get? c = some o → h'.get? c = some o) →
      Q (.ref (s.heap.objs.size + 5)) { s with heap := h' }) : wpAny (model prog w) A (call (.type "zip") [.ref l1, .ref l2, .ref l3]) Q E s := by
  have tc : checkTypeCall "zip" ⟨[.ref l1, .ref l2, .ref l3], []⟩ = pure () := by kernel_rfl
  have nc : checkBuiltinCall "zip.__new__" ⟨[.type "zip", .ref l1, .ref l2, .ref l3], []⟩ = pure () := by kernel_rfl
  refine callType_new F.called_zip (by decide) tc nc (fun obj => args_init4 obj _ _ _) F.entry_zip_new (zip3_new l1 l2 l3 xs ys zs) ⟨L, ?_⟩
  have z1 : (zg1 s.heap l1).objs.size = s.heap.objs.size + 1 := Heap.size_push ..
  have z2 : (zg2 s.heap l1 l2).objs.size = s.heap.objs.size + 2 := by rw [Heap.size_push, z1]
  have z3 : (zg3 s.heap l1 l2 l3).objs.size = s.heap.objs.size + 3 := by rw [Heap.size_push, z2]
  have z4 : (zg4 s.heap l1 l2 l3).objs.size = s.heap.objs.size + 4 := by rw [Heap.size_push, z3]
  have z5 : (zg5 s.heap l1 l2 l3).objs.size = s.heap.objs.size + 5 := by rw [Heap.size_push, z4]
  have up : ∀ {c o}, (zg3 s.heap l1 l2 l3).get? c = some o → (zg6 s.heap l1 l2 l3).get? c = some o := fun e => Heap.get?_push_of_some _ (Heap.get?_push_of_some _ (Heap.get?_push_of_some _ e))
  have g6 : (zg6 s.heap l1 l2 l3).get? (zg5 s.heap l1 l2 l3).objs.size = some _ := Heap.get?_push_size _ rfl
  have g5 : (zg6 s.heap l1 l2 l3).get? (zg4 s.heap l1 l2 l3).objs.size = some _ := Heap.get?_push_of_some _ (Heap.get?_push_size _ rfl)
  have g4 : (zg6 s.heap l1 l2 l3).get? (zg3 s.heap l1 l2 l3).objs.size = some _ := Heap.get?_push_of_some _ (Heap.get?_push_of_some _ (Heap.get?_push_size _ rfl))
  have g3 : (zg6 s.heap l1 l2 l3).get? (zg2 s.heap l1 l2).objs.size = some _ := up (Heap.get?_push_size _ rfl)
  have g2 : (zg6 s.heap l1 l2 l3).get? (zg1 s.heap l1).objs.size = some _ := up (Heap.get?_push_of_some _ (Heap.get?_push_size _ rfl))
  have g1 : (zg6 s.heap l1 l2 l3).get? s.heap.objs.size = some _ := up (Heap.get?_push_of_some _ (Heap.get?_push_of_some _ (Heap.get?_push_size _ rfl)))
  show _ ∧ _
  rw [z5, z3, z4] at g6
  rw [z4] at g5
  rw [z3, z1, z2] at g4
  rw [z2] at g3
  rw [z1] at g2
  rw [z5]
  exact ⟨⟨_, g6, rfl⟩, h _ ⟨g6, g4, ⟨_, _, _, g5⟩, ⟨_, g1, rfl, rfl⟩, ⟨_, g2, rfl, rfl⟩, ⟨_, g3, rfl, rfl⟩⟩ fun c o e => up (Heap.get?_push_of_some _ (Heap.get?_push_of_some _ (Heap.get?_push_of_some _ e)))⟩
end
end L2

set_option Elab.async false
set_option linter.all false
set_option maxRecDepth 100000
set_option maxHeartbeats 1000000
namespace L2
open PySem PySem.Spec PyProof.Rows

section
variable {prog : Program} {w : World} {A : Around}
theorem walk_zip3 (hh : A.handled = none) (z TI TO i1 i2 i3 l1 l2 l3 : Addr) (D : Ap3 z TI TO i1 i2 i3 l1 l2 l3) (xs ys zs : Array Value) (e1 : ys.size = xs.size) (e2 : zs.size = xs.size) :
    WalksT prog w A z [z, TI, TO, i1, i2, i3, l1, l2, l3] [z, TO, i1, i2, i3] xs.size
      (fun i vals => ∃ x y u, xs[i]? = some x ∧ ys[i]? = some y ∧ zs[i]? = some u ∧ vals = #[x, y, u])
      (fun i h => Z3 h z TI TO i1 i2 i3 l1 l2 l3 .none i ∧ L3 h l1 l2 l3 xs ys zs)
      (fun i T h => Z3 h z TI TO i1 i2 i3 l1 l2 l3 (rawInt T) (i + 1) ∧ L3 h l1 l2 l3 xs ys zs ∧ T ∉ [z, TO, i1, i2, i3]) where
  sub := fun c hc => by
    simp only [List.mem_cons, List.not_mem_nil, or_false] at hc ⊢
    rcases hc with rfl | rfl | rfl | rfl | rfl <;> simp
  frame := fun i h h' st hk => by
    obtain ⟨⟨hz, hTI, ⟨a, b, c, hTO⟩, t1, t2, t3⟩, L⟩ := st
    exact ⟨⟨hk z (by simp) _ hz, hk TI (by simp) _ hTI, ⟨a, b, c, hk TO (by simp) _ hTO⟩, t1.at fun o e => hk i1 (by simp) o e, t2.at fun o e => hk i2 (by simp) o e, t3.at fun o e => hk i3 (by simp) o e⟩,
      L.mono fun c o hc e => hk c (by rcases hc with rfl | rfl | rfl <;> simp) o e⟩
  item := fun i s Q E hi st hQ => by
    obtain ⟨S, L⟩ := st
    have hT : s.TypeIs (.ref z) "zip" := ⟨_, S.hz, rfl⟩
    unfold pyNext
    refine wpAny_bind (wpAny_attempt (wpAny_callSpecial?_slot (name := Str.ofString "__next__") hT F.slot_zip_next ?_))
    refine wpAny_call_entry F.slot_zip_next hT F.entry_zip_next ?_ (F.args_zip_next_1 _)
    refine zip3_item D S L (Array.getElem?_eq_getElem hi) (Array.getElem?_eq_getElem (by omega : i < ys.size)) (Array.getElem?_eq_getElem (by omega : i < zs.size)) fun h' S' hTup hk => wpAny_pure ?_
    refine hQ s.heap.objs.size #[xs[i], ys[i], zs[i]] h' s.toks ⟨_, _, _, Array.getElem?_eq_getElem hi, Array.getElem?_eq_getElem _, Array.getElem?_eq_getElem _, rfl⟩ (Nat.le_refl _) ⟨_, hTup, rfl, _, rfl⟩
      ⟨S', L.mono fun c o hc e => hk c o (by rcases hc with rfl | rfl | rfl; exact D.n1; exact D.n2; exact D.n3) e, fun hm => ?_⟩ fun c o hc e => hk c o hc e
    have lt : ∀ {c o}, s.heap.get? c = some o → s.heap.objs.size ≠ c := fun e => Nat.ne_of_gt (Heap.lt_size e)
    obtain ⟨hz, hTI, ⟨a, b, c, hTO⟩, ⟨_, q1, _⟩, ⟨_, q2, _⟩, ⟨_, q3, _⟩⟩ := S
    simp only [List.mem_cons, List.not_mem_nil, or_false] at hm
    rcases hm with q | q | q | q | q
    · exact lt hz q
    · exact lt hTO q
    · exact lt q1 q
    · exact lt q2 q
    · exact lt q3 q
  go := fun elts k pos i T s Q E hm hQ => by
    obtain ⟨⟨hz, hTI, ⟨a, b, c, hTO⟩, t1, t2, t3⟩, L, _⟩ := hm
    have nd := D.nd
    have n1 := D.n1
    have n2 := D.n2
    have n3 := D.n3
    simp only [List.nodup_cons, List.mem_cons, List.not_mem_nil, or_false, not_or] at nd n1 n2 n3
    obtain ⟨⟨zI, zO, z1, z2, z3⟩, _⟩ := nd
    refine wpAny_letOwnedTupleGo_zip hz fun h' hz' hs' => hQ h' ⟨⟨hz', hs'.extBut _ _ (Ne.symm zI) hTI, ⟨a, b, c, hs'.extBut _ _ (Ne.symm zO) hTO⟩, t1.extBut hs'.extBut (Ne.symm z1), t2.extBut hs'.extBut (Ne.symm z2), t3.extBut hs'.extBut (Ne.symm z3)⟩,
      L.mono fun c o hc e => hs'.extBut _ _ (by rcases hc with rfl | rfl | rfl; exact n1.1; exact n2.1; exact n3.1) e⟩ fun c o hc e => hs'.extBut _ _ (fun q => hc (by simp [q])) e
  apart := fun i T h hm => hm.2.2
  done := fun s Q E st hQ => by
    obtain ⟨S, L⟩ := st
    have hT : s.TypeIs (.ref z) "zip" := ⟨_, S.hz, rfl⟩
    unfold pyNext
    refine wpAny_bind (wpAny_attempt (wpAny_callSpecial?_slot (name := Str.ofString "__next__") hT F.slot_zip_next ?_))
    refine wpAny_call_entry F.slot_zip_next hT F.entry_zip_next ?_ (F.args_zip_next_1 _)
    refine zip3_end hh D S L (Array.getElem?_eq_none (Nat.le_refl _)) fun h' e hk he => ?_
    obtain ⟨o, ho, hc⟩ := he
    refine wpAny_bind (wpAny_isInstance (T := "StopIteration") (b := true) ⟨o, ho, hc⟩ isSubtype_stop ?_)
    exact wpAny_pure (hQ h' s.toks hk)
  self := fun i s Q E st hQ => wpAny_pyIter_zip st.1.hz hQ
end

/-- three lists of one length side by side: a new tuple each turn -/
def Itz3 (K : PySem.W.Frag) (l1 l2 l3 : Addr) : It :=
  ⟨fun i H => ∃ xs ys zs, SqL K H l1 xs ∧ SqL K H l2 ys ∧ SqL K H l3 zs ∧ ys.length = xs.length ∧ zs.length = xs.length ∧ i < xs.length,
   fun i H v H' => ∃ T x y u, v = .ref T ∧ H T = none ∧ H' = upd H T (.tup [x, y, u]) ∧ ∀ xs ys zs, SqL K H l1 xs → SqL K H l2 ys → SqL K H l3 zs → xs[i]? = some x ∧ ys[i]? = some y ∧ zs[i]? = some u,
   fun i H => ∃ xs ys zs, SqL K H l1 xs ∧ SqL K H l2 ys ∧ SqL K H l3 zs ∧ ys.length = xs.length ∧ zs.length = xs.length ∧ xs.length = i⟩
theorem turn_zip3 {P : Program} {w : World} {K : PySem.W.Frag} {es : List Expr} {kt : Nat} {pt : Pos} (z TI TO i1 i2 i3 l1 l2 l3 : Addr) (D : Ap3 z TI TO i1 i2 i3 l1 l2 l3) :
    Turn P w K (.Tuple es kt pt) (Itz3 K l1 l2 l3) [z, TI, TO, i1, i2, i3] z (fun i h => Z3 h z TI TO i1 i2 i3 l1 l2 l3 .none i) where
  mem := by simp
  obj := fun i h st b hb => by
    obtain ⟨hz, hTI, ⟨a, b', c', hTO⟩, ⟨o1, e1, c1, d1⟩, ⟨o2, e2, c2, d2⟩, ⟨o3, e3, c3, d3⟩⟩ := st
    have hb' : b = z ∨ b = TI ∨ b = TO ∨ b = i1 ∨ b = i2 ∨ b = i3 := by simpa using hb
    rcases hb' with rfl | rfl | rfl | rfl | rfl | rfl
    · exact ⟨_, hz, fun v q => by cases (show Data.fields _ = Data.cell v from q)⟩
    · exact ⟨_, hTI, fun v q => by cases (show Data.seq _ _ = Data.cell v from q)⟩
    · exact ⟨_, hTO, fun v q => by cases (show Data.seq _ _ = Data.cell v from q)⟩
    · exact ⟨o1, e1, fun v q => by rw [d1] at q; cases q⟩
    · exact ⟨o2, e2, fun v q => by rw [d2] at q; cases q⟩
    · exact ⟨o3, e3, fun v q => by rw [d3] at q; cases q⟩
  keep := fun i h h' st k => by
    obtain ⟨hz, hTI, ⟨a, b, c, hTO⟩, h1, h2, h3⟩ := st
    exact ⟨k z (by simp) _ hz, k TI (by simp) _ hTI, ⟨a, b, c, k TO (by simp) _ hTO⟩, h1.at fun o e => k i1 (by simp) o e, h2.at fun o e => k i2 (by simp) o e, h3.at fun o e => k i3 (by simp) o e⟩
  item := by
    intro X hP hw hK hc i pins s σ H E I hf st hg
    subst hP hw hK
    obtain ⟨xs, ys, zs, q1, q2, q3, len2, len3, hx⟩ := hg
    obtain ⟨its1, r1, p1, z1⟩ := I.list q1
    obtain ⟨its2, r2, p2, z2⟩ := I.list q2
    obtain ⟨its3, r3, p3, z3⟩ := I.list q3
    have L1 := r1.length
    have L2 := r2.length
    have L3' := r3.length
    have W := walk_zip3 (prog := X.prog) (w := X.w) (I.ok.hd hc) z TI TO i1 i2 i3 l1 l2 l3 D its1.toArray its2.toArray its3.toArray (by simp only [List.size_toArray]; omega) (by simp only [List.size_toArray]; omega)
    refine W.item i s _ _ (by simp only [List.size_toArray]; omega) ⟨st, ⟨p1.isList, p2.isList, p3.isList⟩⟩ fun T vals h' tk hv hT hTup mid kk => ?_
    refine ⟨.ref T, rfl, W.go es kt pt i T _ _ _ mid fun h'' st' kk' => ?_⟩
    obtain ⟨u1, u2, u3, g1, g2, g3, rfl⟩ := hv
    have ex : xs[i]? = some xs[i] := by simp [hx]
    have hy : i < ys.length := by omega
    have hu : i < zs.length := by omega
    have ey : ys[i]? = some ys[i] := by simp [hy]
    have eu : zs[i]? = some zs[i] := by simp [hu]
    obtain ⟨w1, e1, rx⟩ := r1.get ex
    obtain ⟨w2, e2, ry⟩ := r2.get ey
    obtain ⟨w3, e3, ru⟩ := r3.get eu
    have ew1 : u1 = w1 := by
      have : its1[i]? = some u1 := by simpa using g1
      rw [this] at e1; exact Option.some.inj e1
    have ew2 : u2 = w2 := by
      have : its2[i]? = some u2 := by simpa using g2
      rw [this] at e2; exact Option.some.inj e2
    have ew3 : u3 = w3 := by
      have : its3[i]? = some u3 := by simpa using g3
      rw [this] at e3; exact Option.some.inj e3
    subst ew1 ew2 ew3
    have nT : H T = none := I.hok.fresh hT
    have tw : T ∉ [z, TO, i1, i2, i3] := W.apart i T _ mid
    have keep : ∀ b o, b ∉ [z, TI, TO, i1, i2, i3] → s.heap.get? b = some o → h''.get? b = some o := fun b o hb e => by
      have hb' : b ∉ [z, TO, i1, i2, i3] := fun hm => hb (by
        have : b = z ∨ b = TO ∨ b = i1 ∨ b = i2 ∨ b = i3 := by simpa using hm
        rcases this with rfl | rfl | rfl | rfl | rfl <;> simp)
      exact kk' b o hb' (kk b o hb' e)
    have neT : ∀ b o, s.heap.get? b = some o → b ≠ T := fun b o e => Nat.ne_of_lt (Nat.lt_of_lt_of_le (Heap.lt_size e) hT)
    have nin : ∀ b u, H b = some u → b ∉ [z, TI, TO, i1, i2, i3] := fun b u e hm => by
      rw [(hf b hm).1] at e; cases e
    have tupT : IsTup h'' T #[u1, u2, u3] := by
      obtain ⟨o, e, c, n, d⟩ := hTup
      exact ⟨o, kk' T o tw e, c, n, d⟩
    have hok : HOk X.prog X.w (upd H T (.tup [xs[i], ys[i], zs[i]])) h'' := fun b u e => by
      by_cases hb : b = T
      · subst hb
        rw [upd_same] at e
        cases e
        exact ⟨by show 3 ≤ sizeLine; decide, [u1, u2, u3], .cons rx (.cons ry (.cons ru .nil)), tupT⟩
      · rw [upd_ne hb] at e
        refine (I.hok b u e).stay (fun c v hcc q => keep c v ?_ q) (fun c q => by rw [upd_ne (ne_of_none q nT)]; exact q) fun c ws q => by rw [upd_ne (ne_of_none q nT)]; exact q
        rcases hcc with rfl | hcc
        · exact nin _ _ e
        · exact nin _ _ hcc
    have I2 : Inv X pins σ (upd H T (.tup [xs[i], ys[i], zs[i]])) { s with heap := h'', toks := tk } := by
      refine I.step (g' := s.gens) (d' := s.drawn) (ch := [z, TI, TO, i1, i2, i3]) (fun b hb => ?_) (fun b o _ _ hb e _ => keep b o hb e) (fun b o _ _ hb e _ => ⟨o.slots, keep b o hb e⟩) (fun b o _ e n => by rw [upd_ne (neT b o e)]; exact n)
        (fun b o hb e => ⟨o, keep b o hb e⟩) (fun b ws e => by rw [upd_ne (ne_of_none e nT)]; exact e) (fun b o u e => by rw [upd_ne (ne_of_none e nT)]; exact e) (fun b ps e => ⟨#[], by rw [upd_ne (ne_of_none e nT), e]; simp⟩) (fun m hm => ?_) hok I.bare
      · obtain ⟨f0, f1, f2, f3, f4, f5⟩ := hf b hb
        exact ⟨f3, f1, f4, f5⟩
      · obtain ⟨o, es', ep, ho, r⟩ := hm
        exact ⟨o, es', ep, keep _ o (fun hm => (hf _ hm).2.1 rfl) ho, r⟩
    refine ⟨.ref T, _, I2, rfl, ⟨T, xs[i], ys[i], zs[i], rfl, nT, rfl, fun xs' ys' zs' q1' q2' q3' => ⟨by rw [I.list_inj q1' q1]; exact ex, by rw [I.list_inj q2' q2]; exact ey, by rw [I.list_inj q3' q3]; exact eu⟩⟩, st'.1, fun b hb => ?_⟩
    obtain ⟨o, e⟩ : ∃ o, s.heap.get? b = some o := by
      obtain ⟨hz, hTI, ⟨a, b', c', hTO⟩, ⟨_, q1, _⟩, ⟨_, q2, _⟩, ⟨_, q3, _⟩⟩ := st
      have hb' : b = z ∨ b = TI ∨ b = TO ∨ b = i1 ∨ b = i2 ∨ b = i3 := by simpa using hb
      rcases hb' with rfl | rfl | rfl | rfl | rfl | rfl
      · exact ⟨_, hz⟩
      · exact ⟨_, hTI⟩
      · exact ⟨_, hTO⟩
      · exact ⟨_, q1⟩
      · exact ⟨_, q2⟩
      · exact ⟨_, q3⟩
    rw [upd_ne (neT b o e)]
    exact (hf b hb).1
  done := by
    intro X hP hw hK hc i pins s σ H E I hf st hg
    subst hP hw hK
    obtain ⟨xs, ys, zs, q1, q2, q3, len2, len3, en⟩ := hg
    obtain ⟨its1, r1, p1, z1⟩ := I.list q1
    obtain ⟨its2, r2, p2, z2⟩ := I.list q2
    obtain ⟨its3, r3, p3, z3⟩ := I.list q3
    have L1 := r1.length
    have L2 := r2.length
    have L3' := r3.length
    have W := walk_zip3 (prog := X.prog) (w := X.w) (I.ok.hd hc) z TI TO i1 i2 i3 l1 l2 l3 D its1.toArray its2.toArray its3.toArray (by simp only [List.size_toArray]; omega) (by simp only [List.size_toArray]; omega)
    have en' : its1.toArray.size = i := by simp only [List.size_toArray]; omega
    refine W.done s _ _ (by rw [en']; exact ⟨st, ⟨p1.isList, p2.isList, p3.isList⟩⟩) fun h' tk kk => ⟨rfl, ?_⟩
    have keep : ∀ b o, b ∉ [z, TI, TO, i1, i2, i3] → s.heap.get? b = some o → h'.get? b = some o := fun b o hb e => by
      refine kk b o (fun hm => hb ?_) e
      have : b = z ∨ b = TO ∨ b = i1 ∨ b = i2 ∨ b = i3 := by simpa using hm
      rcases this with rfl | rfl | rfl | rfl | rfl <;> simp
    have nin : ∀ b u, H b = some u → b ∉ [z, TI, TO, i1, i2, i3] := fun b u e hm => by
      rw [(hf b hm).1] at e; cases e
    refine I.step (g' := s.gens) (d' := s.drawn) (ch := [z, TI, TO, i1, i2, i3]) (fun b hb => ?_) (fun b o _ _ hb e _ => keep b o hb e) (fun b o _ _ hb e _ => ⟨o.slots, keep b o hb e⟩) (fun b o _ e n => n)
      (fun b o hb e => ⟨o, keep b o hb e⟩) (fun b ws e => e) (fun b o u e => e) (fun b ps e => ⟨#[], by rw [e]; simp⟩) (fun m hm => ?_) (fun b u e => ?_) I.bare
    · obtain ⟨f0, f1, f2, f3, f4, f5⟩ := hf b hb
      exact ⟨f3, f1, f4, f5⟩
    · obtain ⟨o, es', ep, ho, r⟩ := hm
      exact ⟨o, es', ep, keep _ o (fun hm => (hf _ hm).2.1 rfl) ho, r⟩
    · refine (I.hok b u e).stay (fun c v hcc q => keep c v ?_ q) (fun _ q => q) fun _ _ q => q
      rcases hcc with rfl | hcc
      · exact nin _ _ e
      · exact nin _ _ hcc
  self := fun _ _ _ _ _ st h => wpAny_pyIter_zip st.hz h
theorem vals3 : ∀ {x y z : V} {us : List Value}, Vals [x, y, z] us → ∃ u v w, us = [u, v, w] ∧ RelV x u ∧ RelV y v ∧ RelV z w
  | _, _, _, _, .cons a (.cons b (.cons c .nil)) => ⟨_, _, _, rfl, a, b, c⟩
theorem ap3_out (n l : Nat) (h : l < n) : (l : Addr) ∉ ([n + 5, n + 4, n, n + 1, n + 2] : List Addr) := fun hm => by
  simp only [List.mem_cons, List.not_mem_nil, or_false] at hm
  have hm : @Eq Nat l (n + 5) ∨ @Eq Nat l (n + 4) ∨ @Eq Nat l n ∨ @Eq Nat l (n + 1) ∨ @Eq Nat l (n + 2) := hm
  omega
theorem ap3_new (n l1 l2 l3 : Nat) (h1 : l1 < n) (h2 : l2 < n) (h3 : l3 < n) : Ap3 (n + 5) (n + 3) (n + 4) n (n + 1) (n + 2) l1 l2 l3 :=
  ⟨(show List.Nodup ([n + 5, n + 3, n + 4, n, n + 1, n + 2] : List Nat) by simp), ap3_out n l1 h1, ap3_out n l2 h2, ap3_out n l3 h3⟩
section
variable {X : Cx}
def iZip3 (K : PySem.W.Frag) (ta : TA) : TI := fun σ H R => ta σ H fun vs H1 => ∃ l1 l2 l3, vs = [.ref l1, .ref l2, .ref l3] ∧ (∃ xs, SqL K H1 l1 xs) ∧ (∃ ys, SqL K H1 l2 ys) ∧ (∃ zs, SqL K H1 l3 zs) ∧ R (Itz3 K l1 l2 l3) H1
theorem pi_zip3 {a b c : Expr} {ta : TA} {p pos : Pos} {es : List Expr} {kt : Nat} {pt : Pos} (hg : Gl X "zip") (hm : X.mg "zip" = none) (ha : PA X [a, b, c] ta) (hs : starEach [a, b, c] X.env = [(false, eval a X.env), (false, eval b X.env), (false, eval c X.env)] := by rfl)
    (hs2 : starEach [b, c] X.env = [(false, eval b X.env), (false, eval c X.env)] := by rfl) : PI X (.Tuple es kt pt) (.Call (.Name "zip" p) [a, b, c] [] pos) (iZip3 X.K ta) := by
  intro pins s σ H R I h
  refine Call_ (ld_blt I hg hm boot_zip (PyProof.Rows.callWith_type1 (thn (ha pos pins s σ H _ I h) fun us s1 ⟨vs, H1, I1, r1, q1⟩ => ?_) (by rw [hs, hs2]) (by rw [hs2]; rfl)))
  obtain ⟨l1, l2, l3, e, ⟨xs, q1⟩, ⟨ys, q2⟩, ⟨zs, q3⟩, q⟩ := q1
  subst e
  obtain ⟨u1, u2, u3, rfl, e1, e2, e3⟩ := vals3 r1
  cases e1
  cases e2
  cases e3
  obtain ⟨its1, r1, p1, z1⟩ := I1.list q1
  obtain ⟨its2, r2, p2, z2⟩ := I1.list q2
  obtain ⟨its3, r3, p3, z3⟩ := I1.list q3
  have lt1 : l1 < s1.heap.objs.size := by obtain ⟨o, n, e, _⟩ := p1; exact Heap.lt_size e
  have lt2 : l2 < s1.heap.objs.size := by obtain ⟨o, n, e, _⟩ := p2; exact Heap.lt_size e
  have lt3 : l3 < s1.heap.objs.size := by obtain ⟨o, n, e, _⟩ := p3; exact Heap.lt_size e
  have ap : Ap3 (s1.heap.objs.size + 5) (s1.heap.objs.size + 3) (s1.heap.objs.size + 4) s1.heap.objs.size (s1.heap.objs.size + 1) (s1.heap.objs.size + 2) l1 l2 l3 := by
    exact ap3_new _ _ _ _ lt1 lt2 lt3
  refine call_zip3 ⟨p1.isList, p2.isList, p3.isList⟩ fun h' S hk => ?_
  refine wpAny_pyIter_zip S.hz ?_
  refine ⟨s1.heap.objs.size + 5, [s1.heap.objs.size + 5, s1.heap.objs.size + 3, s1.heap.objs.size + 4, s1.heap.objs.size, s1.heap.objs.size + 1, s1.heap.objs.size + 2], _, _, H1, rfl, I1.kept (t' := s1.toks) hk, turn_zip3 _ _ _ _ _ _ _ _ _ ap, S, fun b hb => ?_, q⟩
  have hge : s1.heap.objs.size ≤ b := by
    simp only [List.mem_cons, List.not_mem_nil, or_false] at hb
    rcases hb with rfl | rfl | rfl | rfl | rfl | rfl
    · exact Nat.le_add_right _ _
    · exact Nat.le_add_right _ _
    · exact Nat.le_add_right _ _
    · exact Nat.le_refl _
    · exact Nat.le_add_right _ _
    · exact Nat.le_add_right _ _
  exact I1.fpOk hge (I1.hok.fresh hge)
theorem r_zip3 {K : PySem.W.Frag} {tA : TA} {σ : St} {H : Hp} {q' : It → Hp → Prop} (q : tA σ H fun vs H1 => ∃ l1 l2 l3, vs = [.ref l1, .ref l2, .ref l3] ∧ (∃ xs, SqL K H1 l1 xs) ∧ (∃ ys, SqL K H1 l2 ys) ∧ (∃ zs, SqL K H1 l3 zs) ∧ q' (Itz3 K l1 l2 l3) H1) : iZip3 K tA σ H q' := q
theorem set012 {σ0 : St} {x y z : Option V} : (((σ0.set 0 x).set 1 y).set 2 z).length = σ0.length ∧ ∀ j, 3 ≤ j → (((σ0.set 0 x).set 1 y).set 2 z)[j]? = σ0[j]? :=
  ⟨by rw [List.length_set, List.length_set, List.length_set], fun j hj => by rw [List.getElem?_set_ne (by omega), List.getElem?_set_ne (by omega), List.getElem?_set_ne (by omega)]⟩
/-- [x for x, y, z in zip(xs, ys, zs) if p] -/
theorem compZ3 {K : PySem.W.Frag} {tt : TT} {te : TE} {σ0 : St} {D : Addr} {H1 : Hp} {Q : Hp → Prop} {l1 l2 l3 : Addr} {xs ys zs : List V} (p : Nat → Bool) (f : Nat → V) (hD : H1 D = none) (h1 : SqL K H1 l1 xs) (h2 : SqL K H1 l2 ys) (h3 : SqL K H1 l3 zs)
    (e2 : ys.length = xs.length) (e3 : zs.length = xs.length) (hn : xs.length ≤ 1000)
    (ht : ∀ i x y z H' (q : Bool → Hp → Prop), xs[i]? = some x → ys[i]? = some y → zs[i]? = some z → Same H1 H' → (∀ H'', Same H' H'' → q (p i) H'') → tt (((σ0.set 0 (some x)).set 1 (some y)).set 2 (some z)) H' q)
    (he : ∀ i x y z H' q, xs[i]? = some x → ys[i]? = some y → zs[i]? = some z → p i = true → Same H1 H' → (∀ H'', Same H' H'' → q (f i) H'') → te (((σ0.set 0 (some x)).set 1 (some y)).set 2 (some z)) H' q)
    (hq : ∀ H', Same H1 H' → H' D = some (.lst (((List.range xs.length).filter p).map f)) → Q H') : CompBody (Itz3 K l1 l2 l3) (gTup K 3 (gCons (gName 0) (gCons (gName 1) (gCons (gName 2) gNil)))) tt te 3 σ0 D H1 Q := by
  refine ⟨fun i m ws H => m = xs.length - i ∧ i ≤ xs.length ∧ Same H1 H ∧ H D = some (.lst ws) ∧ ws = ((List.range i).filter p).map f, ⟨xs.length, by simp, Nat.zero_le _, Same.new hD, upd_same, rfl⟩, ?_⟩
  rintro i m ws H ⟨rfl, hi, sm, hd, rfl⟩
  have q1 := sm.seq h1
  have q2 := sm.seq h2
  have q3 := sm.seq h3
  by_cases hlt : i < xs.length
  · refine .inr ⟨⟨xs, ys, zs, q1, q2, q3, e2, e3, hlt⟩, fun ws' H' => Same H1 H' ∧ H' D = some (.lst ws') ∧ ws' = ((List.range (i + 1)).filter p).map f, fun ws' H' p' => ⟨xs.length - (i + 1), by omega, rfl, hlt, p'⟩, fun v H' y => ?_⟩
    obtain ⟨T, x, y, u, e1', e2', e3', e4⟩ := y
    subst e1' e3'
    obtain ⟨g1, g2, g3⟩ := e4 xs ys zs q1 q2 q3
    refine r_gtup (xs := [x, y, u]) (SqT.of upd_same) rfl (r_gcons (r_name (r_gcons (r_name (r_gcons (r_name (r_gnil ⟨set012, ?_⟩)))))))
    refine ht i x y u _ _ g1 g2 g3 (sm.trans (Same.new e2')) fun H3 s3 => ?_
    have smT := sm.trans ((Same.new e2').trans s3)
    cases hp : p i with
    | true =>
      refine iteT (he i x y u _ _ g1 g2 g3 hp smT fun H4 s4 => ?_)
      refine ⟨s4 _ _ (s3 _ _ (Same.new e2' _ _ hd)), small1000 ?_, Same.setp hD (smT.trans s4), upd_same, ?_⟩
      · rw [List.length_map]
        have := List.length_filter_le p (List.range i)
        rw [List.length_range] at this
        omega
      · rw [List.range_succ, List.filter_append, List.map_append]
        simp [hp]
    | false =>
      refine iteF ⟨smT, s3 _ _ (Same.new e2' _ _ hd), ?_⟩
      rw [List.range_succ, List.filter_append, List.map_append]
      simp [hp]
  · have e : i = xs.length := by omega
    subst e
    exact .inl ⟨⟨xs, ys, zs, q1, q2, q3, e2, e3, rfl⟩, hq H sm hd⟩
end
end L2

set_option Elab.async false
set_option linter.all false
set_option maxRecDepth 100000
namespace L2
open PySem PySem.Spec PyProof.Rows

/-! ### texts -/
theorem strs_of : ∀ {ts : List Str} {its : List Value}, Vals (ts.map V.str) its → ∃ l : List (Str × Tok), its = strValues l ∧ l.map (·.1) = ts
  | [], _, .nil => ⟨[], rfl, rfl⟩
  | t :: ts, _, .cons ⟨k, e⟩ r => by
    obtain ⟨l, e1, e2⟩ := strs_of (ts := ts) r
    exact ⟨(t, k) :: l, by rw [e, e1]; rfl, by rw [List.map_cons, e2]⟩
section
variable {X : Cx}
/-- sep.join(texts) -/
def rJoin (K : PySem.W.Frag) : V → List V → Hp → VK → Prop := fun x xs H Q => ∃ sep p ts, x = .str sep ∧ xs = [.ref p] ∧ SqL K H p (ts.map V.str) ∧ JoinOk sep ts = true ∧ Q (.str (Txt.join sep ts)) H
theorem mt_join : MtR X "str.join" (rJoin X.K) := by
  intro pins s σ H x xs v us Q I rx r h
  obtain ⟨sep, p, ts, rfl, rfl, hq, ok, q⟩ := h
  obtain ⟨t, rfl⟩ := rx
  obtain ⟨u, rfl, e⟩ := Vals.one r
  cases e
  obtain ⟨its, r1, p1, z1⟩ := I.list hq
  obtain ⟨l, rfl, e2⟩ := strs_of r1
  exact SC.join p1.isList e2 ok fun t' k => ⟨.str _, H, I.tok k, ⟨_, rfl⟩, q⟩
theorem join_ok {sep : Str} {ts : List Str} {B : Nat} (hB : ∀ y ∈ ts, y.length ≤ B) (h : ts.length * B + ts.length * sep.length ≤ 16777216) : JoinOk sep ts = true := by
  unfold JoinOk
  rw [StrLaws.joinFits hB h]
  rfl
/-- str(x): an int, a text, a truth value, the empty tuple (some text) -/
def rStr (K : PySem.W.Frag) : List V → Hp → VK → Prop := fun xs H Q => (∃ i : Int, xs = [.int i] ∧ i.natAbs.log2 < 1920 ∧ Q (.str (toString i)) H) ∨ (∃ z, xs = [.str z] ∧ Q (.str z) H) ∨ (∃ b : Bool, xs = [.bl b] ∧ Q (.str (if b then "True" else "False")) H) ∨
  (∃ a, xs = [.ref a] ∧ SqT K H a [] ∧ ∀ z : Str, z.length ≤ 8 → Q (.str z) H)
end
section
variable {prog : Program} {w : World} {A : Around} {E : Value → Shared → Prop} {s : Shared} {a : Addr}
theorem tup0_repr {Q : Value → Shared → Prop} (ht : IsTup s.heap a #[]) (hQ : ∀ (z : Str) u tk, z.length ≤ 8 → Q (.str z u) { s with toks := tk }) : wpAny (model prog w) A (call (.builtin "tuple.__repr__") [.ref a]) Q E s := by
  obtain ⟨o, ho, hc, n, hd⟩ := ht
  refine wpAny_call (codeAny_call_builtin_own (Code.quiet_builtin _ (by decide +kernel)) F.entry_tuple_repr ?_)
  refine F.slot_tuple_repr.check _ _ _ _ _ _ _ _ ⟨o, ho, hc⟩ (F.args_tuple_repr_1 _) (wpOwn_of_wpAny ?_)
  show wpAny _ _ (Builtin.tupleReprAt 0 ⟨[.ref a], []⟩) _ _ _
  rw [tuple_repr_tree, tupleReprUnderWay_eq]
  refine wpAny_bind (wpAny_bind (wpAny_stack fun st _ _ _ => wpAny_pure ?_))
  split
  · refine wpAny_bind (wpAny_rule ?_)
    unfold retStr
    refine wpAny_bind (wpAny_mkText (wpAny_pure ?_))
    exact hQ _ _ _ (by decide)
  · refine wpAny_tupleReprRest (ts := []) ho hd .nil (fun u tk => ?_) (by decide)
    exact hQ _ _ _ (by decide)
theorem str_tup0 {Q : Value → Shared → Prop} (ht : IsTup s.heap a #[]) (hu : A.units + 4 < cLine) (hQ : ∀ (z : Str) u tk, z.length ≤ 8 → Q (.str z u) { s with toks := tk }) : wpAny (model prog w) A (call (.type "str") [.ref a]) Q E s :=
  callType_new F.called_str (by decide) (F.typeCall_str_1 _) (F.newCall_str_1 _) (fun obj => F.args_object_init_2 obj _) F.entry_str_new
    (meets_str_new (S := fun A' R s' => A'.units + 2 < cLine ∧ IsTup s'.heap a #[] ∧ ∀ (z : Str) u tk, z.length ≤ 8 → R (.ok (.ret (.str z u))) { s' with toks := tk })
      fun prog' w' A' R s' h => by
        obtain ⟨h1, h2, h3⟩ := h
        have hT : s'.TypeIs (.ref a) "tuple" := by obtain ⟨o, ho, hc, _⟩ := h2; exact ⟨o, ho, hc⟩
        exact wpAny_strOf_slot (A := A'.in1) rfl (by show A'.units + 1 + 1 < cLine; omega) hT F.slot_tuple_str F.slot_tuple_repr (tup0_repr h2 fun z u tk hz => ⟨_, _, rfl, h3 z u tk hz⟩))
    ⟨by show A.units + 1 + 2 < cLine; omega, ht, fun z u tk hz => ⟨typeIs_str _ _ _, hQ z u tk hz⟩⟩
end
section
variable {X : Cx}
theorem call_strV (hu : X.A.units + 4 < cLine) : CallR X (.type "str") (rStr X.K) := by
  intro pins s σ H xs us Q I r h
  rcases h with ⟨i, rfl, hz, q⟩ | ⟨z, rfl, q⟩ | ⟨b, rfl, q⟩ | ⟨a, rfl, hT, q⟩
  · obtain ⟨u, rfl, t, rfl⟩ := Vals.one r
    exact PySem.P.str_of_int hz ⟨.str _, H, I.tok _, ⟨_, rfl⟩, q⟩
  · obtain ⟨u, rfl, t, rfl⟩ := Vals.one r
    exact PySem.P.str_of_str ⟨.str _, H, I, ⟨_, rfl⟩, q⟩
  · obtain ⟨u, rfl, e⟩ := Vals.one r
    cases e
    exact PySem.P.str_of_bool ⟨.str _, H, I.tok _, ⟨_, rfl⟩, q⟩
  · obtain ⟨u, rfl, e⟩ := Vals.one r
    cases e
    obtain ⟨its, r1, p1, _⟩ := I.tuple hT
    have e : its = [] := by
      have := r1.length
      cases its with
      | nil => rfl
      | cons _ _ => simp at this
    subst e
    exact str_tup0 p1 hu fun z u tk hz => ⟨.str z, H, I.tok _, ⟨_, rfl⟩, q z hz⟩
end
end L2

set_option Elab.async false
set_option linter.all false
set_option maxRecDepth 100000
namespace L2
open PySem PySem.Spec PyProof.Rows

section
variable {X : Cx}
/-- any(xs), a list of truth values -/
def rAny (K : PySem.W.Frag) : List V → Hp → VK → Prop := fun xs H Q => ∃ (p : Addr) (bs : List Bool), xs = [.ref p] ∧ SqL K H p (bs.map V.bl) ∧ Q (.bl (bs.any id)) H
theorem bools_at : ∀ {bs : List Bool} {its : List Value}, Vals (bs.map V.bl) its → its = bs.map Value.bool
  | [], _, .nil => rfl
  | b :: bs, _, .cons e r => by
    have e : _ = Value.bool b := e
    rw [e, bools_at (bs := bs) r]
    rfl
theorem any_range (bs : List Bool) : (List.range bs.length).any (fun i => bs.getD i false) = bs.any id := by
  induction bs with
  | nil => rfl
  | cons b bs ih =>
    rw [List.length_cons, List.range_succ_eq_map, List.any_cons, List.any_cons, List.any_map]
    simp only [List.getD_cons_zero, id]
    congr 1
theorem call_any (hc : X.calm = true) : CallR X (.builtin "any") (rAny X.K) := by
  intro pins s σ H xs us Q I r h
  obtain ⟨p, bs, rfl, hq, q⟩ := h
  obtain ⟨u, rfl, rx⟩ := Vals.one r
  cases rx
  obtain ⟨its, r', pl, hz⟩ := I.list hq
  have e := bools_at r'
  subst e
  have ne : p ≠ s.heap.objs.size := by
    obtain ⟨o, n, e, _⟩ := pl
    exact Nat.ne_of_lt (Heap.lt_size e)
  refine call_any_walk (wpAny_pyIter_list pl.isList ?_)
  refine ⟨s.heap.objs.size, _, _, _, _, _, fun i => bs.getD i false, rfl, Walks.list (prog := X.prog) (w := X.w) (A := X.A.in1) (show X.A.in1.handled = none from I.ok.hd hc) s.heap.objs.size p ne (bs.map Value.bool).toArray, ⟨⟨_, Heap.get?_push_size _ rfl, rfl, rfl⟩, pl.isList.push _⟩, ?_, fun h' tk hk => ?_⟩
  · intro i v s' Q' E' hP hQ
    have hP : (bs.map Value.bool)[i]? = some v := by simpa using hP
    rw [List.getElem?_map] at hP
    cases e : bs[i]? with
    | none => rw [e] at hP; cases hP
    | some b =>
      rw [e] at hP
      cases hP
      have eb : bs.getD i false = b := by simp [List.getD, e]
      have hQ : Q' (bs.getD i false) s' := hQ
      rw [eb] at hQ
      exact wpAny_pure hQ
  · have ea : (List.range (bs.map Value.bool).toArray.size).any (fun i => bs.getD i false) = bs.any id := by
      rw [List.size_toArray, List.length_map]
      exact any_range bs
    rw [ea]
    refine ⟨.bl (bs.any id), H, I.kept (fun b o e => hk b o ?_ (Heap.get?_push_of_some _ e)), rfl, q⟩
    intro hm
    have : b = s.heap.objs.size := by simpa using hm
    exact absurd (Heap.lt_size e) (by rw [this]; exact Nat.lt_irrefl _)
/-- an expression that is not reached -/
theorem pe_never {e : Expr} : PE X e (fun _ _ _ => False) := fun _ _ _ _ _ _ h => h.elim
/-- isinstance(e, D) of the caught exception at a, of the class C -/
def rIsiX (K : PySem.W.Frag) (a C : Addr) : List V → Hp → VK → Prop := fun xs H Q => ∃ D b, xs = [.ref a, .ref D] ∧ PySem.W.kitOne K (.ref C) (.ref D) = some b ∧ Q (.bl b) H
theorem call_isiX {a C : Addr} {oe : Obj} (hp : (a, oe) ∈ X.pn) (hc : oe.cls = .ref C) (c : XCls X.K C) : CallR X (.builtin "isinstance") (rIsiX X.K a C) := by
  intro pins s σ H xs us Q I r h
  obtain ⟨D, b, rfl, e, q⟩ := h
  obtain ⟨u, v, rfl, r1, r2⟩ := Vals.two r
  cases r1
  cases r2
  have hpin := I.pin (a, oe) (List.mem_append_left _ hp)
  exact PySem.W.kia_one (kitx_exc c) I.kIn ⟨oe, hpin.1, hc⟩ e (fun z => nomatch z) fun tk => ⟨.bl b, H, I.tok tk, rfl, q⟩
end
section
variable {K : PySem.W.Frag} {H : Hp} {Q : VK}
theorem r_any {p : Addr} {bs : List Bool} (h : SqL K H p (bs.map V.bl)) (q : Q (.bl (bs.any id)) H) : rAny K [.ref p] H Q := ⟨p, bs, rfl, h, q⟩
theorem r_isiX {a C D : Addr} {b : Bool} (e : PySem.W.kitOne K (.ref C) (.ref D) = some b) (q : Q (.bl b) H) : rIsiX K a C [.ref a, .ref D] H Q := ⟨D, b, rfl, e, q⟩
theorem r_strI {i : Int} (h : i.natAbs.log2 < 1920) (q : Q (.str (toString i)) H) : rStr K [.int i] H Q := .inl ⟨i, rfl, h, q⟩
theorem r_strS {z : Str} (q : Q (.str z) H) : rStr K [.str z] H Q := .inr (.inl ⟨z, rfl, q⟩)
theorem r_join {sep : Str} {p : Addr} {ts : List Str} (h : SqL K H p (ts.map V.str)) (ok : JoinOk sep ts = true) (q : Q (.str (Txt.join sep ts)) H) : rJoin K (.str sep) [.ref p] H Q := ⟨sep, p, ts, rfl, rfl, h, ok, q⟩
theorem r_callX {sp : Sp} {tA : TA} {σ : St} {dvs : List V} {E : XK} (q : tA σ H fun vs H1 => sp (vs ++ dvs) H1 Q E) : tCall sp dvs E tA σ H Q := q
theorem r_meth {C : Addr} {m : Str} {sp : Sp} {dvs : List V} {E : XK} {ta : TE} {tA : TA} {σ : St} (q : ta σ H fun x H1 => ∃ a dx fs, x = .ref a ∧ H1 a = some (.ins C dx fs) ∧ fs.lookup m = none ∧ tA σ H1 fun vs H2 => sp (x :: (vs ++ dvs)) H2 Q E) :
    tMeth C m sp dvs E ta tA σ H Q := q
theorem r_methA {C : Addr} {m : Str} {a dx : Addr} {fs : List (Str × V)} {q' : Prop} (h : H a = some (.ins C dx fs)) (l : fs.lookup m = none) (q : q') : ∃ a' dx fs, V.ref a = .ref a' ∧ H a' = some (.ins C dx fs) ∧ fs.lookup m = none ∧ q' := ⟨a, dx, fs, rfl, h, l, q⟩
theorem r_fld {ta : TE} {f : Str} {σ : St} (q : ta σ H fun x H1 => ∃ a C dx fs v, x = .ref a ∧ H1 a = some (.ins C dx fs) ∧ Cls K C ∧ NoAttr K C f ∧ fs.lookup f = some v ∧ Q v H1) : tFld K ta f σ H Q := q
end
open PySem.W in
theorem cls_some {K : Frag} {D : Addr} (h : hasDictIn K D = true) : (clsIn K D).isSome = true := by
  obtain ⟨cd, hc, _⟩ := any_some h
  rw [hc]
  rfl
open PySem.W in
theorem kit_cls_of {K : Frag} {C D : Addr} {b : Bool} (h1 : hasDictIn K D = true) (h2 : typeIn K (.ref D) = some (.type "type")) (h3 : subIn K (.ref C) (.ref D) = some b) : kitCls K (.ref C) (.ref D) = some b := by
  unfold kitCls
  dsimp only
  rw [cls_some h1, h2, if_pos (by decide +kernel), h3]
open PySem.W in
theorem kit_ff {K : Frag} {C D : Addr} {b : Bool} (h1 : hasDictIn K D = true) (h2 : typeIn K (.ref D) = some (.type "type")) (h3 : subIn K (.ref C) (.ref D) = some b) (h4 : (Value.ref C == Value.ref D) = false) : kitOne K (.ref C) (.ref D) = some b := by
  unfold kitOne
  rw [h4, if_neg Bool.false_ne_true]
  exact kit_cls_of h1 h2 h3
open PySem.W in
theorem kit_tt {K : Frag} {C : Addr} : kitOne K (.ref C) (.ref C) = some true := by
  unfold kitOne
  rw [if_pos (beq_self_eq_true _)]
open PySem.W in
theorem exm_tt {K : Frag} {C D : Addr} (h1 : hasDictIn K D = true) (h2 : typeIn K (.ref D) = some (.type "type")) (h3 : subIn K (.ref C) (.ref D) = some true) (h4 : subIn K (.ref D) (.type "BaseException") = some true) : exmOne K (.ref C) (.ref D) = some true := by
  unfold exmOne
  rw [h4, if_pos (by decide +kernel)]
  exact kit_cls_of h1 h2 h3
theorem list1 {us : List Value} (h : us.length = 1) : ∃ a, us = [a] := match us, h with | [a], _ => ⟨a, rfl⟩
theorem list2 {us : List Value} (h : us.length = 2) : ∃ a b, us = [a, b] := match us, h with | [a, b], _ => ⟨a, b, rfl⟩
end L2

set_option Elab.async false
set_option linter.all false
set_option maxRecDepth 100000
/-! len(set(xs)) of a list of ints -/
namespace L2
open PySem PySem.Spec PyProof.Rows
/-- how many numbers of a list are unlike -/
def setN (ns : List Int) : Nat := (PyProof.Rows.firstMet (fun i => ns.getD i 0) ns.length).length
theorem ints_of : ∀ {ns : List Int} {its : List Value}, Vals (ns.map V.int) its → PyProof.Rows.IntsAre its ns
  | [], its, r => by cases r; exact .nil
  | k :: ks, its, r => by
    cases r with
    | cons h hr =>
      obtain ⟨t, rfl⟩ := h
      exact .cons _ _ (ints_of hr)
section
variable {X : Cx}
def tLenSetI (K : PySem.W.Frag) (ta : TA) : TE := fun σ H Q => ta σ H fun vs H1 => ∃ (l : Addr) (ns : List Int), vs = [.ref l] ∧ SqL K H1 l (ns.map V.int) ∧ ns.length ≤ 1000 ∧ Q (.int (setN ns)) H1
theorem pe_lensetI {a : Expr} {ta : TA} {p p2 pos pos2 : Pos} {k : Nat} (hr : Room k X.A) (hc : X.calm = true) (hg : Gl X "len") (hm : X.mg "len" = none) (hg2 : Gl X "set") (hm2 : X.mg "set" = none) (ha : PA X [a] ta)
    (he1 : starEach [Expr.Call (.Name "set" p2) [a] [] pos2] X.env = (false, eval (Expr.Call (.Name "set" p2) [a] [] pos2) X.env) :: starEach [] X.env := by rfl)
    (hp1 : (backTo pos (starEach [] X.env)).any (·.1) = false := by rfl)
    (he2 : starEach [a] X.env = (false, eval a X.env) :: starEach [] X.env := by rfl) (hp2 : (backTo pos2 (starEach [] X.env)).any (·.1) = false := by rfl) :
    PE X (.Call (.Name "len" p) [.Call (.Name "set" p2) [a] [] pos2] [] pos) (tLenSetI X.K ta) := by
  intro pins s σ H Q I h
  refine wpAny_Call_Name_kw (ld_blt I hg hm PySem.boot_len ?_)
  refine PyProof.Rows.callWith_builtin1 ?_ he1 hp1
  rw [he1]
  show wpAny _ _ (spliced ((false, eval (Expr.Call (.Name "set" p2) [a] [] pos2) X.env) :: backTo pos (starEach [] X.env))) _ _ s
  refine Calls.spliced_cons ?_
  refine wpAny_Call_Name_kw (ld_blt I hg2 hm2 PyProof.Rows.boot_set ?_)
  refine PyProof.Rows.callWith_type1 (thn (ha pos2 pins s σ H _ I h) fun us s1 ⟨vs, H1, I1, r1, q1⟩ => ?_) he2 hp2
  obtain ⟨l, ns, rfl, hl, hn, q⟩ := q1
  obtain ⟨u, rfl, ru⟩ := vals1 r1
  cases ru
  obtain ⟨its, ri, pl, _⟩ := I1.list hl
  have hlr : its.length = ns.length := by rw [← ri.length, List.length_map]
  refine PySem.call_set_list (I1.ok.hd hc) pl.isList (ints_of (by simpa using ri)) (by simp only [List.size_toArray, hlr]; exact Nat.lt_of_le_of_lt (Nat.succ_le_succ hn) (by decide)) fun h' tk hS hk => ?_
  have I2 : Inv X pins σ H1 { s1 with heap := h', toks := tk } := I1.kept fun b o e => hk b o (Heap.lt_size e) e
  refine Calls.spliced_nil ?_
  obtain ⟨o, es, ep, t, ho, hex, hd, _, _, _, hf, hz⟩ := hS
  have hz2 : es.size = setN ns := by rw [hz, List.size_toArray, hlr]; rfl
  have hle : setN ns ≤ 1000 := Nat.le_trans (PyProof.Rows.firstMet_length_le _ _) hn
  refine call_len_set ho hex hd hf (by omega) ⟨.int (setN ns), H1, I2.tok _, ⟨_, by rw [hz2]⟩, q⟩
theorem r_lensetI {K : PySem.W.Frag} {tA : TA} {σ : St} {H : Hp} {Q : VK} (q : tA σ H fun vs H1 => ∃ (l : Addr) (ns : List Int), vs = [.ref l] ∧ SqL K H1 l (ns.map V.int) ∧ ns.length ≤ 1000 ∧ Q (.int (setN ns)) H1) : tLenSetI K tA σ H Q := q
end
end L2

set_option Elab.async false
set_option linter.all false
set_option maxRecDepth 100000
namespace L2
open PySem PySem.Spec PyProof.Rows

theorem r_chain {r r' : R2} {ta tb tc : TE} {σ : St} {H : Hp} {Q : VK} (q : ta σ H fun x H1 => tb σ H1 fun y H2 => r x y H2 fun z H3 => ∃ k, z = .bl k ∧ (if k = true then tc σ H3 fun w' H4 => r' y w' H4 Q else Q (.bl false) H3)) : tChain r r' ta tb tc σ H Q := q
theorem rEqL_nl {K : PySem.W.Frag} {H : Hp} {Q : VK} {a b : Addr} {xs : List V} (ha : SqL K H a xs) (hb : SqL K H b []) (q : Q (.bl (decide (xs = []))) H) : rEqL K (.ref a) (.ref b) H Q := rEqL_nil ha hb q
theorem rNeL_nl {K : PySem.W.Frag} {H : Hp} {Q : VK} {a b : Addr} {xs : List V} (ha : SqL K H a xs) (hb : SqL K H b []) (q : Q (.bl (!decide (xs = []))) H) : rNeL K (.ref a) (.ref b) H Q := by
  cases xs with
  | nil => exact rNeL_nil ha hb q
  | cons x xs => exact ⟨a, b, _, _, rfl, rfl, ha, hb, .inl ⟨by simp, q⟩⟩
/-! ### the rows of a book, and what stands by them -/
inductive Rw where
  | claim (n d c a b w : Int)
  | carry (n d c : Int)
  | step (n d t s : Int) (k : Str) (m : Int) (l : Str)
  | offer (n d t c a : Int)
  | rule (n d t : Int) (bk : Bool) (ws : List (List Int))
  | pay (n d s p c : Int)
  | dun (n d s : Int)
def Rw.num : Rw → Int
  | .claim n .. => n | .carry n .. => n | .step n .. => n | .offer n .. => n | .rule n .. => n | .pay n .. => n | .dun n .. => n
def Rw.day : Rw → Int
  | .claim _ d .. => d | .carry _ d .. => d | .step _ d .. => d | .offer _ d .. => d | .rule _ d .. => d | .pay _ d .. => d | .dun _ d .. => d
def Rw.word : Rw → Str
  | .claim .. => "claim" | .carry .. => "carry" | .step .. => "step" | .offer .. => "offer" | .rule .. => "rule" | .pay .. => "pay" | .dun .. => "dun"
/-- tuples stay -/
def TupS (H H' : Hp) : Prop := ∀ b xs, H b = some (.tup xs) → H' b = some (.tup xs)
theorem Same.tupS {H H' : Hp} (s : Same H H') : TupS H H' := fun b xs e => s b _ e
theorem TupS.trans {H H1 H2 : Hp} (a : TupS H H1) (b : TupS H1 H2) : TupS H H2 := fun c xs e => b c xs (a c xs e)
theorem TupS.refl (H : Hp) : TupS H H := fun _ _ e => e
theorem TupS.lst {H : Hp} {p : Addr} {xs ys : List V} (h : H p = some (.lst xs)) : TupS H (upd H p (.lst ys)) := fun b zs e => by
  rw [upd_ne (ne_of e h (by intro z; cases z))]
  exact e
theorem TabIs.tupS {H H' : Hp} {as : List Addr} {rows : List (List Int)} (t : TabIs H as rows) (s : TupS H H') : TabIs H' as rows := ⟨t.1, fun j a r e1 e2 => s _ _ (t.2 j a r e1 e2)⟩
/-- the wins of a ruling: a tuple of pairs -/
def WsAt (H : Hp) (q : Addr) (ws : List (List Int)) : Prop := ∃ as, H q = some (.tup (List.map V.ref as)) ∧ TabIs H as ws ∧ (∀ x ∈ ws, x.length = 2) ∧ ws.length ≤ 1000
theorem WsAt.mono {H H' : Hp} {q : Addr} {ws : List (List Int)} (t : TupS H H') (h : WsAt H q ws) : WsAt H' q ws := by
  obtain ⟨as, h1, h2, h3⟩ := h
  exact ⟨as, t _ _ h1, h2.tupS t, h3⟩
/-- the row's tuple at p -/
def RowAt (H : Hp) (p : Addr) : Rw → Prop
  | .claim n d c a b w => H p = some (.tup [.int n, .str "claim", .int d, .int c, .int a, .int b, .int w])
  | .carry n d c => H p = some (.tup [.int n, .str "carry", .int d, .int c])
  | .step n d t s k m l => H p = some (.tup [.int n, .str "step", .int d, .int t, .int s, .str k, .int m, .str l])
  | .offer n d t c a => H p = some (.tup [.int n, .str "offer", .int d, .int t, .int c, .int a])
  | .rule n d t bk ws => ∃ q, H p = some (.tup [.int n, .str "rule", .int d, .int t, .bl bk, .ref q]) ∧ WsAt H q ws
  | .pay n d s q c => H p = some (.tup [.int n, .str "pay", .int d, .int s, .int q, .int c])
  | .dun n d s => H p = some (.tup [.int n, .str "dun", .int d, .int s])
theorem RowAt.mono {H H' : Hp} {p : Addr} {r : Rw} (t : TupS H H') (h : RowAt H p r) : RowAt H' p r := by
  cases r with
  | rule n d t' bk ws => obtain ⟨q, h1, h2⟩ := h; exact ⟨q, t _ _ h1, h2.mono t⟩
  | _ => exact t _ _ h
/-- what every row has -/
theorem RowAt.head {H : Hp} {p : Addr} {r : Rw} (h : RowAt H p r) : ∃ xs, H p = some (.tup (.int r.num :: .str r.word :: .int r.day :: xs)) := by
  cases r with
  | rule n d t' bk ws => obtain ⟨q, h1, h2⟩ := h; exact ⟨_, h1⟩
  | _ => exact ⟨_, h⟩
def RowsAt (H : Hp) (ps : List Addr) (rows : List Rw) : Prop := ps.length = rows.length ∧ ∀ (i : Nat) (p : Addr) (r : Rw), ps[i]? = some p → rows[i]? = some r → RowAt H p r
theorem RowsAt.mono {H H' : Hp} {ps : List Addr} {rows : List Rw} (t : TupS H H') (h : RowsAt H ps rows) : RowsAt H' ps rows := ⟨h.1, fun i p r e1 e2 => (h.2 i p r e1 e2).mono t⟩
theorem RowsAt.nil {H : Hp} : RowsAt H [] [] := ⟨rfl, fun i p r e => by simp at e⟩
theorem RowsAt.push {H : Hp} {ps : List Addr} {rows : List Rw} {p : Addr} {r : Rw} (h : RowsAt H ps rows) (hp : RowAt H p r) : RowsAt H (ps ++ [p]) (rows ++ [r]) := by
  refine ⟨by simp [h.1], fun i q r' e1 e2 => ?_⟩
  by_cases hi : i < ps.length
  · rw [List.getElem?_append_left hi] at e1
    rw [List.getElem?_append_left (by rw [← h.1]; exact hi)] at e2
    exact h.2 i q r' e1 e2
  · have l1 : ps.length ≤ i := by omega
    rw [List.getElem?_append_right l1] at e1
    rw [List.getElem?_append_right (by rw [← h.1]; exact l1), ← h.1] at e2
    by_cases h0 : i - ps.length = 0
    · rw [h0] at e1 e2
      cases e1
      cases e2
      exact hp
    · obtain ⟨k, hk⟩ : ∃ k, i - ps.length = k + 1 := ⟨i - ps.length - 1, by omega⟩
      rw [hk] at e1
      simp at e1

/-! rounds: the claims of each, a claim as its four numbers -/
abbrev Rds := List (List (List Int))
def putR (rs : Rds) : Rw → Rds
  | .claim _ _ c a b w => match rs with
    | [] => []
    | r :: t => (r ++ [[c, a, b, w]]) :: t
  | .rule .. => rs ++ [[]]
  | .carry _ _ c => match (rs.getD (rs.length - 2) []).find? (fun x => x.getD 0 0 == c) with
    | some x => rs.set (rs.length - 1) (rs.getD (rs.length - 1) [] ++ [x])
    | none => rs
  | _ => rs
/-- what a row needs for being put -/
def OkPut (rs : Rds) : Rw → Prop
  | .carry _ _ c => 2 ≤ rs.length ∧ ((rs.getD (rs.length - 2) []).any fun x => x.getD 0 0 == c) = true
  | _ => True
def roundsR (rows : List Rw) : Rds := rows.foldl putR [[]]
theorem roundsR_snoc (rows : List Rw) (r : Rw) : roundsR (rows ++ [r]) = putR (roundsR rows) r := by simp [roundsR]
structure RdsAt (H : Hp) (p : Addr) (ls : List Addr) (rs : Rds) : Prop where
  at_ : H p = some (.lst (ls.map V.ref))
  len : ls.length = rs.length
  nd : ls.Nodup
  np : p ∉ ls
  ro : ∀ (i : Nat) (l : Addr) (r : List (List Int)), ls[i]? = some l → rs[i]? = some r → ∃ cs, H l = some (.lst (cs.map V.ref)) ∧ TabIs H cs r
theorem RdsAt.same {H H' : Hp} {p : Addr} {ls : List Addr} {rs : Rds} (s : Same H H') (h : RdsAt H p ls rs) : RdsAt H' p ls rs :=
  ⟨s _ _ h.at_, h.len, h.nd, h.np, fun i l r e1 e2 => let ⟨cs, a, b⟩ := h.ro i l r e1 e2; ⟨cs, s _ _ a, b.same s⟩⟩

theorem TabIs.snoc {H : Hp} {cs : List Addr} {r : List (List Int)} {t : Addr} {x : List Int} (h : TabIs H cs r) (ht : H t = some (.tup (x.map V.int))) : TabIs H (cs ++ [t]) (r ++ [x]) :=
  h.cat ⟨rfl, fun j a y e1 e2 => by
    cases j with
    | zero => cases e1; cases e2; exact ht
    | succ j => simp at e1⟩
theorem RdsAt.push {H : Hp} {p l t : Addr} {ls cs : List Addr} {r : List (List Int)} {rs : Rds} {x : List Int} {i : Nat} (R : RdsAt H p ls rs) (e1 : ls[i]? = some l) (e2 : rs[i]? = some r) (c1 : H l = some (.lst (cs.map V.ref))) (c2 : TabIs H cs r) (ht : H t = some (.tup (x.map V.int))) :
    RdsAt (upd H l (.lst (cs.map V.ref ++ [.ref t]))) p ls (rs.set i (r ++ [x])) := by
  have ts : TupS H (upd H l (.lst (cs.map V.ref ++ [.ref t]))) := TupS.lst c1
  have hl : l ∈ ls := List.mem_of_getElem? e1
  have hi : i < ls.length := (List.getElem?_eq_some_iff.mp e1).1
  refine ⟨?_, by rw [List.length_set]; exact R.len, R.nd, R.np, fun j m r' f1 f2 => ?_⟩
  · rw [upd_ne (fun z => R.np (by rw [z]; exact hl))]
    exact R.at_
  · by_cases hj : i = j
    · subst hj
      rw [e1] at f1
      cases f1
      rw [List.getElem?_set_self (by rw [← R.len]; exact hi)] at f2
      cases f2
      refine ⟨cs ++ [t], by rw [upd_same, List.map_append]; rfl, ?_⟩
      exact (c2.tupS ts).snoc (ts _ _ ht)
    · rw [List.getElem?_set_ne hj] at f2
      obtain ⟨cs', a1, a2⟩ := R.ro j m r' f1 f2
      have ml : m ≠ l := fun z => hj (by
        refine (List.getElem?_inj hi R.nd).mp ?_
        rw [e1, f1, z])
      exact ⟨cs', by rw [upd_ne ml]; exact a1, a2.tupS ts⟩
theorem RdsAt.add {H : Hp} {p e : Addr} {ls : List Addr} {rs : Rds} (R : RdsAt H p ls rs) (ne : H e = none) :
    RdsAt (upd (upd H e (.lst [])) p (.lst (ls.map V.ref ++ [.ref e]))) p (ls ++ [e]) (rs ++ [[]]) := by
  have s1 : Same H (upd H e (.lst [])) := Same.new ne
  have hp1 := s1 _ _ R.at_
  have ts : TupS (upd H e (.lst [])) (upd (upd H e (.lst [])) p (.lst (ls.map V.ref ++ [.ref e]))) := TupS.lst hp1
  have pe : p ≠ e := fun z => by have := R.at_; rw [z, ne] at this; cases this
  have lne : ∀ l ∈ ls, l ≠ e := fun l hl z => by
    obtain ⟨i, hi, ei⟩ := List.getElem_of_mem hl
    have hir : i < rs.length := by rw [← R.len]; exact hi
    obtain ⟨cs, a1, _⟩ := R.ro i l rs[i] (by simp [hi, ei]) (by simp [hir])
    rw [z, ne] at a1
    cases a1
  refine ⟨by rw [upd_same, List.map_append]; rfl, by simp [R.len], ?_, ?_, fun i m r e1 e2 => ?_⟩
  · rw [List.nodup_append]
    exact ⟨R.nd, by simp, fun x hx y hy => by rw [List.mem_singleton.mp hy]; exact lne x hx⟩
  · intro z
    rcases List.mem_append.mp z with z | z
    · exact R.np z
    · exact pe (List.mem_singleton.mp z)
  · by_cases hi : i < ls.length
    · rw [List.getElem?_append_left hi] at e1
      rw [List.getElem?_append_left (by rw [← R.len]; exact hi)] at e2
      obtain ⟨cs, a1, a2⟩ := R.ro i m r e1 e2
      have mp : m ≠ p := fun z => R.np (by rw [← z]; exact List.mem_of_getElem? e1)
      exact ⟨cs, by rw [upd_ne mp]; exact s1 _ _ a1, (a2.same s1).tupS ts⟩
    · have l1 : ls.length ≤ i := by omega
      rw [List.getElem?_append_right l1] at e1
      rw [List.getElem?_append_right (by rw [← R.len]; exact l1), ← R.len] at e2
      by_cases h0 : i - ls.length = 0
      · rw [h0] at e1 e2
        cases e1
        cases e2
        exact ⟨[], by rw [upd_ne (Ne.symm pe), upd_same]; rfl, TabIs.nil⟩
      · obtain ⟨k, hk⟩ : ∃ k, i - ls.length = k + 1 := ⟨i - ls.length - 1, by omega⟩
        rw [hk] at e1
        simp at e1
theorem putR_ne {rs : Rds} {r : Rw} (h : rs ≠ []) : putR rs r ≠ [] := by
  cases r with
  | claim n d c a b w => cases rs with
    | nil => exact absurd rfl h
    | cons x y => intro z; cases z
  | rule n d t bk => intro z; exact absurd (List.append_eq_nil_iff.mp z).2 (by simp)
  | carry n d c =>
    intro z
    unfold putR at z
    dsimp only at z
    split at z
    · exact h (by rw [← List.length_eq_zero_iff] at z ⊢; rwa [List.length_set] at z)
    · exact h z
  | _ => exact h
theorem rdsD_mem {rs : Rds} {i : Nat} {x : List Int} (h : x ∈ rs.getD i []) : rs.getD i [] ∈ rs := by
  by_cases hi : i < rs.length
  · have e : rs.getD i [] = rs[i] := by simp [List.getD, hi]
    rw [e]
    exact List.getElem_mem hi
  · have e : rs.getD i [] = [] := by simp [List.getD, Nat.not_lt.mp hi]
    rw [e] at h
    cases h
theorem roundsR_take (rows : List Rw) : ∀ n, n ≤ rows.length → roundsR (rows.take n) ≠ [] ∧ (roundsR (rows.take n)).length ≤ n + 1 ∧ ∀ x ∈ roundsR (rows.take n), x.length ≤ n ∧ ∀ y ∈ x, y.length = 4 := by
  intro n
  induction n with
  | zero => intro _; refine ⟨by simp [roundsR], by simp [roundsR], fun x hx => ?_⟩; simp [roundsR] at hx; subst hx; exact ⟨by simp, fun y hy => nomatch hy⟩
  | succ n ih =>
    intro hn
    obtain ⟨h1, h2, h3⟩ := ih (by omega)
    have e : rows.take (n + 1) = rows.take n ++ [rows[n]] := by rw [List.take_succ_eq_append_getElem (by omega)]
    rw [e, roundsR_snoc]
    refine ⟨putR_ne h1, ?_⟩
    generalize roundsR (List.take n rows) = rs at h1 h2 h3
    cases rows[n] with
    | claim n' d c a b w =>
      cases rs with
      | nil => exact absurd rfl h1
      | cons x y =>
        refine ⟨by simp only [putR, List.length_cons] at h2 ⊢; omega, fun z hz => ?_⟩
        rcases List.mem_cons.mp hz with rfl | hz
        · have := h3 x List.mem_cons_self
          refine ⟨by simp; exact this.1, fun u hu => ?_⟩
          rcases List.mem_append.mp hu with hu | hu
          · exact this.2 u hu
          · rw [List.mem_singleton.mp hu]; rfl
        · have := h3 z (List.mem_cons_of_mem _ hz)
          exact ⟨by omega, this.2⟩
    | rule n' d t bk =>
      refine ⟨by simp only [putR, List.length_append, List.length_cons, List.length_nil]; omega, fun z hz => ?_⟩
      rcases List.mem_append.mp hz with hz | hz
      · have := h3 z hz
        exact ⟨by omega, this.2⟩
      · rw [List.mem_singleton.mp hz]
        exact ⟨by simp, fun y hy => nomatch hy⟩
    | carry n' d c =>
      unfold putR
      dsimp only
      split
      · rename_i x ex
        refine ⟨by rw [List.length_set]; exact Nat.le_succ_of_le h2, fun z hz => ?_⟩
        rcases List.mem_or_eq_of_mem_set hz with hz | rfl
        · have := h3 z hz
          exact ⟨by omega, this.2⟩
        · have mx := List.mem_of_find?_eq_some ex
          have x4 := (h3 _ (rdsD_mem mx)).2 x mx
          have ll : (rs.getD (rs.length - 1) []).length ≤ n ∧ ∀ y ∈ rs.getD (rs.length - 1) [], y.length = 4 := by
            have l1 : rs.length - 1 < rs.length := by
              have : 0 < rs.length := List.length_pos_iff.mpr h1
              omega
            have e : rs.getD (rs.length - 1) [] = rs[rs.length - 1] := by simp [List.getD, l1]
            rw [e]
            exact h3 _ (List.getElem_mem l1)
          refine ⟨by rw [List.length_append, List.length_singleton]; omega, fun u hu => ?_⟩
          rcases List.mem_append.mp hu with hu | hu
          · exact ll.2 u hu
          · rw [List.mem_singleton.mp hu]; exact x4
      · refine ⟨Nat.le_succ_of_le h2, fun z hz => ?_⟩
        have := h3 z hz
        exact ⟨by omega, this.2⟩
    | _ =>
      refine ⟨Nat.le_succ_of_le h2, fun z hz => ?_⟩
      have := h3 z hz
      exact ⟨by omega, this.2⟩
theorem roundsR_ok (rows : List Rw) : roundsR rows ≠ [] ∧ (roundsR rows).length ≤ rows.length + 1 ∧ ∀ x ∈ roundsR rows, x.length ≤ rows.length ∧ ∀ y ∈ x, y.length = 4 := by
  have := roundsR_take rows rows.length (Nat.le_refl _)
  rw [List.take_length] at this
  exact this
/-- the claim of a number among claims -/
def Hit (H : Hp) (r : List (List Int)) (c : Int) (v : V) : Prop := match r.find? (fun x => x.getD 0 0 == c) with
  | none => v = .non
  | some x => ∃ b, v = .ref b ∧ H b = some (.tup (x.map V.int))
theorem Hit.non {H : Hp} {r : List (List Int)} {c : Int} {v : V} (h : Hit H r c v) : decide (v = .non) = !(r.any fun x => x.getD 0 0 == c) := by
  unfold Hit at h
  split at h
  · rename_i e
    have : r.any (fun x => x.getD 0 0 == c) = false := by
      rw [List.any_eq_false]
      intro x hx
      have := List.find?_eq_none.mp e x hx
      exact this
    rw [h, this]
    rfl
  · rename_i x e
    have : r.any (fun x => x.getD 0 0 == c) = true := by
      rw [List.any_eq_true]
      exact ⟨x, List.mem_of_find?_eq_some e, by have := List.find?_some e; exact this⟩
    obtain ⟨b, hb, _⟩ := h
    rw [hb, this]
    rfl
theorem Hit.found {H : Hp} {r : List (List Int)} {c : Int} {v : V} (h : Hit H r c v) (ha : (r.any fun x => x.getD 0 0 == c) = true) : ∃ x b, r.find? (fun x => x.getD 0 0 == c) = some x ∧ v = .ref b ∧ H b = some (.tup (x.map V.int)) := by
  unfold Hit at h
  split at h
  · rename_i e
    obtain ⟨x, hx, h2⟩ := List.any_eq_true.mp ha
    exact absurd h2 (List.find?_eq_none.mp e x hx)
  · rename_i x e
    obtain ⟨b, h1, h2⟩ := h
    exact ⟨x, b, e, h1, h2⟩
theorem atI_refs_m2 {as : List Addr} (h : 2 ≤ as.length) : atI (as.map V.ref) (-2) = some (V.ref (as.getD (as.length - 2) 0)) := by
  have h2 : as.length - 2 < as.length := by omega
  have e : ixN (as.map V.ref).length (-2) = some (as.length - 2) := by
    unfold ixN
    rw [List.length_map, if_neg (by decide), if_pos (by omega)]
    congr 1
    omega
  unfold atI
  rw [e]
  simp [h2, List.getD]
theorem passN {P : Program} {w : World} {X : Cx} : Passes (CX1 P w) X E0 := fun _ _ _ _ _ _ _ h => by
  obtain h := h
  unfold CX1 at h
  simp [E0] at h
def claimsR (rs : Rds) (t : Int) : List (List Int) := if 0 ≤ t ∧ t < (rs.length : Int) then rs.getD t.toNat [] else []

/-! ### refusals -/
def lacksR (rs : Rds) : Rw → Bool
  | .carry _ _ c => !((claimsR rs ((rs.length : Int) - 1 - 1)).any fun x => x.getD 0 0 == c)
  | .step _ _ t _ _ _ _ => (claimsR rs t).isEmpty
  | .offer _ _ t c _ => !((claimsR rs t).any fun x => x.getD 0 0 == c)
  | .rule _ _ t _ ws => (claimsR rs t).isEmpty || ws.any fun x => !((claimsR rs t).any fun y => y.getD 0 0 == x.getD 0 0)
  | _ => false
def meetsR (rs : Rds) : Rw → Bool
  | .claim .. => decide ((rs.length : Int) - 1 > 0)
  | .carry .. => decide ((rs.length : Int) - 1 = 3)
  | .step _ _ t _ _ _ _ => decide (t < (rs.length : Int) - 1)
  | .offer _ _ t _ _ => decide (t < (rs.length : Int) - 1)
  | .rule _ _ t _ _ => decide (t < (rs.length : Int) - 1)
  | _ => false
def nmsR (ws : List (List Int)) : List Int := ws.map fun x => x.getD 0 0
def twiceR (rs : Rds) : Rw → Bool
  | .rule _ _ _ _ ws => decide (((setN (nmsR ws) : Nat) : Int) < (((nmsR ws).length : Nat) : Int))
  | .claim _ _ c _ _ _ => (rs.getD 0 []).any fun x => x.getD 0 0 == c
  | .carry _ _ c => (rs.getD (rs.length - 1) []).any fun x => x.getD 0 0 == c
  | _ => false
def worthR (rs : Rds) (t c : Int) : Int := (((claimsR rs t).find? (fun x => x.getD 0 0 == c)).getD []).getD 3 0
def muchR (rs : Rds) : Rw → Bool
  | .rule _ _ t _ ws => ws.any fun x => decide (x.getD 1 0 > worthR rs t (x.getD 0 0))
  | .offer _ _ t c a => decide (a > worthR rs t c)
  | _ => false
def lateR (last : Option Int) (r : Rw) : Bool := match last with
  | none => false
  | some d => decide (r.day < d)
/-- 0 full, 1 no such claim, 2 round over, 3 too late, 4 twice, 5 too much -/
def refuseR (rs : Rds) (last : Option Int) (wr : Int) (r : Rw) : Option Nat :=
  if 300 ≤ wr then some 0
  else if lacksR rs r = true then some 1
  else if meetsR rs r = true then some 2
  else if lateR last r = true then some 3
  else if twiceR rs r = true then some 4
  else if muchR rs r = true then some 5
  else none
theorem okPut_of {rs : Rds} {last : Option Int} {wr : Int} {r : Rw} (h : refuseR rs last wr r = none) : OkPut rs r := by
  cases r with
  | carry n d c =>
    have hl : lacksR rs (.carry n d c) = false := by
      cases e : lacksR rs (.carry n d c) with
      | false => rfl
      | true =>
        unfold refuseR at h
        rw [if_pos e] at h
        split at h <;> cases h
    have ha : ((claimsR rs ((rs.length : Int) - 1 - 1)).any fun x => x.getD 0 0 == c) = true := by
      have : (!((claimsR rs ((rs.length : Int) - 1 - 1)).any fun x => x.getD 0 0 == c)) = false := hl
      simpa using this
    unfold claimsR at ha
    split at ha
    · rename_i z
      have e : ((rs.length : Int) - 1 - 1).toNat = rs.length - 2 := by omega
      rw [e] at ha
      exact ⟨by omega, ha⟩
    · cases ha
  | _ => trivial
/-- rows that can be put one after another -/
inductive OkRows : List Rw → Prop
  | nil : OkRows []
  | snoc {rows r} : OkRows rows → OkPut (roundsR rows) r → OkRows (rows ++ [r])
theorem OkRows.at {rows : List Rw} (h : OkRows rows) : ∀ (i : Nat) (hi : i < rows.length), OkPut (roundsR (rows.take i)) rows[i] := by
  induction h with
  | nil => intro i hi; cases hi
  | @snoc rows r h1 h2 ih =>
    intro i hi
    by_cases hi2 : i < rows.length
    · rw [List.take_append_of_le_length (by omega), List.getElem_append_left hi2]
      exact ih i hi2
    · have e : i = rows.length := by rw [List.length_append, List.length_singleton] at hi; omega
      subst e
      rw [List.take_append_of_le_length (by omega), List.take_length, List.getElem_append_right (Nat.le_refl _)]
      simpa using h2
def msgR (k : Nat) : Str := (["full", "no such claim", "round over", "too late", "twice", "too much"] : List Str).getD k "needed"
def LastAt (H : Hp) (v : V) (last : Option Int) : Prop := (v = .non ∧ last = none) ∨ ∃ b r, v = .ref b ∧ RowAt H b r ∧ last = some r.day
theorem LastAt.mono {H H' : Hp} {v : V} {last : Option Int} (t : TupS H H') (h : LastAt H v last) : LastAt H' v last := by
  rcases h with h | ⟨b, r, h1, h2, h3⟩
  · exact .inl h
  · exact .inr ⟨b, r, h1, h2.mono t, h3⟩
def lastR (rows : List Rw) : Option Int := rows.getLast?.map Rw.day

/-! ### the book's object -/
def flds (pe co sp ro ca we : Addr) (n : Int) : List (Str × V) := [("people", .ref pe), ("court", .ref co), ("speakers", .ref sp), ("rows", .ref ro), ("came", .ref ca), ("went", .ref we), ("done", .int n)]
theorem fl_rows {pe co sp ro ca we : Addr} {n : Int} : (flds pe co sp ro ca we n).lookup ("rows" : Str) = some (.ref ro) := by rfl
theorem fl_came {pe co sp ro ca we : Addr} {n : Int} : (flds pe co sp ro ca we n).lookup ("came" : Str) = some (.ref ca) := by rfl
theorem fl_went {pe co sp ro ca we : Addr} {n : Int} : (flds pe co sp ro ca we n).lookup ("went" : Str) = some (.ref we) := by rfl
theorem fl_done {pe co sp ro ca we : Addr} {n : Int} : (flds pe co sp ro ca we n).lookup ("done" : Str) = some (.int n) := by rfl
theorem fl_put {pe co sp ro ca we : Addr} {n m : Int} : putF "done" (.int m) (flds pe co sp ro ca we n) = flds pe co sp ro ca we m := by rfl
theorem fl_len {pe co sp ro ca we : Addr} {n : Int} : (flds pe co sp ro ca we n).length < 1000 := by show 7 < 1000; decide
theorem fl_new {pe co sp ro ca we : Addr} : putF "done" (.int 0) (putF "went" (.ref we) (putF "came" (.ref ca) (putF "rows" (.ref ro) (putF "speakers" (.ref sp) (putF "court" (.ref co) (putF "people" (.ref pe) [])))))) = flds pe co sp ro ca we 0 := by rfl
theorem fl_no {pe co sp ro ca we : Addr} {n : Int} {m : Str} (h : m ∉ (["people", "court", "speakers", "rows", "came", "went", "done"] : List Str)) : (flds pe co sp ro ca we n).lookup m = none := by
  simp only [List.mem_cons, List.not_mem_nil, or_false, not_or] at h
  obtain ⟨h1, h2, h3, h4, h5, h6, h7⟩ := h
  unfold flds
  simp only [List.lookup_cons]
  rw [beq_eq_false_iff_ne.mpr h1, beq_eq_false_iff_ne.mpr h2, beq_eq_false_iff_ne.mpr h3, beq_eq_false_iff_ne.mpr h4, beq_eq_false_iff_ne.mpr h5, beq_eq_false_iff_ne.mpr h6, beq_eq_false_iff_ne.mpr h7]
  rfl
/-- a book without undone rows -/
structure BkAt (cB : Addr) (H : Hp) (b ro ca we : Addr) (rows : List Rw) : Prop where
  ex : ∃ dx pe co sp ps, H b = some (.ins cB dx (flds pe co sp ro ca we rows.length)) ∧ H ro = some (.lst (List.map V.ref ps)) ∧ H ca = some (.lst ((List.range rows.length).map fun (i : Nat) => V.int ((i : Int) + 1))) ∧ H we = some (.lst (List.replicate rows.length V.non)) ∧ RowsAt H ps rows
  n1 : ro ≠ ca
  n2 : ro ≠ we
  n3 : ca ≠ we
theorem BkAt.same {cB b ro ca we : Addr} {H H' : Hp} {rows : List Rw} (s : Same H H') (h : BkAt cB H b ro ca we rows) : BkAt cB H' b ro ca we rows := by
  obtain ⟨⟨dx, pe, co, sp, ps, h1, h2, h3, h4, h5⟩, n1, n2, n3⟩ := h
  exact ⟨⟨dx, pe, co, sp, ps, s _ _ h1, s _ _ h2, s _ _ h3, s _ _ h4, h5.mono s.tupS⟩, n1, n2, n3⟩
theorem pl {f : Str} {v : V} {fs : List (Str × V)} {k : Nat} (h : fs.length ≤ k) : (putF f v fs).length ≤ k + 1 := by
  induction fs generalizing k with
  | nil => simp [putF]
  | cons x xs ih =>
    obtain ⟨g, u⟩ := x
    unfold putF
    split
    · simpa using Nat.le_succ_of_le h
    · have h' : xs.length ≤ k - 1 := by simp only [List.length_cons] at h; omega
      have := ih h'
      simp only [List.length_cons] at h ⊢
      omega
theorem fld_step {cB b dx l : Addr} {H : Hp} {fs fs' : List (Str × V)} {o : HO} (hb : H b = some (.ins cB dx fs)) (nl : H l = none) :
    upd (upd H l o) b (.ins cB dx fs') b = some (.ins cB dx fs') ∧ upd (upd H l o) b (.ins cB dx fs') l = some o ∧ ∀ x u, H x = some u → x ≠ b → upd (upd H l o) b (.ins cB dx fs') x = some u := by
  refine ⟨upd_same, ?_, fun x u e ne => ?_⟩
  · rw [upd_ne (fun z => by rw [z, hb] at nl; cases nl), upd_same]
  · rw [upd_ne ne, upd_ne (ne_of_none e nl)]
    exact e
theorem r_sfld {K : PySem.W.Frag} {ta tv : TE} {f : Str} {D : Ends} {σ : St} {H : Hp} (q : tv σ H fun y H1 => ta σ H1 fun x H2 => ∃ a C dx fs, x = .ref a ∧ H2 a = some (.ins C dx fs) ∧ Cls K C ∧ NoAttr K C f ∧ fs.length < 1000 ∧
  D.nx σ (upd H2 a (.ins C dx (putF f y fs)))) : sFld K ta tv f D σ H := q
theorem r_saug {K : PySem.W.Frag} {ta tv : TE} {rd : V → V → Hp → VK → Prop} {f : Str} {D : Ends} {σ : St} {H : Hp} (q : ta σ H fun x H1 => ∃ a C dx fs v, x = .ref a ∧ H1 a = some (.ins C dx fs) ∧ Cls K C ∧ NoAttr K C f ∧ fs.lookup f = some v ∧
  tv σ H1 fun y H2 => rd v y H2 fun z H3 => ∃ dx' fs', H3 a = some (.ins C dx' fs') ∧ fs'.length < 1000 ∧ D.nx σ (upd H3 a (.ins C dx' (putF f z fs')))) : sFldAug K ta tv rd f D σ H := q
/-- all but the book's own things is as it was -/
def SameB (b ro ca we : Addr) (H H' : Hp) : Prop := ∀ x o, H x = some o → x ≠ b → x ≠ ro → x ≠ ca → x ≠ we → H' x = some o

/-! ### texts of rows -/
def ts (i : Int) : Str := toString i
def Small (i : Int) : Prop := i.natAbs < 10 ^ 20
theorem Small.log {i : Int} (h : Small i) : i.natAbs.log2 < 1920 := by
  by_cases h0 : i.natAbs = 0
  · rw [h0]; decide
  · rw [Nat.log2_lt h0]
    exact Nat.lt_of_lt_of_le h (by decide +kernel)
theorem Small.of {i : Int} (h0 : -99999999999999999999 ≤ i) (h1 : i ≤ 99999999999999999999) : Small i := by
  unfold Small
  have e : (10 : Nat) ^ 20 = 100000000000000000000 := by decide +kernel
  rw [e]
  omega
theorem ts_len {i : Int} (h : Small i) : (ts i).length ≤ 40 := by
  have : (toString i).length ≤ 20 + 1 := int_text_length_le10 (k := 20) (by decide) h
  unfold ts
  rw [PySem.ofString_length]
  omega
def textR : Rw → Str
  | .claim _ d c a b w => Txt.join " " ["claim", ts d, ts c, ts a, ts b, ts w]
  | .rule _ d t bk _ => Txt.join " " ["rule", ts d, ts t, if bk then "back" else "own"]
  | .carry _ d c => Txt.join " " ["carry", ts d, ts c]
  | _ => ""
theorem comp_tupF {K : PySem.W.Frag} {a : Addr} {xs : List V} {te : TE} {σ0 : St} {D : Addr} {H1 : Hp} {Q : Hp → Prop} (f : V → V) (hD : H1 D = none) (ha : SqT K H1 a xs) (hn : xs.length ≤ 1000)
    (he : ∀ x H' q, x ∈ xs → Same H1 H' → (∀ H'', Same H' H'' → q (f x) H'') → te (σ0.set 0 (some x)) H' q)
    (hq : ∀ H', Same H1 H' → H' D = some (.lst (xs.map f)) → Q H') : CompBody (Itt K a) (gName 0) tTT te 1 σ0 D H1 Q := by
  refine comp_tup (xs := xs) (fun i ys H => Same H1 H ∧ H D = some (.lst ys) ∧ ys = (xs.take i).map f) ⟨Same.new hD, upd_same, by simp⟩ (fun i ys H _ p => p.1.seqT ha) ?_ ?_
  · rintro i x ys H hx ⟨sm, hd, rfl⟩
    have hi : i < xs.length := (List.getElem?_eq_some_iff.mp hx).1
    have ex : xs[i] = x := by simpa [hi] using hx
    refine r_name ⟨set0, r_tt (iteT (he x H _ (List.mem_of_getElem? hx) sm fun H2 s2 => ?_))⟩
    refine ⟨s2 _ _ hd, small1000 (by rw [List.length_map, List.length_take]; omega), Same.setp hD (sm.trans s2), upd_same, ?_⟩
    rw [List.take_succ_eq_append_getElem hi, List.map_append, ex]
    rfl
  · rintro ys H ⟨sm, hd, rfl⟩
    rw [List.take_length] at hd
    exact hq H sm hd
/-- [f(c, w) for c, w in a tuple of pairs] -/
theorem comp_pairs {K : PySem.W.Frag} {a : Addr} {as : List Addr} {ws : List (List Int)} {te : TE} {σ0 : St} {D : Addr} {H1 : Hp} {Q : Hp → Prop} (f : List Int → V) (hD : H1 D = none) (ha : SqT K H1 a (List.map V.ref as)) (ht : TabIs H1 as ws) (h2 : ∀ x ∈ ws, x.length = 2) (hn : ws.length ≤ 1000)
    (he : ∀ x H' q, x ∈ ws → Same H1 H' → (∀ H'', Same H' H'' → q (f x) H'') → te ((σ0.set 0 (some (.int (x.getD 0 0)))).set 1 (some (.int (x.getD 1 0)))) H' q)
    (hq : ∀ H', Same H1 H' → H' D = some (.lst (ws.map f)) → Q H') : CompBody (Itt K a) (gTup K 2 (gCons (gName 0) (gCons (gName 1) gNil))) tTT te 2 σ0 D H1 Q := by
  refine comp_tup (xs := List.map V.ref as) (fun i ys H => Same H1 H ∧ H D = some (.lst ys) ∧ ys = (ws.take i).map f) ⟨Same.new hD, upd_same, by simp⟩ (fun i ys H _ p => p.1.seqT ha) ?_ ?_
  · rintro i x ys H hx ⟨sm, hd, rfl⟩
    rw [List.getElem?_map] at hx
    obtain ⟨z, hz, rfl⟩ := Option.map_eq_some_iff.mp hx
    obtain ⟨r, hr, hz2⟩ := ht.at hz
    have hi : i < ws.length := (List.getElem?_eq_some_iff.mp hr).1
    have er : ws[i] = r := by simpa [hi] using hr
    have hm : r ∈ ws := List.mem_of_getElem? hr
    obtain ⟨c, w, rfl⟩ : ∃ c w, r = [c, w] := by
      have := h2 r hm
      match r, this with
      | [c, w], _ => exact ⟨c, w, rfl⟩
    refine r_gtup (xs := [.int c, .int w]) (SqT.of (sm _ _ hz2)) rfl (r_gcons (r_name (r_gcons (r_name (r_gnil ⟨set01, ?_⟩)))))
    refine r_tt (iteT (he [c, w] H _ hm sm fun H2 s2 => ?_))
    refine ⟨s2 _ _ hd, small1000 (by rw [List.length_map, List.length_take]; omega), Same.setp hD (sm.trans s2), upd_same, ?_⟩
    rw [List.take_succ_eq_append_getElem hi, List.map_append, er]
    rfl
  · rintro ys H ⟨sm, hd, rfl⟩
    rw [List.length_map, ht.1, List.take_length] at hd
    exact hq H sm hd
theorem comp_listF {K : PySem.W.Frag} {a : Addr} {xs : List V} {te : TE} {σ0 : St} {D : Addr} {H1 : Hp} {Q : Hp → Prop} (f : Nat → V) (hD : H1 D = none) (ha : SqL K H1 a xs) (hn : xs.length ≤ 1000)
    (he : ∀ i x H' q, xs[i]? = some x → Same H1 H' → (∀ H'', Same H' H'' → q (f i) H'') → te (σ0.set 0 (some x)) H' q)
    (hq : ∀ H', Same H1 H' → H' D = some (.lst ((List.range xs.length).map f)) → Q H') : CompBody (Itl K a) (gName 0) tTT te 1 σ0 D H1 Q := by
  refine comp_list (xs := xs) (fun i ys H => Same H1 H ∧ H D = some (.lst ys) ∧ ys = (List.range i).map f) ⟨Same.new hD, upd_same, by simp⟩ (fun i ys H _ p => p.1.seq ha) ?_ ?_
  · rintro i x ys H hx ⟨sm, hd, rfl⟩
    have hi : i < xs.length := (List.getElem?_eq_some_iff.mp hx).1
    refine r_name ⟨set0, r_tt (iteT (he i x H _ hx sm fun H2 s2 => ?_))⟩
    refine ⟨s2 _ _ hd, small1000 (by rw [List.length_map, List.length_range]; omega), Same.setp hD (sm.trans s2), upd_same, ?_⟩
    rw [List.range_succ, List.map_append]
    rfl
  · rintro ys H ⟨sm, hd, rfl⟩
    exact hq H sm hd
/-- str(x) of a number or a text -/
def strV : V → V
  | .int i => .str (ts i)
  | .str z => .str z
  | _ => .str ""
theorem join_fit {l : List Str} (h : ∀ y ∈ l, y.length ≤ 40) (hn : l.length ≤ 1000) : JoinOk " " l = true := by
  refine join_ok (B := 40) h ?_
  have e : ((" " : String) : Str).length = 1 := rfl
  rw [e]
  omega
theorem cb_strK {X : Cx} (K : PySem.W.Frag) (h : X.K = K) (hu : X.A.units + 4 < cLine) : CallR X (.type "str") (rStr K) := by
  subst h
  exact call_strV hu
theorem r_ty {K : PySem.W.Frag} {z : Str} {H : Hp} {q : Prop} (k : q) : tyV K "str" (.str z) H ∧ q := ⟨rfl, k⟩

/-! ### deeds as a law hands them -/
inductive Dd where
  | claim (c a b w : Int)
  | rule (t : Int) (bk : Bool) (ws : List (List Int))
  | carry (c : Int)
  | step (t s : Int) (k : Str) (m : Int) (l : Str)
  | offer (t c a : Int)
def Dd.word : Dd → Str
  | .claim .. => "claim"
  | .rule .. => "rule"
  | .carry .. => "carry"
  | .step .. => "step"
  | .offer .. => "offer"
def Dd.row (n d : Int) : Dd → Rw
  | .claim c a b w => .claim n d c a b w
  | .rule t bk ws => .rule n d t bk ws
  | .carry c => .carry n d c
  | .step t s k m l => .step n d t s k m l
  | .offer t c a => .offer n d t c a
def ToldAt (H : Hp) (p : Addr) : Dd → Prop
  | .claim c a b w => H p = some (.tup [.int c, .int a, .int b, .int w])
  | .rule t bk ws => ∃ e, H p = some (.tup [.int t, .ref e, .bl bk]) ∧ WsAt H e ws
  | .carry c => H p = some (.tup [.int c])
  | .step t s k m l => H p = some (.tup [.int t, .int s, .str k, .int m, .str l])
  | .offer t c a => H p = some (.tup [.int t, .int c, .int a])
theorem ToldAt.mono {H H' : Hp} {p : Addr} {r : Dd} (t : TupS H H') (h : ToldAt H p r) : ToldAt H' p r := by
  cases r with
  | rule t' bk ws => obtain ⟨q, h1, h2⟩ := h; exact ⟨q, t _ _ h1, h2.mono t⟩
  | _ => exact t _ _ h
/-- [f(k) for k in range(n) if p(k)] -/
theorem comp_rangeF {n : Nat} {tt : TT} {te : TE} {σ0 : St} {D : Addr} {H1 : Hp} {Q : Hp → Prop} (p : Nat → Bool) (f : Nat → V) (hD : H1 D = none) (hn : n ≤ 1000)
    (ht : ∀ i H' (q : Bool → Hp → Prop), i < n → Same H1 H' → (∀ H'', Same H' H'' → q (p i) H'') → tt (σ0.set 0 (some (.int (0 + (i : Int))))) H' q)
    (he : ∀ i H' q, i < n → p i = true → Same H1 H' → (∀ H'', Same H' H'' → q (f i) H'') → te (σ0.set 0 (some (.int (0 + (i : Int))))) H' q)
    (hq : ∀ H', Same H1 H' → H' D = some (.lst (((List.range n).filter p).map f)) → Q H') : CompBody (Itr 0 n) (gName 0) tt te 1 σ0 D H1 Q := by
  refine comp_range (fun i ys H => Same H1 H ∧ H D = some (.lst ys) ∧ ys = ((List.range i).filter p).map f) ⟨Same.new hD, upd_same, rfl⟩ ?_ ?_
  · rintro i ys H hi ⟨sm, hd, rfl⟩
    refine r_name ⟨set0, ht i H _ hi sm fun H2 s2 => ?_⟩
    cases hp : p i with
    | true =>
      refine iteT (he i H2 _ hi hp (sm.trans s2) fun H3 s3 => ?_)
      refine ⟨s3 _ _ (s2 _ _ hd), small1000 ?_, Same.setp hD (sm.trans (s2.trans s3)), upd_same, ?_⟩
      · rw [List.length_map]
        have := List.length_filter_le p (List.range i)
        rw [List.length_range] at this
        omega
      · rw [List.range_succ, List.filter_append, List.map_append]
        simp [hp]
    | false =>
      refine iteF ⟨sm.trans s2, s2 _ _ hd, ?_⟩
      rw [List.range_succ, List.filter_append, List.map_append]
      simp [hp]
  · rintro ys H ⟨sm, hd, rfl⟩
    exact hq H sm hd
theorem call_isiXK {X : Cx} (K : PySem.W.Frag) (hK : X.K = K) {a C : Addr} {oe : Obj} (hp : (a, oe) ∈ X.pn) (hc : oe.cls = .ref C) (c : XCls K C) : CallR X (.builtin "isinstance") (rIsiX K a C) := by
  subst hK
  exact call_isiX hp hc c
theorem r_unx {D : Ends} {i : Nat} {σ : St} {H : Hp} (q : D.nx (σ.set i none) H) : (D.un i).nx σ H := q
theorem ix2 {z0 z1 : Str} {b : Bool} : atI [V.str z0, V.str z1] (if b = true then 1 else 0) = some (V.str (if b = true then z1 else z0)) := by cases b <;> rfl
theorem inV_ints {c : Int} {ns : List Int} : inV (.int c) (ns.map V.int) = decide (c ∈ ns) := by
  induction ns with
  | nil => rfl
  | cons n ns ih =>
    have e : inV (.int c) ((n :: ns).map V.int) = ((n == c) || inV (.int c) (ns.map V.int)) := rfl
    rw [e, ih]
    by_cases h : n = c
    · subst h
      simp
    · have h' : ¬ c = n := fun z => h z.symm
      simp [h, h']
theorem flat_ints {ns : List Int} : (ns.map V.int).all flatV = true := by
  rw [List.all_eq_true]
  intro x hx
  obtain ⟨n, _, rfl⟩ := List.mem_map.mp hx
  rfl

structure Ok4 (b ro ca we x : Addr) : Prop where
  n1 : x ≠ b
  n2 : x ≠ ro
  n3 : x ≠ ca
  n4 : x ≠ we
theorem SameB.get {b ro ca we x : Addr} {H H' : Hp} {o : HO} (s : SameB b ro ca we H H') (k : Ok4 b ro ca we x) (h : H x = some o) : H' x = some o := s x o h k.n1 k.n2 k.n3 k.n4
theorem SameB.tupS {cB b ro ca we : Addr} {H H' : Hp} {rows : List Rw} (B : BkAt cB H b ro ca we rows) (s : SameB b ro ca we H H') : TupS H H' := fun x xs e => by
  obtain ⟨⟨dx, pe, co, sp, ps, h1, h2, h3, h4, h5⟩, _⟩ := B
  exact s x _ e (ne_of e h1 (by intro z; cases z)) (ne_of e h2 (by intro z; cases z)) (ne_of e h3 (by intro z; cases z)) (ne_of e h4 (by intro z; cases z))
/-- all that was there ahead of the book -/
theorem SameB.same {b ro ca we : Addr} {H0 H H' : Hp} (s0 : Same H0 H) (n1 : H0 b = none) (n2 : H0 ro = none) (n3 : H0 ca = none) (n4 : H0 we = none) (s : SameB b ro ca we H H') : Same H0 H' := fun x o e =>
  s x o (s0 x o e) (ne_of_none e n1) (ne_of_none e n2) (ne_of_none e n3) (ne_of_none e n4)
theorem r_make {C : Addr} {sp : Sp} {dvs : List V} {E : XK} {t : TA} {σ : St} {H : Hp} {Q : VK} (q : t σ H fun vs H1 => ∀ x dx, H1 x = none → H1 dx = none → dx ≠ x →
  sp (.ref x :: (vs ++ dvs)) (upd (upd H1 dx (.own x)) x (.ins C dx [])) (fun v H2 => v = .non ∧ Q (.ref x) H2) E) : tMake C sp dvs E t σ H Q := q
theorem Same.nil {H H' : Hp} {x : Addr} (s : Same H H') (h : H' x = none) : H x = none := by
  cases e : H x with
  | none => rfl
  | some o => have := s _ _ e; rw [h] at this; cases this
theorem cut_ints {ns : List Int} {lo hi : Option Int} : ∃ cs : List Int, cutV (ns.map V.int) lo hi = cs.map V.int ∧ cs.length ≤ ns.length := by
  refine ⟨(ns.drop (HT.sIx ns.length 0 lo)).take (HT.sIx ns.length ns.length hi - HT.sIx ns.length 0 lo), ?_, ?_⟩
  · unfold cutV
    rw [List.length_map, List.map_take, List.map_drop]
  · rw [List.length_take, List.length_drop]
    omega
theorem BkAt.setL {cB b ro ca we t : Addr} {H : Hp} {rows : List Rw} {xs ys : List V} (B : BkAt cB H b ro ca we rows) (ht : H t = some (.lst xs)) (o : Ok4 b ro ca we t) : BkAt cB (upd H t (.lst ys)) b ro ca we rows := by
  obtain ⟨⟨dx, pe, co, sp, ps, h1, h2, h3, h4, h5⟩, n1, n2, n3⟩ := B
  exact ⟨⟨dx, pe, co, sp, ps, by rw [upd_ne (Ne.symm o.n1)]; exact h1, by rw [upd_ne (Ne.symm o.n2)]; exact h2, by rw [upd_ne (Ne.symm o.n3)]; exact h3, by rw [upd_ne (Ne.symm o.n4)]; exact h4, h5.mono (TupS.lst ht)⟩, n1, n2, n3⟩
theorem Same.setL {H0 H : Hp} {t : Addr} {ys : List V} (s : Same H0 H) (n : H0 t = none) : Same H0 (upd H t (.lst ys)) := Same.setp n s
theorem upd_at {H : Hp} {p : Addr} {o : HO} (n : H p = none) : upd H p o p = some o := upd_same
end L2

set_option Elab.async false
set_option linter.all false
set_option maxRecDepth 100000
/-! the prelude that the laws of refusals share: two claims, some rounds over, perhaps one claim carried -/
namespace L2
open PySem PySem.Spec PyProof.Rows
theorem joinS {M P : St → Hp → Prop} {A : Prop} (h : (∀ σ H, M σ H → P σ H) → A) (k : ∀ σ H, M σ H → P σ H) : A := h k
theorem SameB.trans {b ro ca we : Addr} {H H1 H2 : Hp} (s : SameB b ro ca we H H1) (t : SameB b ro ca we H1 H2) : SameB b ro ca we H H2 := fun x o e x1 x2 x3 x4 => t x o (s x o e x1 x2 x3 x4) x1 x2 x3 x4
/-! the rows -/
section
variable (w0 w1 : Int)
end
variable {w0 w1 : Int}
theorem last_snoc {rows : List Rw} {r : Rw} : lastR (rows ++ [r]) = some r.day := by simp [lastR]
/-! what stays under later rows -/
structure StP (rows : List Rw) (rs : Rds) (last : Int) : Prop where
  ok : OkRows rows
  ro : roundsR rows = rs
  la : lastR rows = some last
theorem StP.add {rows : List Rw} {rs rs' : Rds} {last : Int} (h : StP rows rs last) {r : Rw} {w : Int} (e : refuseR (roundsR rows) (lastR rows) w r = none) (k : roundsR (rows ++ [r]) = rs') : StP (rows ++ [r]) rs' r.day :=
  ⟨.snoc h.ok (okPut_of e), k, last_snoc⟩
end L2

set_option Elab.async false
set_option linter.all false
set_option maxRecDepth 100000
/-! rulings with wins under the prelude -/
namespace L2
open PySem PySem.Spec PyProof.Rows
/-- [f(i) for x in a list if p(i)] -/
theorem comp_listP {K : PySem.W.Frag} {a : Addr} {xs : List V} {tt : TT} {te : TE} {σ0 : St} {D : Addr} {H1 : Hp} {Q : Hp → Prop} (p : Nat → Bool) (f : Nat → V) (hD : H1 D = none) (ha : SqL K H1 a xs) (hn : xs.length ≤ 1000)
    (ht : ∀ i x H' q, xs[i]? = some x → Same H1 H' → (∀ H'', Same H' H'' → q (p i) H'') → tt (σ0.set 0 (some x)) H' q)
    (he : ∀ i x H' q, xs[i]? = some x → Same H1 H' → (∀ H'', Same H' H'' → q (f i) H'') → te (σ0.set 0 (some x)) H' q)
    (hq : ∀ H', Same H1 H' → H' D = some (.lst (((List.range xs.length).filter p).map f)) → Q H') : CompBody (Itl K a) (gName 0) tt te 1 σ0 D H1 Q := by
  refine comp_list (xs := xs) (fun i ys H => Same H1 H ∧ H D = some (.lst ys) ∧ ys = ((List.range i).filter p).map f) ⟨Same.new hD, upd_same, by simp⟩ (fun i ys H _ p => p.1.seq ha) ?_ ?_
  · rintro i x ys H hx ⟨sm, hd, rfl⟩
    have hi : i < xs.length := (List.getElem?_eq_some_iff.mp hx).1
    refine r_name ⟨set0, ht i x H _ hx sm fun H2 s2 => ?_⟩
    cases e : p i with
    | true =>
      refine iteT (he i x H2 _ hx (sm.trans s2) fun H3 s3 => ?_)
      have s23 := s2.trans s3
      refine ⟨s23 _ _ hd, small1000 (by have := List.length_filter_le p (List.range i); rw [List.length_range] at this; rw [List.length_map]; omega), Same.setp hD (sm.trans s23), upd_same, ?_⟩
      rw [List.range_succ, List.filter_append, List.map_append]
      simp [e]
    | false =>
      refine iteF ⟨sm.trans s2, s2 _ _ hd, ?_⟩
      rw [List.range_succ, List.filter_append, List.map_append]
      simp [e]
  · rintro ys H ⟨sm, hd, rfl⟩
    exact hq H sm hd
variable {w0 w1 : Int}
theorem op_notIn_seqK {X : Cx} (K : PySem.W.Frag) (h : X.K = K) : OpR X (compareOp .NotIn) (rIn K true) := h ▸ op_notIn_seq
end L2

set_option Elab.async false
set_option linter.all false
set_option maxRecDepth 100000
/-! the book with undone rows -/
namespace L2
open PySem PySem.Spec PyProof.Rows

/-- try: body / except ..: a body that never raises -/
theorem ps_tryOk {X : Cx} {body : List Stmt} {h₀ : ExceptHandler} {hs : List ExceptHandler} {pos : Pos} {tb : TS} (hb : ∀ (pn : List (Addr × Obj)) (xe : Value → Shared → Prop), PSs (X.tried pn xe) body tb) :
    PS X (.Try body (h₀ :: hs) [] [] pos) tb := by
  intro pins s σ H D I h
  have ok := I.ok
  refine wpAny_Try_except ?_
  refine wpAny_mono (hb (X.pn ++ pins) _ [] s σ H D I.tried h) (fun f s1 q => ?_) (fun _ _ q => q)
  cases f with
  | next =>
    obtain ⟨σ', H', J, q⟩ := q
    exact wpAny_execs_nil ⟨σ', H', J.untried ok, q⟩
  | brk =>
    obtain ⟨σ', H', J, q⟩ := q
    exact ⟨σ', H', J.untried ok, q⟩
  | cont =>
    obtain ⟨σ', H', J, q⟩ := q
    exact ⟨σ', H', J.untried ok, q⟩
  | ret u =>
    obtain ⟨v, σ', H', J, rv, q⟩ := q
    exact ⟨v, σ', H', J.untried ok, rv, q⟩

/-! ### entries -/
structure En where
  row : Rw
  came : Int
  went : Option Int
instance : Inhabited En := ⟨⟨.dun 0 0 0, 0, none⟩⟩
def optV : Option Int → V
  | none => .non
  | some i => .int i
def En.on (e : En) (m : Int) : Bool := decide (e.came ≤ m) && (match e.went with | none => true | some g => decide (m < g))
def keptE (es : List En) (m : Int) : List Rw := (es.filter fun e => e.on m).map En.row
theorem range_getD {α : Type} (d : α) (l : List α) : (List.range l.length).map (fun i => l.getD i d) = l := by
  apply List.ext_getElem?
  intro i
  by_cases h : i < l.length
  · simp [h]
  · simp [Nat.not_lt.mp h]
theorem filter_range {α : Type} (d : α) (l : List α) (f : α → Bool) : l.filter f = ((List.range l.length).filter fun i => f (l.getD i d)).map fun i => l.getD i d := by
  have e := range_getD d l
  generalize l.length = n at e ⊢
  have : l.filter f = ((List.range n).map (fun i => l.getD i d)).filter f := by rw [e]
  rw [this, List.filter_map]
  rfl
/-- rows taken out by their places -/
theorem RowsAt.pick {H : Hp} {ps : List Addr} {rows : List Rw} (h : RowsAt H ps rows) (ix : List Nat) (hi : ∀ i ∈ ix, i < rows.length) (d : Rw) : RowsAt H (ix.map fun i => ps.getD i 0) (ix.map fun i => rows.getD i d) := by
  refine ⟨by simp, fun j p r e1 e2 => ?_⟩
  rw [List.getElem?_map] at e1 e2
  obtain ⟨k, hk, rfl⟩ := Option.map_eq_some_iff.mp e1
  rw [hk] at e2
  cases e2
  have hlt := hi k (List.mem_of_getElem? hk)
  have hlp : k < ps.length := by rw [h.1]; exact hlt
  exact h.2 k _ _ (by simp [List.getD, hlp]) (by simp [List.getD, hlt])
structure BkA where
  (b ro ca we pe co sp : Addr)
structure BkC where
  pl : List Int
  (ct st : List (List Int))
structure BuAt (cB : Addr) (H : Hp) (A : BkA) (C : BkC) (es : List En) (dn : Int) : Prop where
  ob : ∃ dx, H A.b = some (.ins cB dx (flds A.pe A.co A.sp A.ro A.ca A.we dn))
  ro : ∃ ps, H A.ro = some (.lst (List.map V.ref ps)) ∧ RowsAt H ps (es.map En.row)
  ca : H A.ca = some (.lst (es.map fun e => V.int e.came))
  we : H A.we = some (.lst (es.map fun e => optV e.went))
  pe : H A.pe = some (.lst (List.map V.int C.pl))
  co : ∃ cs, H A.co = some (.lst (List.map V.ref cs)) ∧ TabIs H cs C.ct
  sp : ∃ cs, H A.sp = some (.lst (List.map V.ref cs)) ∧ TabIs H cs C.st
  nd : [A.ro, A.ca, A.we, A.pe, A.co, A.sp].Nodup
theorem BuAt.same {cB : Addr} {A : BkA} {C : BkC} {H H' : Hp} {es : List En} {dn : Int} (s : Same H H') (h : BuAt cB H A C es dn) : BuAt cB H' A C es dn := by
  obtain ⟨⟨dx, h1⟩, ⟨ps, h2, h2'⟩, h3, h4, h5, ⟨cs, h6, h6'⟩, ⟨cs2, h7, h7'⟩, n⟩ := h
  exact ⟨⟨dx, s _ _ h1⟩, ⟨ps, s _ _ h2, h2'.mono s.tupS⟩, s _ _ h3, s _ _ h4, s _ _ h5, ⟨cs, s _ _ h6, h6'.same s⟩, ⟨cs2, s _ _ h7, h7'.same s⟩, n⟩
abbrev SameU (A : BkA) (H H' : Hp) : Prop := SameB A.b A.ro A.ca A.we H H'
theorem SameU.refl (A : BkA) (H : Hp) : SameU A H H := fun _ _ e _ _ _ _ => e
theorem SameU.trans {A : BkA} {H H1 H2 : Hp} (a : SameU A H H1) (b : SameU A H1 H2) : SameU A H H2 := fun x o e x1 x2 x3 x4 => b x o (a x o e x1 x2 x3 x4) x1 x2 x3 x4
theorem Same.sameU {A : BkA} {H H' : Hp} (s : Same H H') : SameU A H H' := fun x o e _ _ _ _ => s x o e
abbrev Ok4U (A : BkA) (x : Addr) : Prop := Ok4 A.b A.ro A.ca A.we x
theorem SameU.tupS {cB : Addr} {A : BkA} {C : BkC} {H H' : Hp} {es : List En} {dn : Int} (B : BuAt cB H A C es dn) (s : SameU A H H') : TupS H H' := fun x xs e => by
  obtain ⟨⟨dx, h1⟩, ⟨ps, h2, _⟩, h3, h4, _⟩ := B
  exact s x _ e (ne_of e h1 (by intro z; cases z)) (ne_of e h2 (by intro z; cases z)) (ne_of e h3 (by intro z; cases z)) (ne_of e h4 (by intro z; cases z))
theorem BuAt.setL {cB t : Addr} {A : BkA} {C : BkC} {H : Hp} {es : List En} {dn : Int} {xs ys : List V} (B : BuAt cB H A C es dn) (ht : H t = some (.lst xs)) (o : Ok4U A t) (n1 : t ≠ A.pe) (n2 : t ≠ A.co) (n3 : t ≠ A.sp) : BuAt cB (upd H t (.lst ys)) A C es dn := by
  obtain ⟨⟨dx, h1⟩, ⟨ps, h2, h2'⟩, h3, h4, h5, ⟨cs, h6, h6'⟩, ⟨cs2, h7, h7'⟩, n⟩ := B
  have ts := TupS.lst (ys := ys) ht
  exact ⟨⟨dx, by rw [upd_ne (Ne.symm o.n1)]; exact h1⟩, ⟨ps, by rw [upd_ne (Ne.symm o.n2)]; exact h2, h2'.mono ts⟩, by rw [upd_ne (Ne.symm o.n3)]; exact h3, by rw [upd_ne (Ne.symm o.n4)]; exact h4, by rw [upd_ne (Ne.symm n1)]; exact h5, ⟨cs, by rw [upd_ne (Ne.symm n2)]; exact h6, h6'.tupS ts⟩, ⟨cs2, by rw [upd_ne (Ne.symm n3)]; exact h7, h7'.tupS ts⟩, n⟩
/-- all of the addresses that a book holds -/
def BkA.all (A : BkA) : List Addr := [A.b, A.ro, A.ca, A.we, A.pe, A.co, A.sp]
theorem BuAt.setL' {cB t : Addr} {A : BkA} {C : BkC} {H : Hp} {es : List En} {dn : Int} {xs ys : List V} (B : BuAt cB H A C es dn) (ht : H t = some (.lst xs)) (o : t ∉ A.all) : BuAt cB (upd H t (.lst ys)) A C es dn := by
  simp only [BkA.all, List.mem_cons, List.not_mem_nil, or_false, not_or] at o
  obtain ⟨o1, o2, o3, o4, o5, o6, o7⟩ := o
  exact B.setL ht ⟨o1, o2, o3, o4⟩ o5 o6 o7
theorem BuAt.out {cB p : Addr} {A : BkA} {C : BkC} {H : Hp} {es : List En} {dn : Int} (B : BuAt cB H A C es dn) (h : H p = none) : p ∉ A.all := by
  obtain ⟨⟨dx, h1⟩, ⟨ps, h2, _⟩, h3, h4, h5, ⟨cs, h6, _⟩, ⟨cs2, h7, _⟩, n⟩ := B
  simp only [BkA.all, List.mem_cons, List.not_mem_nil, or_false, not_or]
  exact ⟨(fun z => by rw [z, h1] at h; cases h), (fun z => by rw [z, h2] at h; cases h), (fun z => by rw [z, h3] at h; cases h), (fun z => by rw [z, h4] at h; cases h), (fun z => by rw [z, h5] at h; cases h), (fun z => by rw [z, h6] at h; cases h), (fun z => by rw [z, h7] at h; cases h)⟩
theorem BkA.ok4 {A : BkA} {t : Addr} (o : t ∉ A.all) : Ok4U A t := by
  simp only [BkA.all, List.mem_cons, List.not_mem_nil, or_false, not_or] at o
  obtain ⟨o1, o2, o3, o4, o5, o6, o7⟩ := o
  exact ⟨o1, o2, o3, o4⟩
/-- the rows left are written anew, each as it would be -/
def AnewOk (rows : List Rw) : Prop := ∀ j (h : j < rows.length), refuseR (roundsR (rows.take j)) (lastR (rows.take j)) (j : Int) rows[j] = none
theorem lastR_take {rows : List Rw} {j : Nat} (h : j < rows.length) : lastR (rows.take (j + 1)) = some rows[j].day := by
  unfold lastR
  rw [List.take_succ_eq_append_getElem h, List.getLast?_append]
  rfl
/-! ### texts -/
def textU : Rw → Str
  | .pay _ d s p c => Txt.join " " ["pay", ts d, ts s, ts p, ts c]
  | .dun _ d s => Txt.join " " ["dun", ts d, ts s]
  | r => textR r
def FitU : Rw → Prop
  | .pay _ d s p c => Small d ∧ Small s ∧ Small p ∧ Small c
  | .dun _ d s => Small d ∧ Small s
  | _ => False
/-! ### undoing -/
def NumE (es : List En) : Prop := ∀ j (h : j < es.length), es[j].row.num = (j : Int)
def goneE (es : List En) (i g : Int) : List En := es.map fun e => if e.row.num = i then { e with went := some g } else e
theorem goneE_len {es : List En} {i g : Int} : (goneE es i g).length = es.length := by simp [goneE]
theorem goneE_row {es : List En} {i g : Int} : (goneE es i g).map En.row = es.map En.row := by
  unfold goneE
  rw [List.map_map]
  refine List.map_congr_left fun e _ => ?_
  show En.row (if e.row.num = i then { e with went := some g } else e) = e.row
  split <;> rfl
theorem goneE_came {es : List En} {i g : Int} : ((goneE es i g).map fun e => V.int e.came) = es.map fun e => V.int e.came := by
  unfold goneE
  rw [List.map_map]
  refine List.map_congr_left fun e _ => ?_
  show V.int (if e.row.num = i then { e with went := some g } else e : En).came = V.int e.came
  split <;> rfl
theorem goneE_went {es : List En} {j : Nat} {g : Int} (hn : NumE es) : ((goneE es (j : Int) g).map fun e => optV e.went) = (es.map fun e => optV e.went).set j (.int g) := by
  apply List.ext_getElem?
  intro k
  unfold goneE
  rw [List.map_map, List.getElem?_map, List.getElem?_set, List.length_map]
  by_cases hk : k < es.length
  · rw [List.getElem?_eq_getElem hk, List.getElem?_map, List.getElem?_eq_getElem hk]
    have e := hn k hk
    by_cases hj : j = k
    · subst hj
      rw [if_pos rfl, if_pos hk]
      show some (optV (if es[j].row.num = (j : Int) then { es[j] with went := some g } else es[j] : En).went) = _
      rw [if_pos e]
      rfl
    · rw [if_neg hj]
      show some (optV (if es[k].row.num = (j : Int) then { es[k] with went := some g } else es[k] : En).went) = _
      rw [if_neg (by rw [e]; omega)]
      rfl
  · rw [List.getElem?_eq_none (by omega), List.getElem?_map, List.getElem?_eq_none (by omega)]
    by_cases hj : j = k
    · rw [if_pos hj, if_neg (by omega)]
      rfl
    · rw [if_neg hj]
      rfl
/-- a kept row's number is its place -/
theorem kept_num {es : List En} {m i : Int} (hn : NumE es) (h : ∃ r ∈ keptE es m, r.num = i) : ∃ j : Nat, i = (j : Int) ∧ j < es.length := by
  obtain ⟨r, hr, e⟩ := h
  unfold keptE at hr
  obtain ⟨en, he, rfl⟩ := List.mem_map.mp hr
  obtain ⟨j, hj, rfl⟩ := List.getElem_of_mem (List.mem_filter.mp he).1
  exact ⟨j, by rw [← e, hn j hj], hj⟩
end L2

set_option Elab.async false
set_option linter.all false
set_option maxRecDepth 100000
/-! rows that are payments and dunnings, some undone -/
namespace L2
open PySem PySem.Spec PyProof.Rows
def liveE (es : List En) : List Rw := (es.filter fun e => e.went.isNone).map En.row
theorem kept_live {es : List En} {dn : Int} (cm : ∀ e ∈ es, e.came ≤ dn) (wt : ∀ e ∈ es, ∀ g, e.went = some g → g ≤ dn) : keptE es dn = liveE es := by
  unfold keptE liveE
  congr 1
  refine List.filter_congr fun e he => ?_
  unfold En.on
  rw [decide_eq_true (cm e he), Bool.true_and]
  cases hw : e.went with
  | none => rfl
  | some g =>
    have := wt e he g hw
    show decide (dn < g) = false
    exact decide_eq_false (by omega)
theorem live_push {es : List En} {r : Rw} {c : Int} : liveE (es ++ [⟨r, c, none⟩]) = liveE es ++ [r] := by
  unfold liveE
  rw [List.filter_append, List.map_append]
  rfl
theorem live_gone {es : List En} {i g : Int} : liveE (goneE es i g) = (liveE es).filter fun r => decide (r.num ≠ i) := by
  unfold liveE goneE
  induction es with
  | nil => rfl
  | cons e es ih =>
    rw [List.map_cons]
    by_cases h : e.row.num = i
    · rw [if_pos h, List.filter_cons, if_neg (by simp), ih, List.filter_cons]
      cases hw : e.went with
      | none =>
        rw [if_pos (show (none : Option Int).isNone = true from rfl), List.map_cons, List.filter_cons, if_neg (by simp [h])]
      | some x => rw [if_neg (by simp)]
    · rw [if_neg h, List.filter_cons, List.filter_cons]
      cases hw : e.went with
      | none =>
        rw [if_pos (show (none : Option Int).isNone = true from rfl), if_pos (show (none : Option Int).isNone = true from rfl), List.map_cons, List.map_cons, List.filter_cons, if_pos (by simp [h]), ih]
      | some x => rw [if_neg (by simp), if_neg (by simp), ih]
theorem refuse_pd {rs : Rds} {last : Option Int} {wr : Int} {r : Rw} (h : FitU r) (hw : wr < 300) (hl : lateR last r = false) : refuseR rs last wr r = none := by
  unfold refuseR
  rw [if_neg (by omega), hl]
  cases r with
  | pay n d s p c => rfl
  | dun n d s => rfl
  | _ => exact h.elim
theorem okPut_pd {rs : Rds} {r : Rw} (h : FitU r) : OkPut rs r := by
  cases r with
  | pay n d s p c => trivial
  | dun n d s => trivial
  | _ => exact h.elim
theorem okRows_pd {rows : List Rw} (h : ∀ r ∈ rows, FitU r) : OkRows rows := by
  have : ∀ n, n ≤ rows.length → OkRows (rows.take n) := by
    intro n
    induction n with
    | zero => intro _; rw [List.take_zero]; exact .nil
    | succ n ih =>
      intro hn
      rw [List.take_succ_eq_append_getElem (by omega)]
      exact .snoc (ih (by omega)) (okPut_pd (h _ (List.getElem_mem _)))
  have := this rows.length (Nat.le_refl _)
  rwa [List.take_length] at this
theorem anew_pd {rows : List Rw} (h : ∀ r ∈ rows, FitU r) (hn : rows.length ≤ 300) (hs : (rows.map Rw.day).Pairwise (· ≤ ·)) : AnewOk rows := by
  intro j hj
  refine refuse_pd (h _ (List.getElem_mem hj)) (by omega) ?_
  cases j with
  | zero => rfl
  | succ j =>
    rw [lastR_take (by omega)]
    show decide (rows[j + 1].day < rows[j].day) = false
    refine decide_eq_false ?_
    have := List.pairwise_iff_getElem.mp hs j (j + 1) (by rw [List.length_map]; omega) (by rw [List.length_map]; omega) (by omega)
    rw [List.getElem_map, List.getElem_map] at this
    omega
def lastD (ks : List Rw) : Int := ((0 : Int) :: ks.map Rw.day).getLast (by simp)
theorem lastR_D {ks : List Rw} : lastR ks = none ∨ lastR ks = some (lastD ks) := by
  unfold lastR lastD
  cases ks with
  | nil => exact .inl rfl
  | cons k ks =>
    refine .inr ?_
    rw [List.getLast?_eq_some_getLast (List.cons_ne_nil k ks)]
    show some _ = some _
    congr 1
    rw [List.getLast_cons (a := (0 : Int)) (l := (k :: ks).map Rw.day) (by simp)]
    simp only [List.getLast_map]
theorem late_D {ks : List Rw} {r : Rw} (h : lastD ks ≤ r.day) : lateR (lastR ks) r = false := by
  rcases lastR_D (ks := ks) with e | e
  · rw [e]; rfl
  · rw [e]
    exact decide_eq_false (by omega)
theorem lastD_le {ks : List Rw} {b : Int} (h0 : 0 ≤ b) (h : ∀ r ∈ ks, r.day ≤ b) : lastD ks ≤ b := by
  unfold lastD
  have := List.getLast_mem (l := (0 : Int) :: ks.map Rw.day) (by simp)
  generalize ((0 : Int) :: ks.map Rw.day).getLast (by simp) = x at this ⊢
  rcases List.mem_cons.mp this with e | e
  · omega
  · obtain ⟨r, hr, rfl⟩ := List.mem_map.mp e
    exact h r hr
theorem lastD_nn {ks : List Rw} (h : ∀ r ∈ ks, 0 ≤ r.day) : 0 ≤ lastD ks := by
  unfold lastD
  have := List.getLast_mem (l := (0 : Int) :: ks.map Rw.day) (by simp)
  generalize ((0 : Int) :: ks.map Rw.day).getLast (by simp) = x at this ⊢
  rcases List.mem_cons.mp this with e | e
  · omega
  · obtain ⟨r, hr, rfl⟩ := List.mem_map.mp e
    exact h r hr
/-- in an ordered list no day is behind the last -/
theorem srt_lastD {ks : List Rw} (hs : (ks.map Rw.day).Pairwise (· ≤ ·)) : ∀ r ∈ ks, r.day ≤ lastD ks := by
  intro r hr
  unfold lastD
  cases ks with
  | nil => cases hr
  | cons k ks =>
    rw [List.getLast_cons (by simp)]
    obtain ⟨j, hj, rfl⟩ := List.getElem_of_mem hr
    rw [List.getLast_eq_getElem]
    by_cases e : j = (k :: ks).length - 1
    · subst e
      rw [List.getElem_map]
      simp only [List.length_map]
      exact Int.le_refl _
    · have := List.pairwise_iff_getElem.mp hs j (((k :: ks).map Rw.day).length - 1) (by rw [List.length_map]; omega) (by rw [List.length_map]; omega) (by rw [List.length_map]; omega)
      rw [List.getElem_map] at this
      exact this
structure S19 (es : List En) (dn : Int) (gone : List Int) : Prop where
  num : NumE es
  cm : ∀ e ∈ es, e.came ≤ dn
  wt : ∀ e ∈ es, ∀ g, e.went = some g → g ≤ dn
  gn : ∀ j (h : j < es.length), es[j].went = none ↔ (j : Int) ∉ gone
  gr : ∀ x ∈ gone, 0 ≤ x ∧ x < (es.length : Int)
  dl : dn = es.length + gone.length
  fit : ∀ e ∈ es, FitU e.row
  srt : ((liveE es).map Rw.day).Pairwise (· ≤ ·)
  nn : ∀ e ∈ es, 0 ≤ e.row.day ∧ e.row.day ≤ 2 * (es.length : Int)
theorem live_mem {es : List En} {r : Rw} (h : r ∈ liveE es) : ∃ e ∈ es, e.row = r ∧ e.went = none := by
  unfold liveE at h
  obtain ⟨e, he, rfl⟩ := List.mem_map.mp h
  obtain ⟨h1, h2⟩ := List.mem_filter.mp he
  exact ⟨e, h1, rfl, by simpa using h2⟩
section
variable {es : List En} {dn : Int} {gone : List Int} (S : S19 es dn gone)
include S
theorem S19.kept : keptE es dn = liveE es := kept_live S.cm S.wt
theorem S19.kfit : ∀ r ∈ liveE es, FitU r := fun r hr => by
  obtain ⟨e, he, rfl, _⟩ := live_mem hr
  exact S.fit e he
theorem S19.last_b : 0 ≤ lastD (liveE es) ∧ lastD (liveE es) ≤ 2 * (es.length : Int) :=
  ⟨lastD_nn fun r hr => by obtain ⟨e, he, rfl, _⟩ := live_mem hr; exact (S.nn e he).1, lastD_le (by omega) fun r hr => by obtain ⟨e, he, rfl, _⟩ := live_mem hr; exact (S.nn e he).2⟩
/-- what is live, by places -/
theorem S19.by_place {β : Type} (f : Rw → β) : (liveE es).map f = ((List.range es.length).filter fun (j : Nat) => decide ((j : Int) ∉ gone)).map fun j => f (es.getD j default).row := by
  unfold liveE
  rw [filter_range default es, List.map_map, List.map_map]
  have : ((List.range es.length).filter fun i => (es.getD i default).went.isNone) = (List.range es.length).filter fun (j : Nat) => decide ((j : Int) ∉ gone) := by
    refine List.filter_congr fun j hj => ?_
    have hj := List.mem_range.mp hj
    have e : es.getD j default = es[j] := by simp [List.getD, hj]
    rw [e, Bool.eq_iff_iff, decide_eq_true_iff, Option.isNone_iff_eq_none]
    exact S.gn j hj
  rw [this]
  rfl
theorem S19.push {r : Rw} (hf : FitU r) (hn : r.num = es.length) (h1 : lastD (liveE es) ≤ r.day) (h2 : r.day ≤ lastD (liveE es) + 2) : S19 (es ++ [⟨r, dn + 1, none⟩]) (dn + 1) gone := by
  have lb := S.last_b
  refine ⟨fun j hj => ?_, fun e he => ?_, fun e he g hg => ?_, fun j hj => ?_, fun x hx => ?_, ?_, fun e he => ?_, ?_, fun e he => ?_⟩
  · by_cases h : j < es.length
    · rw [List.getElem_append_left h]; exact S.num j h
    · have : j = es.length := by rw [List.length_append, List.length_singleton] at hj; omega
      subst this
      rw [List.getElem_append_right (Nat.le_refl _)]
      simpa using hn
  · rcases List.mem_append.mp he with he | he
    · have := S.cm e he; omega
    · rw [List.mem_singleton.mp he]; exact Int.le_refl _
  · rcases List.mem_append.mp he with he | he
    · have := S.wt e he g hg; omega
    · rw [List.mem_singleton.mp he] at hg; cases hg
  · by_cases h : j < es.length
    · rw [List.getElem_append_left h]; exact S.gn j h
    · have : j = es.length := by rw [List.length_append, List.length_singleton] at hj; omega
      subst this
      rw [List.getElem_append_right (Nat.le_refl _)]
      refine iff_of_true (by simp) fun z => ?_
      have := S.gr _ z
      omega
  · have := S.gr x hx
    rw [List.length_append, List.length_singleton]
    exact ⟨this.1, by omega⟩
  · have := S.dl
    rw [List.length_append, List.length_singleton]
    omega
  · rcases List.mem_append.mp he with he | he
    · exact S.fit e he
    · rw [List.mem_singleton.mp he]; exact hf
  · rw [live_push, List.map_append, List.pairwise_append]
    refine ⟨S.srt, by simp, fun x hx y hy => ?_⟩
    obtain ⟨r', hr', rfl⟩ := List.mem_map.mp hx
    have := srt_lastD S.srt r' hr'
    simp only [List.map_cons, List.map_nil, List.mem_singleton] at hy
    omega
  · rw [List.length_append, List.length_singleton]
    rcases List.mem_append.mp he with he | he
    · have := S.nn e he; exact ⟨this.1, by omega⟩
    · rw [List.mem_singleton.mp he]; exact ⟨by show 0 ≤ r.day; omega, by show r.day ≤ _; omega⟩
theorem S19.bad {i : Int} : (∃ r ∈ liveE es, r.num = i) ↔ ¬ (i < 0 ∨ (es.length : Int) ≤ i ∨ i ∈ gone) := by
  constructor
  · rintro ⟨r, hr, rfl⟩
    obtain ⟨e, he, rfl, hw⟩ := live_mem hr
    obtain ⟨j, hj, rfl⟩ := List.getElem_of_mem he
    have h1 := S.num j hj
    have h2 := (S.gn j hj).mp hw
    rw [h1]
    rintro (z | z | z)
    · omega
    · omega
    · exact h2 z
  · intro h
    have h0 : 0 ≤ i := by
      rcases (by omega : i < 0 ∨ 0 ≤ i) with z | z
      · exact absurd (.inl z) h
      · exact z
    have h1 : i < (es.length : Int) := by
      rcases (by omega : i < (es.length : Int) ∨ (es.length : Int) ≤ i) with z | z
      · exact z
      · exact absurd (.inr (.inl z)) h
    have hg : i ∉ gone := fun z => h (.inr (.inr z))
    have hj : i.toNat < es.length := by omega
    have ei : ((i.toNat : Nat) : Int) = i := by omega
    refine ⟨es[i.toNat].row, ?_, by rw [S.num _ hj, ei]⟩
    unfold liveE
    refine List.mem_map.mpr ⟨es[i.toNat], List.mem_filter.mpr ⟨List.getElem_mem hj, ?_⟩, rfl⟩
    have := (S.gn _ hj).mpr (by rw [ei]; exact hg)
    rw [this]
    rfl
theorem S19.undo {i : Int} (h : ∃ r ∈ liveE es, r.num = i) : S19 (goneE es i (dn + 1)) (dn + 1) (gone ++ [i]) := by
  have hb := (S.bad).mp h
  have mem : ∀ {e : En}, e ∈ goneE es i (dn + 1) → ∃ e0 ∈ es, e.row = e0.row ∧ e.came = e0.came ∧ (e.went = e0.went ∨ e.went = some (dn + 1)) := fun {e} he => by
    unfold goneE at he
    obtain ⟨e0, h0, rfl⟩ := List.mem_map.mp he
    refine ⟨e0, h0, ?_⟩
    split
    · exact ⟨rfl, rfl, .inr rfl⟩
    · exact ⟨rfl, rfl, .inl rfl⟩
  have get : ∀ {j : Nat} (hj : j < es.length), (goneE es i (dn + 1))[j]'(by rw [goneE_len]; exact hj) = if (j : Int) = i then { es[j] with went := some (dn + 1) } else es[j] := fun {j} hj => by
    unfold goneE
    rw [List.getElem_map, S.num j hj]
  refine ⟨fun j hj => ?_, fun e he => ?_, fun e he g hg => ?_, fun j hj => ?_, fun x hx => ?_, ?_, fun e he => ?_, ?_, fun e he => ?_⟩
  · have hj' : j < es.length := by rw [goneE_len] at hj; exact hj
    rw [get hj']
    have := S.num j hj'
    split
    · exact this
    · exact this
  · obtain ⟨e0, h0, _, h2, _⟩ := mem he
    have := S.cm e0 h0
    omega
  · obtain ⟨e0, h0, _, _, h3 | h3⟩ := mem he
    · rw [h3] at hg
      have := S.wt e0 h0 g hg
      omega
    · rw [h3] at hg
      cases hg
      exact Int.le_refl _
  · have hj' : j < es.length := by rw [goneE_len] at hj; exact hj
    rw [get hj']
    by_cases e : (j : Int) = i
    · rw [if_pos e]
      refine iff_of_false (by simp) (by simp [e])
    · rw [if_neg e, S.gn j hj']
      simp [e]
  · rw [goneE_len]
    rcases List.mem_append.mp hx with hx | hx
    · exact S.gr x hx
    · rw [List.mem_singleton.mp hx]
      omega
  · have := S.dl
    rw [goneE_len, List.length_append, List.length_singleton]
    omega
  · obtain ⟨e0, h0, h1, _⟩ := mem he
    rw [h1]
    exact S.fit e0 h0
  · rw [live_gone]
    exact S.srt.sublist (List.filter_sublist.map _)
  · obtain ⟨e0, h0, h1, _⟩ := mem he
    rw [h1, goneE_len]
    exact S.nn e0 h0
theorem S19.anew {i : Int} (hn : es.length ≤ 300) : AnewOk ((liveE es).filter fun r => decide (r.num ≠ i)) := by
  refine anew_pd (fun r hr => S.kfit r (List.mem_filter.mp hr).1) ?_ (S.srt.sublist (List.filter_sublist.map _))
  have h1 : (liveE es).length ≤ es.length := by unfold liveE; rw [List.length_map]; exact List.length_filter_le _ _
  have h2 := List.length_filter_le (fun r : Rw => decide (r.num ≠ i)) (liveE es)
  omega
end
theorem S19.nil : S19 [] 0 [] := by
  refine ⟨fun j h => ?_, fun e he => ?_, fun e he => ?_, fun j h => ?_, fun x h => ?_, rfl, fun e he => ?_, List.Pairwise.nil, fun e he => ?_⟩
  · cases h
  · cases he
  · cases he
  · cases h
  · cases h
  · cases he
  · cases he
theorem atI_ints_last {ns : List Int} (h : ns ≠ []) : atI (ns.map V.int) (-1) = some (V.int (ns.getLast h)) := by
  have h0 : 0 < ns.length := List.length_pos_iff.mpr h
  have e : ixN (ns.map V.int).length (-1) = some (ns.length - 1) := by
    unfold ixN
    rw [List.length_map, if_neg (by decide), if_pos (by omega)]
    congr 1
    omega
  unfold atI
  rw [e, List.getLast_eq_getElem]
  simp [h0]
end L2

set_option Elab.async false
set_option linter.all false
set_option maxRecDepth 100000
set_option maxHeartbeats 4000000
namespace My
open PySem L2
def top (i : Nat) : Stmt := PySem.Challenge.pw_costorder_k19_undone_once.main.body.getD i (.Pass ⟨0, 0, 0, 0⟩)
abbrev sPayRow : Stmt := top 29
abbrev sDunRow : Stmt := top 30
abbrev sRowText : Stmt := top 31
abbrev sRoundsOf : Stmt := top 33
abbrev sPutRow : Stmt := top 34
abbrev sOverOf : Stmt := top 35
abbrev sClaimsOf : Stmt := top 36
abbrev sFindClaim : Stmt := top 37
abbrev sCheckRow : Stmt := top 38
abbrev sCheckAnew : Stmt := top 39
abbrev sCheckNext : Stmt := top 40
abbrev sLacksClaim : Stmt := top 41
abbrev sMeetsOver : Stmt := top 42
abbrev sComesTwice : Stmt := top 43
abbrev sNamesTooMuch : Stmt := top 44
abbrev sWorthIn : Stmt := top 45
abbrev sLInt : Stmt := top 49
abbrev sLTexts : Stmt := top 50
abbrev sLCall : Stmt := top 51
abbrev sLDo : Stmt := top 52
abbrev sLRight : Stmt := top 53
abbrev sLText : Stmt := top 54
abbrev sLaw : Stmt := top 55
abbrev sBookInit : Stmt := inClass (top 47) 0
abbrev sBookPay : Stmt := inClass (top 47) 6
abbrev sBookDun : Stmt := inClass (top 47) 7
abbrev sBookWrite : Stmt := inClass (top 47) 8
abbrev sBookUndo : Stmt := inClass (top 47) 9
abbrev sBookMark : Stmt := inClass (top 47) 10
abbrev sBookRowsKept : Stmt := inClass (top 47) 11
abbrev sBookKept : Stmt := inClass (top 47) 12
/-- the script's cell -/
def cell (ns : List Int) (k : Int) : Int := if ns = [] then 0 else ns.getD (k % (ns.length : Int)).toNat 0 + 31 * (k / (ns.length : Int))
def spAt (K : PySem.W.Frag) : Sp := fun vs H Q _ => ∃ (a : Addr) (ns : List Int) (k : Int), vs = [.ref a, .int k] ∧ SqL K H a (ns.map V.int) ∧ ns.length ≤ 63 ∧ ∀ H', Same H H' → Q (.int (cell ns k)) H'
theorem r_at {K : PySem.W.Frag} {H : Hp} {Q : VK} {E : XK} {a : Addr} {ns : List Int} {k : Int} (h : SqL K H a (ns.map V.int)) (hl : ns.length ≤ 63) (q : ∀ H', Same H H' → Q (.int (cell ns k)) H') : spAt K ([.ref a, .int k] ++ []) H Q E := ⟨a, ns, k, rfl, h, hl, q⟩
def spInt : Sp := fun vs H Q _ => ∃ i, vs = [.int i] ∧ Q (.bl true) H
theorem r_int {H : Hp} {Q : VK} {E : XK} {i : Int} (q : Q (.bl true) H) : spInt ([.int i] ++ []) H Q E := ⟨i, rfl, q⟩
def spLawT (K : PySem.W.Frag) (T : Addr) : Sp := fun vs H Q _ => ∃ (a : Addr) (ns : List Int), vs = [.ref a] ∧ SqL K H a (ns.map V.int) ∧ ns.length ≤ 63 ∧ H T = some (.tbl #[]) ∧ ∀ H', Q (.bl true) H'
def spLaw (K : PySem.W.Frag) : Sp := fun vs H Q _ => ∃ (a : Addr) (ns : List Int), vs = [.ref a] ∧ SqL K H a (ns.map V.int) ∧ ns.length ≤ 63 ∧ ∀ H', Q (.bl true) H'

structure Txt (K : PySem.W.Frag) (mg : Str → Option Value) (cB c_CostError c_Full c_NoClaim c_RoundOver c_TooLate c_Twice c_TooMuch c_NoRow c_Needed : Addr) : Prop where
  b_any : mg "any" = none
  b_bool : mg "bool" = none
  b_enumerate : mg "enumerate" = none
  b_int : mg "int" = none
  b_isinstance : mg "isinstance" = none
  b_len : mg "len" = none
  b_list : mg "list" = none
  b_range : mg "range" = none
  b_set : mg "set" = none
  b_str : mg "str" = none
  b_zip : mg "zip" = none
  c_CLAIM : ∃ t, mg "CLAIM" = some (.int (3) t)
  c_DAY : ∃ t, mg "DAY" = some (.int (2) t)
  c_MOST_ROWS : ∃ t, mg "MOST_ROWS" = some (.int (300) t)
  c_NUMBER : ∃ t, mg "NUMBER" = some (.int (0) t)
  c_OFFER_AMOUNT : ∃ t, mg "OFFER_AMOUNT" = some (.int (5) t)
  c_OFFER_CLAIM : ∃ t, mg "OFFER_CLAIM" = some (.int (4) t)
  c_ROUNDS : ∃ t, mg "ROUNDS" = some (.int (3) t)
  c_RULE_WINS : ∃ t, mg "RULE_WINS" = some (.int (5) t)
  c_TURN : ∃ t, mg "TURN" = some (.int (3) t)
  c_WORD : ∃ t, mg "WORD" = some (.int (1) t)
  c_WORTH : ∃ t, mg "WORTH" = some (.int (3) t)
  cl : Cls K cB
  mgC : mg "Book" = some (.ref cB)
  n_people : NoAttr K cB "people"
  n_court : NoAttr K cB "court"
  n_speakers : NoAttr K cB "speakers"
  n_rows : NoAttr K cB "rows"
  n_came : NoAttr K cB "came"
  n_went : NoAttr K cB "went"
  n_done : NoAttr K cB "done"
  y_CostError : mg "CostError" = some (.ref c_CostError)
  y_Full : mg "Full" = some (.ref c_Full)
  y_NoClaim : mg "NoClaim" = some (.ref c_NoClaim)
  y_RoundOver : mg "RoundOver" = some (.ref c_RoundOver)
  y_TooLate : mg "TooLate" = some (.ref c_TooLate)
  y_Twice : mg "Twice" = some (.ref c_Twice)
  y_TooMuch : mg "TooMuch" = some (.ref c_TooMuch)
  y_NoRow : mg "NoRow" = some (.ref c_NoRow)
  y_Needed : mg "Needed" = some (.ref c_Needed)
  x_Full : ExcCls K c_Full
  x_NoClaim : ExcCls K c_NoClaim
  x_RoundOver : ExcCls K c_RoundOver
  x_TooLate : ExcCls K c_TooLate
  x_Twice : ExcCls K c_Twice
  x_TooMuch : ExcCls K c_TooMuch
  x_NoRow : ExcCls K c_NoRow
  xc : ∀ C ∈ [c_Full, c_NoClaim, c_RoundOver, c_TooLate, c_Twice, c_TooMuch, c_NoRow], XCls K C
  xm : ∀ C ∈ [c_Full, c_NoClaim, c_RoundOver, c_TooLate, c_Twice, c_TooMuch, c_NoRow], PySem.W.exmOne K (.ref C) (.ref c_CostError) = some true
  k_Full_NoClaim : PySem.W.kitOne K (.ref c_Full) (.ref c_NoClaim) = some false
  k_Full_RoundOver : PySem.W.kitOne K (.ref c_Full) (.ref c_RoundOver) = some false
  k_Full_TooLate : PySem.W.kitOne K (.ref c_Full) (.ref c_TooLate) = some false
  k_Full_Twice : PySem.W.kitOne K (.ref c_Full) (.ref c_Twice) = some false
  k_Full_TooMuch : PySem.W.kitOne K (.ref c_Full) (.ref c_TooMuch) = some false
  k_Full_NoRow : PySem.W.kitOne K (.ref c_Full) (.ref c_NoRow) = some false
  k_Full_Needed : PySem.W.kitOne K (.ref c_Full) (.ref c_Needed) = some false
  k_NoClaim_Full : PySem.W.kitOne K (.ref c_NoClaim) (.ref c_Full) = some false
  k_NoClaim_RoundOver : PySem.W.kitOne K (.ref c_NoClaim) (.ref c_RoundOver) = some false
  k_NoClaim_TooLate : PySem.W.kitOne K (.ref c_NoClaim) (.ref c_TooLate) = some false
  k_NoClaim_Twice : PySem.W.kitOne K (.ref c_NoClaim) (.ref c_Twice) = some false
  k_NoClaim_TooMuch : PySem.W.kitOne K (.ref c_NoClaim) (.ref c_TooMuch) = some false
  k_NoClaim_NoRow : PySem.W.kitOne K (.ref c_NoClaim) (.ref c_NoRow) = some false
  k_NoClaim_Needed : PySem.W.kitOne K (.ref c_NoClaim) (.ref c_Needed) = some false
  k_RoundOver_Full : PySem.W.kitOne K (.ref c_RoundOver) (.ref c_Full) = some false
  k_RoundOver_NoClaim : PySem.W.kitOne K (.ref c_RoundOver) (.ref c_NoClaim) = some false
  k_RoundOver_TooLate : PySem.W.kitOne K (.ref c_RoundOver) (.ref c_TooLate) = some false
  k_RoundOver_Twice : PySem.W.kitOne K (.ref c_RoundOver) (.ref c_Twice) = some false
  k_RoundOver_TooMuch : PySem.W.kitOne K (.ref c_RoundOver) (.ref c_TooMuch) = some false
  k_RoundOver_NoRow : PySem.W.kitOne K (.ref c_RoundOver) (.ref c_NoRow) = some false
  k_RoundOver_Needed : PySem.W.kitOne K (.ref c_RoundOver) (.ref c_Needed) = some false
  k_TooLate_Full : PySem.W.kitOne K (.ref c_TooLate) (.ref c_Full) = some false
  k_TooLate_NoClaim : PySem.W.kitOne K (.ref c_TooLate) (.ref c_NoClaim) = some false
  k_TooLate_RoundOver : PySem.W.kitOne K (.ref c_TooLate) (.ref c_RoundOver) = some false
  k_TooLate_Twice : PySem.W.kitOne K (.ref c_TooLate) (.ref c_Twice) = some false
  k_TooLate_TooMuch : PySem.W.kitOne K (.ref c_TooLate) (.ref c_TooMuch) = some false
  k_TooLate_NoRow : PySem.W.kitOne K (.ref c_TooLate) (.ref c_NoRow) = some false
  k_TooLate_Needed : PySem.W.kitOne K (.ref c_TooLate) (.ref c_Needed) = some false
  k_Twice_Full : PySem.W.kitOne K (.ref c_Twice) (.ref c_Full) = some false
  k_Twice_NoClaim : PySem.W.kitOne K (.ref c_Twice) (.ref c_NoClaim) = some false
  k_Twice_RoundOver : PySem.W.kitOne K (.ref c_Twice) (.ref c_RoundOver) = some false
  k_Twice_TooLate : PySem.W.kitOne K (.ref c_Twice) (.ref c_TooLate) = some false
  k_Twice_TooMuch : PySem.W.kitOne K (.ref c_Twice) (.ref c_TooMuch) = some false
  k_Twice_NoRow : PySem.W.kitOne K (.ref c_Twice) (.ref c_NoRow) = some false
  k_Twice_Needed : PySem.W.kitOne K (.ref c_Twice) (.ref c_Needed) = some false
  k_TooMuch_Full : PySem.W.kitOne K (.ref c_TooMuch) (.ref c_Full) = some false
  k_TooMuch_NoClaim : PySem.W.kitOne K (.ref c_TooMuch) (.ref c_NoClaim) = some false
  k_TooMuch_RoundOver : PySem.W.kitOne K (.ref c_TooMuch) (.ref c_RoundOver) = some false
  k_TooMuch_TooLate : PySem.W.kitOne K (.ref c_TooMuch) (.ref c_TooLate) = some false
  k_TooMuch_Twice : PySem.W.kitOne K (.ref c_TooMuch) (.ref c_Twice) = some false
  k_TooMuch_NoRow : PySem.W.kitOne K (.ref c_TooMuch) (.ref c_NoRow) = some false
  k_TooMuch_Needed : PySem.W.kitOne K (.ref c_TooMuch) (.ref c_Needed) = some false
  k_NoRow_Full : PySem.W.kitOne K (.ref c_NoRow) (.ref c_Full) = some false
  k_NoRow_NoClaim : PySem.W.kitOne K (.ref c_NoRow) (.ref c_NoClaim) = some false
  k_NoRow_RoundOver : PySem.W.kitOne K (.ref c_NoRow) (.ref c_RoundOver) = some false
  k_NoRow_TooLate : PySem.W.kitOne K (.ref c_NoRow) (.ref c_TooLate) = some false
  k_NoRow_Twice : PySem.W.kitOne K (.ref c_NoRow) (.ref c_Twice) = some false
  k_NoRow_TooMuch : PySem.W.kitOne K (.ref c_NoRow) (.ref c_TooMuch) = some false
  k_NoRow_Needed : PySem.W.kitOne K (.ref c_NoRow) (.ref c_Needed) = some false

def spClaimRow : Sp := fun vs H Q _ => ∃ n d c a b w, vs = [.int n, .int d, .int c, .int a, .int b, .int w] ∧ ∀ p H', Same H H' → H p = none → RowAt H' p (.claim n d c a b w) → Q (.ref p) H'
def spRuleRow (K : PySem.W.Frag) : Sp := fun vs H Q _ => ∃ n d t l bk as ws, vs = [.int n, .int d, .int t, .ref l, .bl bk] ∧ SqL K H l (List.map V.ref as) ∧ TabIs H as ws ∧ (∀ x ∈ ws, x.length = 2) ∧ ws.length ≤ 1000 ∧ ∀ p H', Same H H' → H p = none → RowAt H' p (.rule n d t bk ws) → Q (.ref p) H'
def spCarryRow : Sp := fun vs H Q _ => ∃ n d c, vs = [.int n, .int d, .int c] ∧ ∀ p H', Same H H' → H p = none → RowAt H' p (.carry n d c) → Q (.ref p) H'
def spStepRow : Sp := fun vs H Q _ => ∃ n d t sd k m l, vs = [.int n, .int d, .int t, .int sd, .str k, .int m, .str l] ∧ ∀ p H', Same H H' → H p = none → RowAt H' p (.step n d t sd k m l) → Q (.ref p) H'
def spOfferRow : Sp := fun vs H Q _ => ∃ n d t c a, vs = [.int n, .int d, .int t, .int c, .int a] ∧ ∀ p H', Same H H' → H p = none → RowAt H' p (.offer n d t c a) → Q (.ref p) H'
def spFind (K : PySem.W.Frag) : Sp := fun vs H Q _ => ∃ a cs r c, vs = [.ref a, .int c] ∧ SqL K H a (List.map V.ref cs) ∧ TabIs H cs r ∧ (∀ x ∈ r, x.length = 4) ∧ ∀ v, Hit H r c v → Q v H
def spOver (K : PySem.W.Frag) : Sp := fun vs H Q _ => ∃ p xs, vs = [.ref p] ∧ SqL K H p xs ∧ Q (.int ((xs.length : Int) - 1)) H
def spClaims : Sp := fun vs H Q _ => ∃ p ls rs t, vs = [.ref p, .int t] ∧ RdsAt H p ls rs ∧ ∀ l cs, H l = none → TabIs H cs (claimsR rs t) → Q (.ref l) (upd H l (.lst (List.map V.ref cs)))
def F4 (rs : Rds) : Prop := ∀ x ∈ rs, ∀ y ∈ x, y.length = 4
theorem F4.claims {rs : Rds} {t : Int} (f : F4 rs) : ∀ x ∈ claimsR rs t, x.length = 4 := fun x hx => by
  unfold claimsR at hx
  split at hx
  · exact f _ (rdsD_mem hx) x hx
  · cases hx
def spPut : Sp := fun vs H Q _ => ∃ p q ls rs r, vs = [.ref p, .ref q] ∧ RdsAt H p ls rs ∧ rs ≠ [] ∧ (∀ x ∈ rs, x.length ≤ 500) ∧ rs.length ≤ 500 ∧ F4 rs ∧ RowAt H q r ∧ OkPut rs r ∧
  ∀ ls' H', RdsAt H' p ls' (putR rs r) → (∀ x o, H x = some o → x ≠ p → x ∉ ls → H' x = some o) → (∀ l ∈ ls', l ∈ ls ∨ H l = none) → Q .non H'
def spRounds (K : PySem.W.Frag) : Sp := fun vs H Q _ => ∃ a ps rows, vs = [.ref a] ∧ SqL K H a (List.map V.ref ps) ∧ RowsAt H ps rows ∧ OkRows rows ∧ rows.length ≤ 300 ∧ ∀ p ls H', Same H H' → H p = none → RdsAt H' p ls (roundsR rows) → Q (.ref p) H'
def spLacks : Sp := fun vs H Q _ => ∃ p q ls rs r, vs = [.ref p, .ref q] ∧ RdsAt H p ls rs ∧ F4 rs ∧ RowAt H q r ∧ ∀ H', Same H H' → Q (.bl (lacksR rs r)) H'
def spMeets : Sp := fun vs H Q _ => ∃ p q ls rs r, vs = [.ref p, .ref q] ∧ RdsAt H p ls rs ∧ RowAt H q r ∧ ∀ H', Same H H' → Q (.bl (meetsR rs r)) H'
def spTwice : Sp := fun vs H Q _ => ∃ p q ls rs r, vs = [.ref p, .ref q] ∧ RdsAt H p ls rs ∧ rs ≠ [] ∧ F4 rs ∧ RowAt H q r ∧ ∀ H', Same H H' → Q (.bl (twiceR rs r)) H'
def spMuch : Sp := fun vs H Q _ => ∃ p q ls rs r, vs = [.ref p, .ref q] ∧ RdsAt H p ls rs ∧ F4 rs ∧ RowAt H q r ∧ lacksR rs r = false ∧ ∀ H', Same H H' → Q (.bl (muchR rs r)) H'
def spWorth : Sp := fun vs H Q _ => ∃ p q ls rs c y0 y1 y2 t ys, vs = [.ref p, .ref q, .int c] ∧ RdsAt H p ls rs ∧ F4 rs ∧ H q = some (.tup (y0 :: y1 :: y2 :: .int t :: ys)) ∧ ((claimsR rs t).any fun x => x.getD 0 0 == c) = true ∧ ∀ H', Same H H' → Q (.int (worthR rs t c)) H'
def spNext (cs : List Addr) : Sp := fun vs H Q E => ∃ p lv wn q ls rs last r, vs = [.ref p, lv, .int wn, .ref q] ∧ RdsAt H p ls rs ∧ rs ≠ [] ∧ F4 rs ∧ LastAt H lv last ∧ RowAt H q r ∧
  (refuseR rs last wn r = none → ∀ H', Same H H' → Q .non H') ∧ (∀ k, refuseR rs last wn r = some k → ∀ t H', Same H H' → H' t = some (.tup [.str (msgR k)]) → E (.ref (cs.getD k 0)) (some t) H')
def spCheck (K : PySem.W.Frag) (cs : List Addr) : Sp := fun vs H Q E => ∃ a wn q ps rows r, vs = [.ref a, .int wn, .ref q] ∧ SqL K H a (List.map V.ref ps) ∧ RowsAt H ps rows ∧ OkRows rows ∧ rows.length ≤ 300 ∧ RowAt H q r ∧
  (refuseR (roundsR rows) (lastR rows) wn r = none → ∀ H', Same H H' → Q .non H') ∧ (∀ k, refuseR (roundsR rows) (lastR rows) wn r = some k → ∀ t H', Same H H' → H' t = some (.tup [.str (msgR k)]) → E (.ref (cs.getD k 0)) (some t) H')

def spPayRow : Sp := fun vs H Q _ => ∃ n d s p c, vs = [.int n, .int d, .int s, .int p, .int c] ∧ ∀ a H', Same H H' → H a = none → RowAt H' a (.pay n d s p c) → Q (.ref a) H'
def spDunRow : Sp := fun vs H Q _ => ∃ n d s, vs = [.int n, .int d, .int s] ∧ ∀ a H', Same H H' → H a = none → RowAt H' a (.dun n d s) → Q (.ref a) H'
def spInitU (K : PySem.W.Frag) (cB : Addr) : Sp := fun vs H Q _ => ∃ b a1 a2 a3 dx x1 c2 t2 c3 t3, vs = [.ref b, .ref a1, .ref a2, .ref a3] ∧ H b = some (.ins cB dx []) ∧ SqL K H a1 (List.map V.int x1) ∧ SqL K H a2 (List.map V.ref c2) ∧ TabIs H c2 t2 ∧ SqL K H a3 (List.map V.ref c3) ∧ TabIs H c3 t3 ∧ a1 ≠ b ∧ a2 ≠ b ∧ a3 ≠ b ∧
  ∀ (A : BkA) H', A.b = b → BuAt cB H' A ⟨x1, t2, t3⟩ [] 0 → (∀ x ∈ A.all, x ≠ b → H x = none) → (∀ x o, H x = some o → x ≠ b → H' x = some o) → Q .non H'
def spKeptRowsU (cB : Addr) : Sp := fun vs H Q _ => ∃ A C es dn mv m, vs = [.ref (BkA.b A), mv] ∧ BuAt cB H A C es dn ∧ es.length ≤ 300 ∧ ((mv = .non ∧ m = dn) ∨ mv = .int m) ∧
  ∀ l ps H', Same H H' → H l = none → H' l = some (.lst (List.map V.ref ps)) → RowsAt H' ps (keptE es m) → Q (.ref l) H'
def spWriteU (cB : Addr) (cs : List Addr) : Sp := fun vs H Q E => ∃ A C es dn q r, vs = [.ref (BkA.b A), .ref q] ∧ BuAt cB H A C es dn ∧ OkRows (keptE es dn) ∧ es.length ≤ 300 ∧ RowAt H q r ∧
  (refuseR (roundsR (keptE es dn)) (lastR (keptE es dn)) es.length r = none → ∀ H', BuAt cB H' A C (es ++ [⟨r, dn + 1, none⟩]) (dn + 1) → SameU A H H' → Q (.int r.num) H') ∧
  (∀ k, refuseR (roundsR (keptE es dn)) (lastR (keptE es dn)) es.length r = some k → ∀ t H', Same H H' → H' t = some (.tup [.str (msgR k)]) → E (.ref (cs.getD k 0)) (some t) H')
/-- what a method that writes a row promises -/
def WrU (cB : Addr) (cs : List Addr) (A : BkA) (C : BkC) (es : List En) (dn : Int) (r : Rw) (H : Hp) (Q : VK) (E : XK) : Prop := BuAt cB H A C es dn ∧ OkRows (keptE es dn) ∧ es.length ≤ 300 ∧
  (refuseR (roundsR (keptE es dn)) (lastR (keptE es dn)) es.length r = none → ∀ H', BuAt cB H' A C (es ++ [⟨r, dn + 1, none⟩]) (dn + 1) → SameU A H H' → Q (.int r.num) H') ∧
  (∀ k, refuseR (roundsR (keptE es dn)) (lastR (keptE es dn)) es.length r = some k → ∀ t H', Same H H' → H' t = some (.tup [.str (msgR k)]) → E (.ref (cs.getD k 0)) (some t) H')
def spPayU (cB : Addr) (cs : List Addr) : Sp := fun vs H Q E => ∃ A C es dn d s p c, vs = [.ref (BkA.b A), .int d, .int s, .int p, .int c] ∧ WrU cB cs A C es dn (.pay es.length d s p c) H Q E
def spDunU (cB : Addr) (cs : List Addr) : Sp := fun vs H Q E => ∃ A C es dn d s, vs = [.ref (BkA.b A), .int d, .int s] ∧ WrU cB cs A C es dn (.dun es.length d s) H Q E
def spAnew (K : PySem.W.Frag) : Sp := fun vs H Q _ => ∃ a ps rows, vs = [.ref a] ∧ SqL K H a (List.map V.ref ps) ∧ RowsAt H ps rows ∧ AnewOk rows ∧ rows.length ≤ 300 ∧ ∀ H', Same H H' → Q .non H'
def spUndoU (cB : Addr) (cs : List Addr) : Sp := fun vs H Q E => ∃ A C es dn i, vs = [.ref (BkA.b A), .int i] ∧ BuAt cB H A C es dn ∧ es.length ≤ 300 ∧ NumE es ∧ AnewOk ((keptE es dn).filter fun r => decide (r.num ≠ i)) ∧
  ((∃ r ∈ keptE es dn, r.num = i) → ∀ H', BuAt cB H' A C (goneE es i (dn + 1)) (dn + 1) → SameU A H H' → Q (.int i) H') ∧
  ((¬ ∃ r ∈ keptE es dn, r.num = i) → ∀ t H', Same H H' → H' t = some (.tup [.str "no such row"]) → E (.ref (cs.getD 6 0)) (some t) H')
def spMarkU (cB : Addr) : Sp := fun vs H Q _ => ∃ A C es dn, vs = [.ref (BkA.b A)] ∧ BuAt cB H A C es dn ∧ Q (.int dn) H
def spTextU : Sp := fun vs H Q _ => ∃ p r, vs = [.ref p] ∧ RowAt H p r ∧ FitU r ∧ ∀ H', Same H H' → Q (.str (textU r)) H'
def spKeptU (cB : Addr) : Sp := fun vs H Q _ => ∃ A C es dn mv m, vs = [.ref (BkA.b A), mv] ∧ BuAt cB H A C es dn ∧ es.length ≤ 300 ∧ ((mv = .non ∧ m = dn) ∨ mv = .int m) ∧ (∀ r ∈ keptE es m, FitU r) ∧ ∀ l H', Same H H' → H' l = some (.lst (((keptE es m).map textU).map V.str)) → Q (.ref l) H'
theorem kept_len {es : List En} {m : Int} : (keptE es m).length ≤ es.length := by
  unfold keptE
  rw [List.length_map]
  exact List.length_filter_le _ _
theorem ne_b {H : Hp} {b x cB dx : Addr} {fs : List (Str × V)} {ys : List V} (hb : H b = some (.ins cB dx fs)) (h : H x = some (.lst ys)) : x ≠ b := fun z => by rw [z, hb] at h; cases h
inductive Du where
  | pay (s p c : Int)
  | dun (s : Int)
  | undo (i : Int)
def Du.word : Du → Str
  | .pay .. => "pay" | .dun .. => "dun" | .undo .. => "undo"
def Du.row (n d : Int) : Du → Rw
  | .pay s p c => .pay n d s p c
  | .dun s => .dun n d s
  | .undo _ => .dun n d 0
def ToldU (H : Hp) (p : Addr) : Du → Prop
  | .pay s q c => H p = some (.tup [.int s, .int q, .int c])
  | .dun s => H p = some (.tup [.int s])
  | .undo i => H p = some (.tup [.int i])
open Classical in
noncomputable def doU (es : List En) (dn d : Int) : Du → Option (List En)
  | .pay s p c => some (es ++ [⟨.pay es.length d s p c, dn + 1, none⟩])
  | .dun s => some (es ++ [⟨.dun es.length d s, dn + 1, none⟩])
  | .undo i => if ∃ r ∈ keptE es dn, r.num = i then some (goneE es i (dn + 1)) else none
def retU (es : List En) : Du → Int
  | .undo i => i
  | _ => es.length
def OkU (es : List En) (dn d : Int) : Du → Prop
  | .undo i => AnewOk ((keptE es dn).filter fun r => decide (r.num ≠ i))
  | dd => refuseR (roundsR (keptE es dn)) (lastR (keptE es dn)) es.length (dd.row es.length d) = none
def spLCallU (cB : Addr) (cs : List Addr) : Sp := fun vs H Q E => ∃ A C es dn d p dd, vs = [.ref (BkA.b A), .str (Du.word dd), .int d, .ref p] ∧ ToldU H p dd ∧ BuAt cB H A C es dn ∧ es.length ≤ 300 ∧ OkRows (keptE es dn) ∧ NumE es ∧ OkU es dn d dd ∧
  (∀ es', doU es dn d dd = some es' → ∀ H', BuAt cB H' A C es' (dn + 1) → SameU A H H' → Q (.int (retU es dd)) H') ∧
  (doU es dn d dd = none → ∀ t H', Same H H' → H' t = some (.tup [.str "no such row"]) → E (.ref (cs.getD 6 0)) (some t) H')
def spDoU (cB : Addr) : Sp := fun vs H Q _ => ∃ A C es dn d p dd, vs = [.ref (BkA.b A), .str (Du.word dd), .int d, .ref p] ∧ ToldU H p dd ∧ BuAt cB H A C es dn ∧ es.length ≤ 300 ∧ OkRows (keptE es dn) ∧ NumE es ∧ OkU es dn d dd ∧
  (∀ es', doU es dn d dd = some es' → ∀ g H', BuAt cB H' A C es' (dn + 1) → SameU A H H' → H' g = some (.tup [.str "", .int (retU es dd)]) → Q (.ref g) H') ∧
  (doU es dn d dd = none → ∀ g H', Same H H' → H' g = some (.tup [.str "no such row", .non]) → Q (.ref g) H')
def spRight : Sp := fun vs H Q _ => ∃ g z v n, vs = [.ref g, .str z, .int n] ∧ H g = some (.tup [.str z, v]) ∧ (z = "" → v = .int n) ∧ Q (.bl true) H
def spLTextU : Sp := fun vs H Q _ => ∃ d p dd n, vs = [.str (Du.word dd), .int d, .ref p] ∧ ToldU H p dd ∧ (match dd with | .undo _ => False | dd => FitU (dd.row n d)) ∧ ∀ H', Same H H' → Q (.str (textU (dd.row n d))) H'
def spTexts (K : PySem.W.Frag) : Sp := fun vs H Q _ => ∃ a b zs, vs = [.ref a, .ref b] ∧ H a = some (.lst (List.map V.str zs)) ∧ SqL K H b (List.map V.str zs) ∧ zs.length ≤ 1000 ∧ Q (.bl true) H

local macro_rules | `(tactic| walk_at "sq") => `(tactic| first | assumption | exact SqL.of upd_same | exact SqT.of upd_same | exact SqL.of (by assumption) | exact SqT.of (by assumption) | (refine' Same.seq ?s ?t; (case s => assumption); (case t => walk_at "sq")) | (refine' Same.seqT ?s ?t; (case s => assumption); (case t => walk_at "sq")) | (refine' Same.seq ?s ?t; (case s => exact Same.new (by assumption)); (case t => walk_at "sq")) | (refine' Same.seqT ?s ?t; (case s => exact Same.new (by assumption)); (case t => walk_at "sq")))
local macro_rules | `(tactic| walk_at "sm") => `(tactic| first | assumption | exact Same.refl _ | exact Same.new (by assumption) | (refine Same.trans ?_ (Same.new (by assumption)); walk_at "sm") | (refine Same.trans ?_ (by assumption); walk_at "sm"))
local macro_rules | `(tactic| walk_at "ix") => `(tactic| first | exact atI2 (by omega) (by omega) | exact atI3 (by omega) (by omega) | exact atI4 (by omega) (by omega) | exact atI5 (by omega) (by omega) | exact atI7 (by omega) (by omega) | exact atI_tab (by omega) | exact atI_ints (by omega) (by omega) | exact atI_refs (by omega) (by omega) | exact rfl)
local macro_rules | `(tactic| walk_at "rd") => `(tactic| repeat' (first
  | ((with_reducible refine' r_var ?e ?_); (case e => exact rfl))
  | with_reducible refine r_c ?_ | with_reducible refine r_op ?_ | with_reducible refine r_I0 ?_ | ((with_reducible refine' r_I ?_ ?_); (first | (focus (first | exact ⟨by decide, by decide⟩ | (show (0 : Int) < _; decide) | exact Or.inr ⟨by decide, by decide⟩ | exact Or.inl ⟨by decide, by decide⟩ | exact ⟨by decide, by decide, by decide⟩ | exact ⟨by omega, by omega⟩ | (show (0 : Int) < _; omega) | exact Or.inr ⟨by omega, by omega⟩ | exact Or.inl ⟨by omega, by omega⟩)) | skip))
  | with_reducible refine r_EqI ?_ | with_reducible refine r_NeI ?_ | with_reducible refine r_EqS ?_ | with_reducible refine r_NeS ?_
  | with_reducible refine r_un ?_ | with_reducible refine r_U ?_ | with_reducible refine r_test ?_ | with_reducible refine r_tB ?_ | with_reducible refine r_bl ?_
  | with_reducible refine r_and ?_ | with_reducible refine r_or ?_ | with_reducible refine r_not ?_ | with_reducible refine r_andV ?_ | with_reducible refine r_orV ?_ | with_reducible refine r_notV ?_
  | with_reducible refine r_if ?_ | with_reducible refine r_next ?_ | with_reducible refine r_seq ?_ | with_reducible refine r_drop ?_ | with_reducible refine r_ret ?_ | with_reducible refine r_ifS ?_
  | with_reducible refine r_asg ?_ | with_reducible refine r_name ?_ | with_reducible refine r_gnil ?_ | with_reducible refine r_gcons ?_ | with_reducible refine r_gsub ?_ | with_reducible refine r_augS ?_
  | with_reducible refine r_nil ?_ | with_reducible refine r_cons ?_ | with_reducible refine r_tup ?_ | with_reducible refine r_lst ?_ | with_reducible refine r_call ?_ | with_reducible refine r_callX ?_ | with_reducible refine r_cb ?_
  | with_reducible refine r_bm ?_ | with_reducible refine r_sl ?_ | with_reducible refine r_noPart ?_ | with_reducible refine r_part ?_ | with_reducible refine r_exI ?_ | with_reducible refine r_for ?_
  | with_reducible refine r_rng1 ?_ | with_reducible refine r_rngD ?_ | with_reducible refine r_rng2 ?_ | with_reducible refine r_enum ?_ | with_reducible refine r_zip ?_ | with_reducible refine r_ilist ?_ | with_reducible refine iteT ?_ | with_reducible refine iteF ?_ | with_reducible refine iteNT ?_ | with_reducible refine iteNF ?_ | with_reducible refine r_comp ?_ | with_reducible refine r_tt ?_
  | ((with_reducible refine' r_lenL ?h ?_); (case h => walk_at "sq")) | ((with_reducible refine' r_lenT ?h ?_); (case h => walk_at "sq"))
  | with_reducible refine r_min ?_ | with_reducible refine r_max ?_ | with_reducible refine r_intB ?_ | with_reducible refine r_isiInt ?_ | with_reducible refine r_isiNoB ?_ | with_reducible refine r_isiStr ?_ | ((with_reducible refine' r_isiList ?h ?_); (case h => first | assumption | exact upd_same)) | ((with_reducible refine' r_isiTup ?h ?_); (case h => first | assumption | exact upd_same))
  | ((with_reducible refine' r_disp ?h ?_); (case h => exact Nat.le_of_ble_eq_true rfl))
  | ((with_reducible refine' r_at ?h ?l ?_); (case h => walk_at "sq"); (case l => assumption); (refine fun (H' : Hp) (s' : Same _ H') => ?_)) | with_reducible refine r_int ?_
  | ((with_reducible refine' r_sum ?h ?_); (case h => walk_at "sq"))
  | with_reducible refine r_inD ?_ | ((with_reducible refine' r_isiTT ?h ?_); (case h => walk_at "sq"))
  | ((with_reducible refine' r_tyL ?h ?_); (case h => walk_at "sq"))
  | ((with_reducible refine' r_ixL ?h ?e ?_); (case h => walk_at "sq"); (case e => walk_at "ix"))
  | ((with_reducible refine' r_ixT ?h ?e ?_); (case h => walk_at "sq"); (case e => exact rfl))
  | (refine fun (p : Addr) (hp : (_ : Hp) p = none) => ?_)
  | ((with_reducible refine' iteDF ?h ?_); (case h => omega)) | ((with_reducible refine' iteDT ?h ?_); (case h => omega)) | ((with_reducible refine' iteNDF ?h ?_); (case h => omega)) | ((with_reducible refine' iteNDT ?h ?_); (case h => omega))
  | ((with_reducible refine' iteDF ?h ?_); (case h => decide +kernel)) | ((with_reducible refine' iteDT ?h ?_); (case h => decide +kernel)) | ((with_reducible refine' iteNDF ?h ?_); (case h => exact rfl))))

section
variable {P : Program} {w : World} {K : PySem.W.Frag} {mg : Str → Option Value} {base : Heap} {cB c_CostError c_Full c_NoClaim c_RoundOver c_TooLate c_Twice c_TooMuch c_NoRow c_Needed : Addr}
theorem scPayRow : FnScope ["number", "day", "side", "person", "coins"] ["number", "day", "side", "person", "coins"] (defScope sPayRow) := ⟨rfl, rfl, rfl, by decide +kernel, rfl, by decide +kernel, by decide +kernel⟩
theorem ok_PayRow {f : Addr} {fd : FuncData} {dV : Value} (F : FunD K "pay_row" "pay_row" sPayRow f fd dV) (T : Txt K mg cB c_CostError c_Full c_NoClaim c_RoundOver c_TooLate c_Twice c_TooMuch c_NoRow c_Needed) : FnOk P w K mg base CX0 1 f fd ["number", "day", "side", "person", "coins"] (spPayRow) := by
  refine F.ok scPayRow (fun vs H Q E h => ?_) (fun cdv A outer s H vs Q E hr h => ?_)
  · obtain ⟨n, d, s1, p1, c, rfl, q⟩ := h
    rfl
  · obtain ⟨n, d, s1, p1, c, rfl, q⟩ := h
    refine ⟨_, (pss_one (ps_ret (pe_tup (pa_cons (pv 0) (pa_cons pe_str (pa_cons (pv 1) (pa_cons (pv 2) (pa_cons (pv 3) (pa_cons (pv 4) pa_nil))))))))), ?_⟩
    try dsimp only [cxOf]
    walk_at "rd"
    rename_i p hp
    exact q p _ (Same.new hp) hp upd_same

theorem scDunRow : FnScope ["number", "day", "side"] ["number", "day", "side"] (defScope sDunRow) := ⟨rfl, rfl, rfl, by decide +kernel, rfl, by decide +kernel, by decide +kernel⟩
theorem ok_DunRow {f : Addr} {fd : FuncData} {dV : Value} (F : FunD K "dun_row" "dun_row" sDunRow f fd dV) (T : Txt K mg cB c_CostError c_Full c_NoClaim c_RoundOver c_TooLate c_Twice c_TooMuch c_NoRow c_Needed) : FnOk P w K mg base CX0 1 f fd ["number", "day", "side"] (spDunRow) := by
  refine F.ok scDunRow (fun vs H Q E h => ?_) (fun cdv A outer s H vs Q E hr h => ?_)
  · obtain ⟨n, d, s1, rfl, q⟩ := h
    rfl
  · obtain ⟨n, d, s1, rfl, q⟩ := h
    refine ⟨_, (pss_one (ps_ret (pe_tup (pa_cons (pv 0) (pa_cons pe_str (pa_cons (pv 1) (pa_cons (pv 2) pa_nil))))))), ?_⟩
    try dsimp only [cxOf]
    walk_at "rd"
    rename_i p hp
    exact q p _ (Same.new hp) hp upd_same

theorem scRowText : FnScope ["row"] ["row"] (defScope sRowText) := ⟨rfl, rfl, rfl, by decide +kernel, rfl, by decide +kernel, by decide +kernel⟩
theorem ok_RowText {f : Addr} {fd : FuncData} {dV : Value} (F : FunD K "row_text" "row_text" sRowText f fd dV) (T : Txt K mg cB c_CostError c_Full c_NoClaim c_RoundOver c_TooLate c_Twice c_TooMuch c_NoRow c_Needed) : FnOk P w K mg base CX0 1 f fd ["row"] (spTextU) := by
  refine F.ok scRowText (fun vs H Q E h => ?_) (fun cdv A outer s H vs Q E hr h => ?_)
  · obtain ⟨p, r, rfl, hr1, hf, q⟩ := h
    rfl
  · obtain ⟨p, r, rfl, hr1, hf, q⟩ := h
    refine ⟨_, (pss_cons (ps_if (pt_cmpR op_eq (pe_ix (ix_tupK K rfl) (pv 0) (pe_globI (by rfl) T.c_WORD) (fun _ _ => rfl)) pe_str (nomark _)) (pss_one (ps_ret pe_never)) pss_nil)
      (pss_one (ps_ret (pe_bm PySem.F.plainAttrs_str PySem.F.slot_str_join PySem.F.type_str_join mt_join pe_str (pa_cons (pe_comp ["row"] (defScope sRowText) 1 [] ["value"] rfl (by decide +kernel) (pi_tup (pe_slice sl_tup (pv 0) (po_some (pe_globI (by rfl) T.c_WORD)) po_none)) (fun _ _ _ _ => (pg_name (i := 0) (show List.Nodup (["value"] : List Str) by decide +kernel) rfl (Or.inl rfl))) (fun _ _ _ _ => pts_nil) (fun _ _ _ _ => (pe_callTy (cb_strK K rfl (hu4 hr)) (by rfl) T.b_str PyProof.Rows.boot_str (pa_cons (pv 0) pa_nil))) (by decide +kernel) (by decide +kernel) (by decide +kernel)) pa_nil))))), ?_⟩
    try dsimp only [cxOf]
    cases r with
    | pay n d sd pp co =>
      obtain ⟨f1, f2, f3, f4⟩ := hf
      have h1 : H p = some (.tup [.int n, .str "pay", .int d, .int sd, .int pp, .int co]) := hr1
      walk_at "rd"
      refine r_ty (r_cons (r_comp (r_itup (r_sl (r_var rfl (r_part (r_c (r_exI (r_noPart ?_)))))))))
      refine r_slT (ys := [.str "pay", .int d, .int sd, .int pp, .int co]) (.of h1) (show ¬ (HT.sIx 6 0 (some 1) = 0 ∧ HT.sIx 6 6 none = 6) by decide) rfl fun t nt => ⟨t, rfl, ⟨_, .of upd_same⟩, fun D nD => ?_⟩
      have s1 := Same.new (o := .tup [.str "pay", .int d, .int sd, .int pp, .int co]) nt
      refine comp_tupF strV nD (.of upd_same) (by show 5 ≤ 1000; decide) ?_ ?_
      · intro x H' q' hx sm k
        simp only [List.mem_cons, List.not_mem_nil, or_false] at hx
        rcases hx with rfl | rfl | rfl | rfl | rfl
        · exact r_cb (r_cons (r_var rfl (r_nil (r_strS (k _ (Same.refl _))))))
        · exact r_cb (r_cons (r_var rfl (r_nil (r_strI f1.log (k _ (Same.refl _))))))
        · exact r_cb (r_cons (r_var rfl (r_nil (r_strI f2.log (k _ (Same.refl _))))))
        · exact r_cb (r_cons (r_var rfl (r_nil (r_strI f3.log (k _ (Same.refl _))))))
        · exact r_cb (r_cons (r_var rfl (r_nil (r_strI f4.log (k _ (Same.refl _))))))
      · intro H' sm hD
        refine r_nil (r_join (ts := [("pay" : Str), ts d, ts sd, ts pp, ts co]) (.of hD) (join_fit (fun y hy => ?_) (by show 5 ≤ 1000; decide)) (q _ (s1.trans sm)))
        simp only [List.mem_cons, List.not_mem_nil, or_false] at hy
        rcases hy with rfl | rfl | rfl | rfl | rfl
        · decide
        · exact ts_len f1
        · exact ts_len f2
        · exact ts_len f3
        · exact ts_len f4
    | dun n d sd =>
      obtain ⟨f1, f2⟩ := hf
      have h1 : H p = some (.tup [.int n, .str "dun", .int d, .int sd]) := hr1
      walk_at "rd"
      refine r_ty (r_cons (r_comp (r_itup (r_sl (r_var rfl (r_part (r_c (r_exI (r_noPart ?_)))))))))
      refine r_slT (ys := [.str "dun", .int d, .int sd]) (.of h1) (show ¬ (HT.sIx 4 0 (some 1) = 0 ∧ HT.sIx 4 4 none = 4) by decide) rfl fun t nt => ⟨t, rfl, ⟨_, .of upd_same⟩, fun D nD => ?_⟩
      have s1 := Same.new (o := .tup [.str "dun", .int d, .int sd]) nt
      refine comp_tupF strV nD (.of upd_same) (by show 3 ≤ 1000; decide) ?_ ?_
      · intro x H' q' hx sm k
        simp only [List.mem_cons, List.not_mem_nil, or_false] at hx
        rcases hx with rfl | rfl | rfl
        · exact r_cb (r_cons (r_var rfl (r_nil (r_strS (k _ (Same.refl _))))))
        · exact r_cb (r_cons (r_var rfl (r_nil (r_strI f1.log (k _ (Same.refl _))))))
        · exact r_cb (r_cons (r_var rfl (r_nil (r_strI f2.log (k _ (Same.refl _))))))
      · intro H' sm hD
        refine r_nil (r_join (ts := [("dun" : Str), ts d, ts sd]) (.of hD) (join_fit (fun y hy => ?_) (by show 3 ≤ 1000; decide)) (q _ (s1.trans sm)))
        simp only [List.mem_cons, List.not_mem_nil, or_false] at hy
        rcases hy with rfl | rfl | rfl
        · decide
        · exact ts_len f1
        · exact ts_len f2
    | _ => exact hf.elim

theorem scRoundsOf : FnScope ["rows", "rounds", "row"] ["rows"] (defScope sRoundsOf) := ⟨rfl, rfl, rfl, by decide +kernel, rfl, by decide +kernel, by decide +kernel⟩
theorem ok_RoundsOf {f : Addr} {fd : FuncData} {dV : Value} (F : FunD K "rounds_of" "rounds_of" sRoundsOf f fd dV) (T : Txt K mg cB c_CostError c_Full c_NoClaim c_RoundOver c_TooLate c_Twice c_TooMuch c_NoRow c_Needed) (GPutRow : Fn P w K mg base "put_row" 2 ["rounds", "row"] (spPut)) : FnOk P w K mg base CX0 3 f fd ["rows"] (spRounds K) := by
  refine F.ok scRoundsOf (fun vs H Q E h => ?_) (fun cdv A outer s H vs Q E hr h => ?_)
  · obtain ⟨a, ps, rows, rfl, hS, hR, hc, hn, q⟩ := h
    rfl
  · obtain ⟨a, ps, rows, rfl, hS, hR, hc, hn, q⟩ := h
    refine ⟨_, (pss_cons (ps_set (i := 1) scRoundsOf.nd rfl (Or.inl rfl) (pe_lst (pa_cons (pe_lst pa_nil) pa_nil)))
      (pss_cons (ps_for PassesOwn.never rfl (pi_list (pv 0)) (pg_name (i := 2) scRoundsOf.nd rfl (Or.inl rfl)) (pss_one (ps_expr (pe_fn GPutRow hr (by decide) (by rfl) (pa_cons (pv 1) (pa_cons (pv 2) pa_nil))))))
      (pss_one (ps_ret (pv 1))))), ?_⟩
    try dsimp only [cxOf]
    walk_at "rd"
    rename_i e ne p np
    have s0 : Same H (upd (upd H e (.lst [])) p (.lst [.ref e])) := (Same.new ne).trans (Same.new np)
    have np0 : H p = none := by
      cases z : H p with
      | none => rfl
      | some o => have := Same.new (o := .lst []) ne _ _ z; rw [np] at this; cases this
    have pe : p ≠ e := fun z => by rw [z, upd_same] at np; cases np
    refine ⟨_, rfl, ⟨_, s0.seq hS⟩, ?_⟩
    have lps := hR.1
    refine for_list (xs := List.map V.ref ps) (fun i σ H2 => (∃ v, σ = [some (.ref a), some (.ref p), v]) ∧ Same H H2 ∧ ∃ ls, RdsAt H2 p ls (roundsR (rows.take i)) ∧ ∀ l ∈ ls, H l = none) ?_ ?_ ?_ ?_
    · refine ⟨⟨_, rfl⟩, s0, [e], ⟨upd_same, rfl, by simp, by simpa using pe, fun i l r e1 e2 => ?_⟩, fun l hl => by rw [List.mem_singleton.mp hl]; exact ne⟩
      cases i with
      | zero => cases e1; cases e2; exact ⟨[], by rw [upd_ne (Ne.symm pe), upd_same]; rfl, TabIs.nil⟩
      | succ i => simp at e1
    · rintro i σ H2 hi ⟨_, s2, _⟩
      exact s2.seq hS
    · rintro i x σ H2 hx ⟨⟨v, rfl⟩, s2, ls, R, hl⟩
      rw [List.getElem?_map] at hx
      cases e1 : ps[i]? with
      | none => rw [e1] at hx; cases hx
      | some b =>
        rw [e1] at hx
        cases hx
        have hi : i < ps.length := (List.getElem?_eq_some_iff.mp e1).1
        have hir : i < rows.length := by omega
        have hb := (hR.2 i b rows[i] e1 (by simp [hir])).mono s2.tupS
        obtain ⟨g1, g2, g3⟩ := roundsR_take rows i (by omega)
        walk_at "rd"
        refine ⟨p, b, ls, _, rows[i], rfl, R, g1, fun x hx => by have := (g3 x hx).1; omega, by omega, fun x hx y hy => (g3 x hx).2 y hy, hb, hc.at i hir, fun ls' H3 R' kp nl => ?_⟩
        have s3 : Same H H3 := fun x o ex => kp x o (s2 x o ex) (fun z => by rw [z, np0] at ex; cases ex) (fun z => by rw [hl x z] at ex; cases ex)
        refine ⟨⟨_, rfl⟩, s3, ls', ?_, fun l hl' => ?_⟩
        · rw [List.take_succ_eq_append_getElem hir, roundsR_snoc]
          exact R'
        · rcases nl l hl' with z | z
          · exact hl l z
          · cases e2 : H l with
            | none => rfl
            | some o => have := s2 _ _ e2; rw [z] at this; cases this
    · rintro σ H2 ⟨⟨v, rfl⟩, s2, ls, R, hl⟩
      walk_at "rd"
      refine q p ls H2 s2 np0 ?_
      have e : rows.take (List.map V.ref ps).length = rows := by rw [List.length_map, lps, List.take_length]
      rw [e] at R
      exact R

theorem scPutRow : FnScope ["rounds", "row"] ["rounds", "row"] (defScope sPutRow) := ⟨rfl, rfl, rfl, by decide +kernel, rfl, by decide +kernel, by decide +kernel⟩
theorem ok_PutRow {f : Addr} {fd : FuncData} {dV : Value} (F : FunD K "put_row" "put_row" sPutRow f fd dV) (T : Txt K mg cB c_CostError c_Full c_NoClaim c_RoundOver c_TooLate c_Twice c_TooMuch c_NoRow c_Needed) (GFindClaim : Fn P w K mg base "find_claim" 1 ["claims", "number"] (spFind K)) : FnOk P w K mg base CX0 2 f fd ["rounds", "row"] (spPut) := by
  refine F.ok scPutRow (fun vs H Q E h => ?_) (fun cdv A outer s H vs Q E hr h => ?_)
  · obtain ⟨p, q1, ls, rs, r, rfl, R, ne, hz1, hz2, hz3, hr1, hc, q⟩ := h
    rfl
  · obtain ⟨p, q1, ls, rs, r, rfl, R, ne, hz1, hz2, hz3, hr1, hc, q⟩ := h
    refine ⟨_, (pss_one (ps_if (pt_cmpR op_eq (pe_ix (ix_tupK K rfl) (pv 1) (pe_globI (by rfl) T.c_WORD) (fun _ _ => rfl)) pe_str (nomark _)) (pss_one (ps_expr (pe_bm PySem.F.plainAttrs_list PySem.F.slot_list_append PySem.F.type_list_append mt_append (pe_ix (ix_listK K rfl) (pv 0) pe_int (fun _ _ => rfl)) (pa_cons (pe_slice sl_tup (pv 1) (po_some (pe_globI (by rfl) T.c_CLAIM)) po_none) pa_nil)))) (pss_one (ps_if (pt_cmpR op_eq (pe_ix (ix_tupK K rfl) (pv 1) (pe_globI (by rfl) T.c_WORD) (fun _ _ => rfl)) pe_str (nomark _)) (pss_one (ps_expr (pe_bm PySem.F.plainAttrs_list PySem.F.slot_list_append PySem.F.type_list_append mt_append (pe_ix (ix_listK K rfl) (pv 0) (pe_un un_neg pe_int) (fun _ _ => rfl)) (pa_cons (pe_fn GFindClaim hr (by decide) (by rfl) (pa_cons (pe_ix (ix_listK K rfl) (pv 0) (pe_un un_neg pe_int) (fun _ _ => rfl)) (pa_cons (pe_ix (ix_tupK K rfl) (pv 1) (pe_globI (by rfl) T.c_CLAIM) (fun _ _ => rfl)) pa_nil))) pa_nil)))) (pss_one (ps_if (pt_cmpR op_eq (pe_ix (ix_tupK K rfl) (pv 1) (pe_globI (by rfl) T.c_WORD) (fun _ _ => rfl)) pe_str (nomark _)) (pss_one (ps_expr (pe_bm PySem.F.plainAttrs_list PySem.F.slot_list_append PySem.F.type_list_append mt_append (pv 0) (pa_cons (pe_lst pa_nil) pa_nil)))) pss_nil)))))), ?_⟩
    try dsimp only [cxOf]
    have hL := R.at_
    have l0 : 0 < ls.length := by
      have := R.len
      cases rs with
      | nil => exact absurd rfl ne
      | cons x y => simp only [List.length_cons] at this; omega
    have zz : ∀ {n : Nat}, n ≤ 500 → n < sizeLine := fun h => small1000 (by omega)
    cases r with
    | claim n d c a b w =>
      have h1 : H q1 = some (.tup [.int n, .str "claim", .int d, .int c, .int a, .int b, .int w]) := hr1
      walk_at "rd"
      obtain ⟨l, lt, rfl⟩ : ∃ l lt, ls = l :: lt := by
        cases ls with
        | nil => exact absurd l0 (by simp)
        | cons l lt => exact ⟨l, lt, rfl⟩
      obtain ⟨r0, rt, rfl⟩ : ∃ r0 rt, rs = r0 :: rt := by
        cases rs with
        | nil => exact absurd rfl ne
        | cons l lt => exact ⟨l, lt, rfl⟩
      obtain ⟨cs, c1, c2⟩ := R.ro 0 l r0 rfl rfl
      have c1' : H ((l :: lt).getD (Int.toNat 0) 0) = some (.lst (cs.map V.ref)) := c1
      refine r_tyL (.of c1') (r_cons (r_sl (r_var rfl (r_part (r_c (r_exI (r_noPart ?_)))))))
      refine r_slT (ys := [.int c, .int a, .int b, .int w]) (.of h1) (show ¬ (HT.sIx 7 0 (some 3) = 0 ∧ HT.sIx 7 7 none = 7) by decide) rfl fun t nt => r_nil ?_
      have s1 : Same H (upd H t (.tup [.int c, .int a, .int b, .int w])) := Same.new nt
      refine r_app (l := l) (xs := cs.map V.ref) (s1 _ _ c1) (zz (by rw [List.length_map, c2.1]; exact hz1 _ List.mem_cons_self)) ?_
      refine q (l :: lt) _ ((R.same s1).push (i := 0) (x := [c, a, b, w]) rfl rfl (s1 _ _ c1) (c2.same s1) upd_same) (fun x o e x1 x2 => ?_) (fun m hm => .inl hm)
      rw [upd_ne (fun z => x2 (by rw [z]; exact List.mem_cons_self)), upd_ne (ne_of_none e nt)]
      exact e
    | carry n d c =>
      have h1 : H q1 = some (.tup [.int n, .str "carry", .int d, .int c]) := hr1
      obtain ⟨hc2, hca⟩ := hc
      have len := R.len
      have i1 : ls.length - 1 < ls.length := by omega
      have i2 : ls.length - 2 < ls.length := by omega
      have j1 : rs.length - 1 < rs.length := by omega
      have j2 : rs.length - 2 < rs.length := by omega
      obtain ⟨ca, a1, a2⟩ := R.ro (ls.length - 1) ls[ls.length - 1] rs[rs.length - 1] (by simp [i1]) (by rw [len]; simp [j1])
      obtain ⟨cb, b1, b2⟩ := R.ro (ls.length - 2) ls[ls.length - 2] rs[rs.length - 2] (by simp [i2]) (by rw [len]; simp [j2])
      have e1 : ls.getD (ls.length - 1) 0 = ls[ls.length - 1] := by simp [List.getD, i1]
      have e2 : ls.getD (ls.length - 2) 0 = ls[ls.length - 2] := by simp [List.getD, i2]
      have f1 : rs.getD (rs.length - 1) [] = rs[rs.length - 1] := by simp [List.getD, j1]
      have f2 : rs.getD (rs.length - 2) [] = rs[rs.length - 2] := by simp [List.getD, j2]
      have ne' : ls ≠ [] := fun z => by rw [z] at i1; cases i1
      walk_at "rd"
      refine r_ixL (.of hL) (atI_refs_last ne') ?_
      rw [e1]
      refine r_tyL (.of a1) (r_cons (r_callX (r_cons (r_op (r_var rfl ?_)))))
      refine r_un (r_c (r_U ?_))
      refine r_ixL (.of hL) (atI_refs_m2 (by omega)) ?_
      rw [e2]
      walk_at "rd"
      refine ⟨_, cb, _, c, rfl, .of b1, b2, fun x hx => hz3 _ (List.getElem_mem j2) x hx, fun v hv => ?_⟩
      rw [f2] at hca
      obtain ⟨x, bb, ex, rfl, hb⟩ := hv.found hca
      refine r_nil (r_app (l := ls[ls.length - 1]) (xs := ca.map V.ref) a1 (zz (by rw [List.length_map, a2.1]; exact hz1 _ (List.getElem_mem j1))) ?_)
      have ep : putR rs (.carry n d c) = rs.set (ls.length - 1) (rs[rs.length - 1] ++ [x]) := by
        unfold putR
        dsimp only
        rw [f2, ex, f1, len]
      refine q ls _ ?_ (fun y o e x1 x2 => ?_) (fun m hm => .inl hm)
      · rw [ep]
        exact R.push (i := ls.length - 1) (by simp [i1]) (by rw [len]; simp [j1]) a1 a2 hb
      · rw [upd_ne (fun z => x2 (by rw [z]; exact List.getElem_mem i1))]
        exact e
    | rule n d t bk ws =>
      obtain ⟨q2, h1, h2⟩ := hr1
      walk_at "rd"
      rename_i e ne1
      refine r_app (xs := List.map V.ref ls) (Same.new ne1 _ _ hL) (zz (by rw [List.length_map, R.len]; exact hz2)) ?_
      refine q (ls ++ [e]) _ (R.add ne1) (fun x o e1 x1 x2 => ?_) (fun m hm => ?_)
      · rw [upd_ne x1, upd_ne (ne_of_none e1 ne1)]
        exact e1
      · rcases List.mem_append.mp hm with z | z
        · exact .inl z
        · rw [List.mem_singleton.mp z]
          exact .inr ne1
    | step n d t sd k m l =>
      have h1 : H q1 = some (.tup [.int n, .str "step", .int d, .int t, .int sd, .str k, .int m, .str l]) := hr1
      walk_at "rd"
      exact q ls H R (fun x o e _ _ => e) (fun m hm => .inl hm)
    | offer n d t c a =>
      have h1 : H q1 = some (.tup [.int n, .str "offer", .int d, .int t, .int c, .int a]) := hr1
      walk_at "rd"
      exact q ls H R (fun x o e _ _ => e) (fun m hm => .inl hm)
    | pay n d sd pp co =>
      have h1 : H q1 = some (.tup [.int n, .str "pay", .int d, .int sd, .int pp, .int co]) := hr1
      walk_at "rd"
      exact q ls H R (fun x o e _ _ => e) (fun m hm => .inl hm)
    | dun n d sd =>
      have h1 : H q1 = some (.tup [.int n, .str "dun", .int d, .int sd]) := hr1
      walk_at "rd"
      exact q ls H R (fun x o e _ _ => e) (fun m hm => .inl hm)

theorem scOverOf : FnScope ["rounds"] ["rounds"] (defScope sOverOf) := ⟨rfl, rfl, rfl, by decide +kernel, rfl, by decide +kernel, by decide +kernel⟩
theorem ok_OverOf {f : Addr} {fd : FuncData} {dV : Value} (F : FunD K "over_of" "over_of" sOverOf f fd dV) (T : Txt K mg cB c_CostError c_Full c_NoClaim c_RoundOver c_TooLate c_Twice c_TooMuch c_NoRow c_Needed) : FnOk P w K mg base CX0 1 f fd ["rounds"] (spOver K) := by
  refine F.ok scOverOf (fun vs H Q E h => ?_) (fun cdv A outer s H vs Q E hr h => ?_)
  · obtain ⟨p, xs, rfl, h, q⟩ := h
    rfl
  · obtain ⟨p, xs, rfl, h, q⟩ := h
    refine ⟨_, (pss_one (ps_ret (pe_op op_sub (pe_callB (cb_lenK K rfl) (by rfl) T.b_len PySem.boot_len (pa_cons (pv 0) pa_nil)) pe_int))), ?_⟩
    try dsimp only [cxOf]
    walk_at "rd"
    exact q

theorem scClaimsOf : FnScope ["rounds", "turn"] ["rounds", "turn"] (defScope sClaimsOf) := ⟨rfl, rfl, rfl, by decide +kernel, rfl, by decide +kernel, by decide +kernel⟩
theorem ok_ClaimsOf {f : Addr} {fd : FuncData} {dV : Value} (F : FunD K "claims_of" "claims_of" sClaimsOf f fd dV) (T : Txt K mg cB c_CostError c_Full c_NoClaim c_RoundOver c_TooLate c_Twice c_TooMuch c_NoRow c_Needed) : FnOk P w K mg base CX0 1 f fd ["rounds", "turn"] (spClaims) := by
  refine F.ok scClaimsOf (fun vs H Q E h => ?_) (fun cdv A outer s H vs Q E hr h => ?_)
  · obtain ⟨p, ls, rs, t, rfl, R, q⟩ := h
    rfl
  · obtain ⟨p, ls, rs, t, rfl, R, q⟩ := h
    refine ⟨_, (pss_cons (ps_if (pt_chain op_le op_lt pe_int (pv 1) (pe_callB (cb_lenK K rfl) (by rfl) T.b_len PySem.boot_len (pa_cons (pv 0) pa_nil))) (pss_one (ps_ret (pe_callTy cb_list (by rfl) T.b_list PyProof.Rows.boot_list (pa_cons (pe_ix (ix_listK K rfl) (pv 0) (pv 1) (fun _ _ => rfl)) pa_nil)))) pss_nil)
      (pss_one (ps_ret (pe_lst pa_nil)))), ?_⟩
    try dsimp only [cxOf]
    have hL := R.at_
    have ll : ((List.map V.ref ls).length : Int) = (rs.length : Int) := by rw [List.length_map, R.len]
    walk_at "rd"
    refine r_chain ?_
    walk_at "rd"
    refine ite2 (fun z => ?_) (fun z => ?_)
    · have z : 0 ≤ t := by simpa using z
      walk_at "rd"
      rw [ll]
      refine ite2 (fun z2 => ?_) (fun z2 => ?_)
      · have z2 : t < (rs.length : Int) := by simpa using z2
        have hi : t.toNat < ls.length := by have := R.len; omega
        have hir : t.toNat < rs.length := by omega
        obtain ⟨cs, h1, h2⟩ := R.ro t.toNat ls[t.toNat] rs[t.toNat] (by simp [hi]) (by simp [hir])
        have ec : claimsR rs t = rs[t.toNat] := by
          unfold claimsR
          rw [if_pos ⟨z, z2⟩]
          simp [List.getD, hir]
        have ea : atI (List.map V.ref ls) t = some (V.ref ls[t.toNat]) := by
          rw [atI_refs z (by have := R.len; omega)]
          simp [List.getD, hi]
        refine r_ret (r_cb (r_cons (r_op (r_var rfl (r_var rfl (r_ixL (.of hL) ea (r_nil ?_)))))))
        refine r_list (.of h1) fun l hl => ?_
        exact q l cs hl (by rw [ec]; exact h2)
      · have z2 : ¬ t < (rs.length : Int) := by simpa using z2
        have ec : claimsR rs t = [] := by
          unfold claimsR
          rw [if_neg (fun z => z2 z.2)]
        walk_at "rd"
        rename_i l hl
        exact q l [] hl (by rw [ec]; exact TabIs.nil)
    · have z : ¬ 0 ≤ t := by simpa using z
      have ec : claimsR rs t = [] := by
        unfold claimsR
        rw [if_neg (fun y => z y.1)]
      walk_at "rd"
      rename_i l hl
      exact q l [] hl (by rw [ec]; exact TabIs.nil)

theorem scFindClaim : FnScope ["claims", "number", "claim"] ["claims", "number"] (defScope sFindClaim) := ⟨rfl, rfl, rfl, by decide +kernel, rfl, by decide +kernel, by decide +kernel⟩
theorem ok_FindClaim {f : Addr} {fd : FuncData} {dV : Value} (F : FunD K "find_claim" "find_claim" sFindClaim f fd dV) (T : Txt K mg cB c_CostError c_Full c_NoClaim c_RoundOver c_TooLate c_Twice c_TooMuch c_NoRow c_Needed) : FnOk P w K mg base CX0 1 f fd ["claims", "number"] (spFind K) := by
  refine F.ok scFindClaim (fun vs H Q E h => ?_) (fun cdv A outer s H vs Q E hr h => ?_)
  · obtain ⟨a, cs, r, c, rfl, hS, hT, h4, q⟩ := h
    rfl
  · obtain ⟨a, cs, r, c, rfl, hS, hT, h4, q⟩ := h
    refine ⟨_, (pss_cons (ps_for PassesOwn.never rfl (pi_list (pv 0)) (pg_name (i := 2) scFindClaim.nd rfl (Or.inl rfl)) (pss_one (ps_if (pt_cmpR op_eq (pe_ix (ix_tupK K rfl) (pv 2) pe_int (fun _ _ => rfl)) (pv 1) (nomark _)) (pss_one (ps_ret (pv 2))) pss_nil)))
      (pss_one (ps_ret pe_non))), ?_⟩
    try dsimp only [cxOf]
    walk_at "rd"
    refine ⟨_, rfl, ⟨_, hS⟩, ?_⟩
    have lr := hT.1
    refine for_list (xs := List.map V.ref cs) (fun i σ H2 => H2 = H ∧ (∃ v, σ = [some (.ref a), some (.int c), v]) ∧ ∀ j, j < i → ((r.getD j []).getD 0 0 == c) = false) ⟨rfl, ⟨_, rfl⟩, fun j hj => absurd hj (Nat.not_lt_zero j)⟩ ?_ ?_ ?_
    · rintro i σ H2 hi ⟨rfl, _⟩
      exact hS
    · rintro i x σ H2 hx ⟨rfl, ⟨v, rfl⟩, hn⟩
      rw [List.getElem?_map] at hx
      cases e : cs[i]? with
      | none => rw [e] at hx; cases hx
      | some b =>
        rw [e] at hx
        cases hx
        have hi : i < cs.length := (List.getElem?_eq_some_iff.mp e).1
        have hir : i < r.length := by omega
        have hr : r[i]? = some r[i] := by simp [hir]
        have hb := hT.2 i b _ e hr
        obtain ⟨x0, x1, x2, x3, e4⟩ : ∃ x0 x1 x2 x3, r[i] = [x0, x1, x2, x3] := by
          have := h4 _ (List.getElem_mem hir)
          match hh : r[i], this with
          | [x0, x1, x2, x3], _ => exact ⟨x0, x1, x2, x3, rfl⟩
        have e5 : (r.getD i []) = [x0, x1, x2, x3] := by rw [← e4]; simp [List.getD, hir]
        rw [e4] at hb
        walk_at "rd"
        refine ite2 (fun z => ?_) (fun z => ?_)
        · have z : x0 = c := by simpa using z
          walk_at "rd"
          refine q _ ?_
          have ef : r.find? (fun x => x.getD 0 0 == c) = some r[i] := by
            rw [List.find?_eq_some_iff_getElem]
            refine ⟨by rw [e4]; simp [z], i, hir, rfl, fun j hj => ?_⟩
            have := hn j hj
            have hjr : j < r.length := by omega
            have e6 : r.getD j [] = r[j] := by simp [List.getD, hjr]
            rw [e6] at this
            rw [this]
            rfl
          unfold Hit
          rw [ef]
          exact ⟨b, rfl, by rw [e4]; exact hb⟩
        · have z : ¬ x0 = c := by simpa using z
          walk_at "rd"
          refine ⟨rfl, ⟨_, rfl⟩, fun j hj => ?_⟩
          by_cases hji : j = i
          · subst hji
            rw [e5]
            simp [z]
          · exact hn j (by omega)
    · rintro σ H2 ⟨rfl, ⟨v, rfl⟩, hn⟩
      walk_at "rd"
      refine q _ ?_
      have ef : r.find? (fun x => x.getD 0 0 == c) = none := by
        rw [List.find?_eq_none]
        intro x hx
        obtain ⟨j, hj, e⟩ := List.getElem_of_mem hx
        have := hn j (by rw [List.length_map]; omega)
        have e6 : r.getD j [] = r[j] := by simp [List.getD, hj]
        rw [e6, e] at this
        rw [this]
        exact Bool.false_ne_true
      unfold Hit
      rw [ef]

theorem scCheckRow : FnScope ["rows", "written", "row"] ["rows", "written", "row"] (defScope sCheckRow) := ⟨rfl, rfl, rfl, by decide +kernel, rfl, by decide +kernel, by decide +kernel⟩
theorem ok_CheckRow {f : Addr} {fd : FuncData} {dV : Value} (F : FunD K "check_row" "check_row" sCheckRow f fd dV) (T : Txt K mg cB c_CostError c_Full c_NoClaim c_RoundOver c_TooLate c_Twice c_TooMuch c_NoRow c_Needed) (GCheckNext : FnX P w K mg base "check_next" 4 ["rounds", "last", "written", "row"] (spNext [c_Full, c_NoClaim, c_RoundOver, c_TooLate, c_Twice, c_TooMuch, c_NoRow])) (GRoundsOf : Fn P w K mg base "rounds_of" 3 ["rows"] (spRounds K)) : FnOk P w K mg base (CX1 P w) 5 f fd ["rows", "written", "row"] (spCheck K [c_Full, c_NoClaim, c_RoundOver, c_TooLate, c_Twice, c_TooMuch, c_NoRow]) := by
  refine F.okX scCheckRow (fun vs H Q E h => ?_) (fun cdv A outer s H vs Q E hr h => ?_)
  · obtain ⟨a, wn, q1, ps, rows, r, rfl, hS, hR, hcs, hn, hr1, q, qe⟩ := h
    rfl
  · obtain ⟨a, wn, q1, ps, rows, r, rfl, hS, hR, hcs, hn, hr1, q, qe⟩ := h
    refine ⟨_, (pss_one (ps_expr (pe_fnX GCheckNext hr (by decide) passX (by rfl) (pa_cons (pe_fn GRoundsOf hr (by decide) (by rfl) (pa_cons (pv 0) pa_nil)) (pa_cons (pe_ifExp (pt_cmpR (op_neL hr.units0) (pv 0) (pe_lst pa_nil) (nomark _)) (pe_ix (ix_listK K rfl) (pv 0) (pe_un un_neg pe_int) (fun _ _ => rfl)) pe_non) (pa_cons (pv 1) (pa_cons (pv 2) pa_nil))))))), ?_⟩
    try dsimp only [cxOf]
    walk_at "rd"
    refine ⟨a, ps, rows, rfl, hS, hR, hcs, hn, fun p ls H1 s1 np R => ?_⟩
    obtain ⟨g1, g2, g3⟩ := roundsR_ok rows
    have f4 : F4 (roundsR rows) := fun x hx y hy => (g3 x hx).2 y hy
    walk_at "rd"
    rename_i p2 np2
    have s2 := s1.trans (Same.new (o := .lst []) np2)
    have R2 := R.same (Same.new (o := .lst []) np2)
    refine rNeL_nl (xs := List.map V.ref ps) (s2.seq hS) (.of upd_same) ⟨_, rfl, ?_⟩
    have lps := hR.1
    by_cases e : ps = []
    · have er : rows = [] := by rw [e] at lps; exact List.length_eq_zero_iff.mp lps.symm
      refine iteN (by simp [e]) ?_
      walk_at "rd"
      refine ⟨p, .non, wn, q1, ls, roundsR rows, lastR rows, r, rfl, R2, g1, f4, .inl ⟨rfl, by rw [er]; rfl⟩, hr1.mono s2.tupS, fun e1 H' s' => q e1 _ (s2.trans s'), fun k e1 t H' s' ht => qe k e1 t _ (s2.trans s') ht⟩
    · have er : rows ≠ [] := fun z => e (by rw [z] at lps; exact List.length_eq_zero_iff.mp lps)
      refine iteP (by simpa using e) ?_
      refine r_op (r_var rfl ?_)
      refine r_un (r_c (r_U ?_))
      refine r_ixL (s2.seq hS) (atI_refs_last e) ?_
      have n0 : 0 < rows.length := List.length_pos_iff.mpr er
      have n1 : ps.length - 1 < ps.length := by omega
      have n2 : ps.length - 1 < rows.length := by omega
      have hb := (hR.2 (ps.length - 1) ps[ps.length - 1] rows[ps.length - 1] (by simp [n1]) (by simp [n2])).mono s2.tupS
      have eb : ps.getD (ps.length - 1) 0 = ps[ps.length - 1] := by simp [List.getD, n1]
      rw [eb]
      walk_at "rd"
      refine ⟨p, _, wn, q1, ls, roundsR rows, lastR rows, r, rfl, R2, g1, f4, .inr ⟨_, _, rfl, hb, ?_⟩, hr1.mono s2.tupS, fun e1 H' s' => q e1 _ (s2.trans s'), fun k e1 t H' s' ht => qe k e1 t _ (s2.trans s') ht⟩
      unfold lastR
      rw [List.getLast?_eq_getElem?]
      have : rows.length - 1 = ps.length - 1 := by omega
      rw [this]
      simp [n2]

theorem scCheckAnew : FnScope ["rows", "rounds", "last", "written", "row"] ["rows"] (defScope sCheckAnew) := ⟨rfl, rfl, rfl, by decide +kernel, rfl, by decide +kernel, by decide +kernel⟩
theorem ok_CheckAnew {f : Addr} {fd : FuncData} {dV : Value} (F : FunD K "check_anew" "check_anew" sCheckAnew f fd dV) (T : Txt K mg cB c_CostError c_Full c_NoClaim c_RoundOver c_TooLate c_Twice c_TooMuch c_NoRow c_Needed) (GCheckNext : FnX P w K mg base "check_next" 4 ["rounds", "last", "written", "row"] (spNext [c_Full, c_NoClaim, c_RoundOver, c_TooLate, c_Twice, c_TooMuch, c_NoRow])) (GPutRow : Fn P w K mg base "put_row" 2 ["rounds", "row"] (spPut)) : FnOk P w K mg base CX0 5 f fd ["rows"] (spAnew K) := by
  refine F.ok scCheckAnew (fun vs H Q E h => ?_) (fun cdv A outer s H vs Q E hr h => ?_)
  · obtain ⟨a, ps, rows, rfl, hS, hR, hA, hn, q⟩ := h
    rfl
  · obtain ⟨a, ps, rows, rfl, hS, hR, hA, hn, q⟩ := h
    refine ⟨_, (pss_cons (ps_set (i := 1) scCheckAnew.nd rfl (Or.inl rfl) (pe_lst (pa_cons (pe_lst pa_nil) pa_nil)))
      (pss_cons (ps_set (i := 2) scCheckAnew.nd rfl (Or.inl rfl) pe_non)
      (pss_one (ps_for PassesOwn.never rfl (pi_enum (by rfl) T.b_enumerate (pa_cons (pv 0) pa_nil)) (pg_tup rfl (pgs_cons (pg_name (i := 3) scCheckAnew.nd rfl (Or.inl rfl)) (pgs_cons (pg_name (i := 4) scCheckAnew.nd rfl (Or.inl rfl)) pgs_nil))) (pss_cons (ps_expr (pe_fnX GCheckNext hr (by decide) passN (by rfl) (pa_cons (pv 1) (pa_cons (pv 2) (pa_cons (pv 3) (pa_cons (pv 4) pa_nil))))))
      (pss_cons (ps_expr (pe_fn GPutRow hr (by decide) (by rfl) (pa_cons (pv 1) (pa_cons (pv 4) pa_nil))))
      (pss_one (ps_set (i := 2) scCheckAnew.nd rfl (Or.inl rfl) (pv 4))))))))), ?_⟩
    try dsimp only [cxOf]
    walk_at "rd"
    rename_i e ne p np
    have s0 : Same H (upd (upd H e (.lst [])) p (.lst [.ref e])) := (Same.new ne).trans (Same.new np)
    have np0 : H p = none := (Same.new (o := .lst []) ne).nil np
    have pe : p ≠ e := fun z => by rw [z, upd_same] at np; cases np
    refine ⟨_, rfl, ⟨_, s0.seq hS⟩, ?_⟩
    have lps := hR.1
    refine for_enum (xs := List.map V.ref ps) (fun i σ H2 => (∃ lv v w, σ = [some (.ref a), some (.ref p), some lv, v, w] ∧ LastAt H2 lv (lastR (rows.take i))) ∧ Same H H2 ∧ ∃ ls, RdsAt H2 p ls (roundsR (rows.take i)) ∧ ∀ l ∈ ls, H l = none) ?_ ?_ ?_ ?_
    · refine ⟨⟨.non, _, _, rfl, .inl ⟨rfl, rfl⟩⟩, s0, [e], ⟨upd_same, rfl, by simp, by simpa using pe, fun i l r e1 e2 => ?_⟩, fun l hl => by rw [List.mem_singleton.mp hl]; exact ne⟩
      cases i with
      | zero => cases e1; cases e2; exact ⟨[], by rw [upd_ne (Ne.symm pe), upd_same]; rfl, TabIs.nil⟩
      | succ i => simp at e1
    · rintro i σ H2 hi ⟨_, s2, _⟩
      exact s2.seq hS
    · rintro i x TT σ H2 hx nT ⟨⟨lv, v, w, rfl, hl1⟩, s2, ls, R, hl⟩
      rw [List.getElem?_map] at hx
      obtain ⟨b, e1, rfl⟩ := Option.map_eq_some_iff.mp hx
      have hi : i < ps.length := (List.getElem?_eq_some_iff.mp e1).1
      have hir : i < rows.length := by omega
      have hb0 := hR.2 i b rows[i] e1 (by simp [hir])
      have hb := hb0.mono s2.tupS
      obtain ⟨g1, g2, g3⟩ := roundsR_take rows i (by omega)
      have hno := hA i hir
      have sT := Same.new (o := .tup [V.int (i : Nat), V.ref b]) nT
      refine r_gtup (SqT.of upd_same) rfl (r_gcons (r_name (r_gcons (r_name (r_gnil ?_)))))
      dsimp only
      refine r_seq (r_drop (r_callX (r_cons (r_var rfl (r_cons (r_var rfl (r_cons (r_var rfl (r_cons (r_var rfl (r_nil ?_)))))))))))
      refine ⟨p, lv, _, b, ls, _, _, rows[i], rfl, R.same sT, g1, fun x hx y hy => (g3 x hx).2 y hy, hl1.mono sT.tupS, hb.mono sT.tupS, fun _ H3 s3 => ?_, fun k ek => by rw [hno] at ek; cases ek⟩
      have sT3 := sT.trans s3
      have s23 := s2.trans sT3
      refine r_seq (r_drop (r_callX (r_cons (r_var rfl (r_cons (r_var rfl (r_nil ?_)))))))
      refine ⟨p, b, ls, _, rows[i], rfl, R.same sT3, g1, fun x hx => by have := (g3 x hx).1; omega, by omega, fun x hx y hy => (g3 x hx).2 y hy, hb.mono sT3.tupS, okPut_of hno, fun ls' H4 R' kp nl => ?_⟩
      have s4 : Same H H4 := fun x o ex => kp x o (s23 x o ex) (fun z => by rw [z, np0] at ex; cases ex) (fun z => by rw [hl x z] at ex; cases ex)
      refine r_asg (r_var rfl (r_name ?_))
      refine ⟨⟨.ref b, _, _, rfl, .inr ⟨b, rows[i], rfl, hb0.mono s4.tupS, lastR_take hir⟩⟩, s4, ls', ?_, fun l hl' => ?_⟩
      · rw [List.take_succ_eq_append_getElem hir, roundsR_snoc]
        exact R'
      · rcases nl l hl' with z | z
        · exact hl l z
        · exact s23.nil z
    · rintro σ H2 ⟨⟨lv, v, w, rfl, _⟩, s2, ls, R, hl⟩
      exact q _ s2

theorem scCheckNext : FnScope ["rounds", "last", "written", "row"] ["rounds", "last", "written", "row"] (defScope sCheckNext) := ⟨rfl, rfl, rfl, by decide +kernel, rfl, by decide +kernel, by decide +kernel⟩
theorem ok_CheckNext {f : Addr} {fd : FuncData} {dV : Value} (F : FunD K "check_next" "check_next" sCheckNext f fd dV) (T : Txt K mg cB c_CostError c_Full c_NoClaim c_RoundOver c_TooLate c_Twice c_TooMuch c_NoRow c_Needed) (GComesTwice : Fn P w K mg base "comes_twice" 2 ["rounds", "row"] (spTwice)) (GLacksClaim : Fn P w K mg base "lacks_claim" 2 ["rounds", "row"] (spLacks)) (GMeetsOver : Fn P w K mg base "meets_over" 2 ["rounds", "row"] (spMeets)) (GNamesTooMuch : Fn P w K mg base "names_too_much" 3 ["rounds", "row"] (spMuch)) : FnOk P w K mg base (CX1 P w) 4 f fd ["rounds", "last", "written", "row"] (spNext [c_Full, c_NoClaim, c_RoundOver, c_TooLate, c_Twice, c_TooMuch, c_NoRow]) := by
  refine F.okX scCheckNext (fun vs H Q E h => ?_) (fun cdv A outer s H vs Q E hr h => ?_)
  · obtain ⟨p, lv, wn, q1, ls, rs, last, r, rfl, R, ne, f4, hl, hr1, q, qe⟩ := h
    rfl
  · obtain ⟨p, lv, wn, q1, ls, rs, last, r, rfl, R, ne, f4, hl, hr1, q, qe⟩ := h
    refine ⟨_, (pss_cons (ps_if (pt_cmpR op_ge (pv 2) (pe_globI (by rfl) T.c_MOST_ROWS) (nomark _)) (pss_one (ps_raise raiseX hr.hd (by rfl) T.y_Full T.x_Full (pa_cons pe_str pa_nil))) pss_nil)
      (pss_cons (ps_if (pt_val (pe_fn GLacksClaim hr (by decide) (by rfl) (pa_cons (pv 0) (pa_cons (pv 3) pa_nil)))) (pss_one (ps_raise raiseX hr.hd (by rfl) T.y_NoClaim T.x_NoClaim (pa_cons pe_str pa_nil))) pss_nil)
      (pss_cons (ps_if (pt_val (pe_fn GMeetsOver hr (by decide) (by rfl) (pa_cons (pv 0) (pa_cons (pv 3) pa_nil)))) (pss_one (ps_raise raiseX hr.hd (by rfl) T.y_RoundOver T.x_RoundOver (pa_cons pe_str pa_nil))) pss_nil)
      (pss_cons (ps_if (PW.pt (pw_and (pt_cmpR op_notN (pv 1) pe_non (nomark _)) (pw_and1 (pt_cmpR op_lt (pe_ix (ix_tupK K rfl) (pv 3) (pe_globI (by rfl) T.c_DAY) (fun _ _ => rfl)) (pe_ix (ix_tupK K rfl) (pv 1) (pe_globI (by rfl) T.c_DAY) (fun _ _ => rfl)) (nomark _))))) (pss_one (ps_raise raiseX hr.hd (by rfl) T.y_TooLate T.x_TooLate (pa_cons pe_str pa_nil))) pss_nil)
      (pss_cons (ps_if (pt_val (pe_fn GComesTwice hr (by decide) (by rfl) (pa_cons (pv 0) (pa_cons (pv 3) pa_nil)))) (pss_one (ps_raise raiseX hr.hd (by rfl) T.y_Twice T.x_Twice (pa_cons pe_str pa_nil))) pss_nil)
      (pss_one (ps_if (pt_val (pe_fn GNamesTooMuch hr (by decide) (by rfl) (pa_cons (pv 0) (pa_cons (pv 3) pa_nil)))) (pss_one (ps_raise raiseX hr.hd (by rfl) T.y_TooMuch T.x_TooMuch (pa_cons pe_str pa_nil))) pss_nil))))))), ?_⟩
    try dsimp only [cxOf]
    have raise : ∀ {k : Nat} {H1 : Hp} {t : Addr}, refuseR rs last wn r = some k → Same H H1 → H1 t = none → E (.ref (([c_Full, c_NoClaim, c_RoundOver, c_TooLate, c_Twice, c_TooMuch, c_NoRow] : List Addr).getD k 0)) (some t) (upd H1 t (.tup [.str (msgR k)])) := fun e s1 nt => qe _ e _ _ (s1.trans (Same.new nt)) upd_same
    walk_at "rd"
    refine ite2 (fun z => ?_) (fun z => ?_)
    · have z : 300 ≤ wn := by simpa using z
      refine r_raise (r_cons (r_c (r_nil ⟨by show 1 ≤ sizeLine; decide, fun t nt => ?_⟩)))
      exact raise (k := 0) (by unfold refuseR; rw [if_pos z]) (Same.refl H) nt
    have z0 : ¬ 300 ≤ wn := by simpa using z
    walk_at "rd"
    refine ⟨p, q1, ls, rs, r, rfl, R, f4, hr1, fun H1 s1 => ⟨_, rfl, ?_⟩⟩
    refine ite2 (fun z => ?_) (fun z1 => ?_)
    · refine r_raise (r_cons (r_c (r_nil ⟨by show 1 ≤ sizeLine; decide, fun t nt => ?_⟩)))
      exact raise (k := 1) (by unfold refuseR; rw [if_neg z0, if_pos z]) s1 nt
    walk_at "rd"
    refine ⟨p, q1, ls, rs, r, rfl, R.same s1, hr1.mono s1.tupS, fun H2 s2' => ⟨_, rfl, ?_⟩⟩
    have s2 := s1.trans s2'
    refine ite2 (fun z => ?_) (fun z2 => ?_)
    · refine r_raise (r_cons (r_c (r_nil ⟨by show 1 ≤ sizeLine; decide, fun t nt => ?_⟩)))
      exact raise (k := 2) (by unfold refuseR; rw [if_neg z0, if_neg z1, if_pos z]) s2 nt
    obtain ⟨xs1, hh1⟩ := (hr1.mono s2.tupS).head
    walk_at "rd"
    rcases hl.mono s2.tupS with ⟨rfl, el⟩ | ⟨b, r0, rfl, hb, el⟩
    · have e3 : lateR last r = false := by rw [el]; rfl
      refine ⟨rfl, _, rfl, ?_⟩
      refine iteN (by simp) ?_
      walk_at "rd"
      refine ⟨p, q1, ls, rs, r, rfl, R.same s2, ne, f4, hr1.mono s2.tupS, fun H3 s3' => ⟨_, rfl, ?_⟩⟩
      have s3 := s2.trans s3'
      refine ite2 (fun z => ?_) (fun z4 => ?_)
      · refine r_raise (r_cons (r_c (r_nil ⟨by show 1 ≤ sizeLine; decide, fun t nt => ?_⟩)))
        exact raise (k := 4) (by unfold refuseR; rw [if_neg z0, if_neg z1, if_neg z2, if_neg (by rw [e3]; exact Bool.false_ne_true), if_pos z]) s3 nt
      walk_at "rd"
      refine ⟨p, q1, ls, rs, r, rfl, R.same s3, f4, hr1.mono s3.tupS, by simpa using z1, fun H4 s4' => ⟨_, rfl, ?_⟩⟩
      refine ite2 (fun z => ?_) (fun z5 => ?_)
      · refine r_raise (r_cons (r_c (r_nil ⟨by show 1 ≤ sizeLine; decide, fun t nt => ?_⟩)))
        exact raise (k := 5) (by unfold refuseR; rw [if_neg z0, if_neg z1, if_neg z2, if_neg (by rw [e3]; exact Bool.false_ne_true), if_neg z4, if_pos z]) (s3.trans s4') nt
      refine r_next ?_
      exact q (by unfold refuseR; rw [if_neg z0, if_neg z1, if_neg z2, if_neg (by rw [e3]; exact Bool.false_ne_true), if_neg z4, if_neg z5]) _ (s3.trans s4')
    
    · obtain ⟨xs0, hb0⟩ := hb.head
      have e3' : lateR last r = decide (r.day < r0.day) := by rw [el]; rfl
      refine ⟨rfl, _, rfl, ?_⟩
      refine iteP (by simp) ?_
      refine r_test (r_op ?_)
      refine r_op (r_var rfl (r_c ?_))
      refine r_ixT (v := .int r.day) (.of hh1) (atI_nat (j := 2) rfl) ?_
      refine r_op (r_var rfl (r_c ?_))
      refine r_ixT (v := .int r0.day) (.of hb0) (atI_nat (j := 2) rfl) ?_
      refine r_I0 ⟨_, rfl, ?_⟩
      rw [← e3']
      refine ite2 (fun z => ?_) (fun z3 => ?_)
      · refine r_raise (r_cons (r_c (r_nil ⟨by show 1 ≤ sizeLine; decide, fun t nt => ?_⟩)))
        exact raise (k := 3) (by unfold refuseR; rw [if_neg z0, if_neg z1, if_neg z2, if_pos z]) s2 nt
      have e3 : lateR last r = false := by simpa using z3
      walk_at "rd"
      refine ⟨p, q1, ls, rs, r, rfl, R.same s2, ne, f4, hr1.mono s2.tupS, fun H3 s3' => ⟨_, rfl, ?_⟩⟩
      have s3 := s2.trans s3'
      refine ite2 (fun z => ?_) (fun z4 => ?_)
      · refine r_raise (r_cons (r_c (r_nil ⟨by show 1 ≤ sizeLine; decide, fun t nt => ?_⟩)))
        exact raise (k := 4) (by unfold refuseR; rw [if_neg z0, if_neg z1, if_neg z2, if_neg (by rw [e3]; exact Bool.false_ne_true), if_pos z]) s3 nt
      walk_at "rd"
      refine ⟨p, q1, ls, rs, r, rfl, R.same s3, f4, hr1.mono s3.tupS, by simpa using z1, fun H4 s4' => ⟨_, rfl, ?_⟩⟩
      refine ite2 (fun z => ?_) (fun z5 => ?_)
      · refine r_raise (r_cons (r_c (r_nil ⟨by show 1 ≤ sizeLine; decide, fun t nt => ?_⟩)))
        exact raise (k := 5) (by unfold refuseR; rw [if_neg z0, if_neg z1, if_neg z2, if_neg (by rw [e3]; exact Bool.false_ne_true), if_neg z4, if_pos z]) (s3.trans s4') nt
      refine r_next ?_
      exact q (by unfold refuseR; rw [if_neg z0, if_neg z1, if_neg z2, if_neg (by rw [e3]; exact Bool.false_ne_true), if_neg z4, if_neg z5]) _ (s3.trans s4')

theorem scLacksClaim : FnScope ["rounds", "row", "claims"] ["rounds", "row"] (defScope sLacksClaim) := ⟨rfl, rfl, rfl, by decide +kernel, rfl, by decide +kernel, by decide +kernel⟩
theorem ok_LacksClaim {f : Addr} {fd : FuncData} {dV : Value} (F : FunD K "lacks_claim" "lacks_claim" sLacksClaim f fd dV) (T : Txt K mg cB c_CostError c_Full c_NoClaim c_RoundOver c_TooLate c_Twice c_TooMuch c_NoRow c_Needed) (GClaimsOf : Fn P w K mg base "claims_of" 1 ["rounds", "turn"] (spClaims)) (GFindClaim : Fn P w K mg base "find_claim" 1 ["claims", "number"] (spFind K)) (GOverOf : Fn P w K mg base "over_of" 1 ["rounds"] (spOver K)) : FnOk P w K mg base CX0 2 f fd ["rounds", "row"] (spLacks) := by
  refine F.ok scLacksClaim (fun vs H Q E h => ?_) (fun cdv A outer s H vs Q E hr h => ?_)
  · obtain ⟨p, q1, ls, rs, r, rfl, R, f4, hr1, q⟩ := h
    rfl
  · obtain ⟨p, q1, ls, rs, r, rfl, R, f4, hr1, q⟩ := h
    refine ⟨_, (pss_cons (ps_if (pt_cmpR op_eq (pe_ix (ix_tupK K rfl) (pv 1) (pe_globI (by rfl) T.c_WORD) (fun _ _ => rfl)) pe_str (nomark _)) (pss_one (ps_ret (pe_cmpR op_isN (pe_fn GFindClaim hr (by decide) (by rfl) (pa_cons (pe_fn GClaimsOf hr (by decide) (by rfl) (pa_cons (pv 0) (pa_cons (pe_op op_sub (pe_fn GOverOf hr (by decide) (by rfl) (pa_cons (pv 0) pa_nil)) pe_int) pa_nil))) (pa_cons (pe_ix (ix_tupK K rfl) (pv 1) (pe_globI (by rfl) T.c_CLAIM) (fun _ _ => rfl)) pa_nil))) pe_non (nomark _)))) pss_nil)
      (pss_cons (ps_if (pt_cmpR op_eq (pe_ix (ix_tupK K rfl) (pv 1) (pe_globI (by rfl) T.c_WORD) (fun _ _ => rfl)) pe_str (nomark _)) (pss_one (ps_ret (pe_cmpR (op_eqL hr.units0) (pe_fn GClaimsOf hr (by decide) (by rfl) (pa_cons (pv 0) (pa_cons (pe_ix (ix_tupK K rfl) (pv 1) (pe_globI (by rfl) T.c_TURN) (fun _ _ => rfl)) pa_nil))) (pe_lst pa_nil) (nomark _)))) pss_nil)
      (pss_cons (ps_if (pt_cmpR op_eq (pe_ix (ix_tupK K rfl) (pv 1) (pe_globI (by rfl) T.c_WORD) (fun _ _ => rfl)) pe_str (nomark _)) (pss_one (ps_ret (pe_cmpR op_isN (pe_fn GFindClaim hr (by decide) (by rfl) (pa_cons (pe_fn GClaimsOf hr (by decide) (by rfl) (pa_cons (pv 0) (pa_cons (pe_ix (ix_tupK K rfl) (pv 1) (pe_globI (by rfl) T.c_TURN) (fun _ _ => rfl)) pa_nil))) (pa_cons (pe_ix (ix_tupK K rfl) (pv 1) (pe_globI (by rfl) T.c_OFFER_CLAIM) (fun _ _ => rfl)) pa_nil))) pe_non (nomark _)))) pss_nil)
      (pss_cons (ps_if (pt_cmpR op_eq (pe_ix (ix_tupK K rfl) (pv 1) (pe_globI (by rfl) T.c_WORD) (fun _ _ => rfl)) pe_str (nomark _)) (pss_cons (ps_set (i := 2) scLacksClaim.nd rfl (Or.inr rfl) (pe_fn GClaimsOf hr (by decide) (by rfl) (pa_cons (pv 0) (pa_cons (pe_ix (ix_tupK K rfl) (pv 1) (pe_globI (by rfl) T.c_TURN) (fun _ _ => rfl)) pa_nil))))
      (pss_one (ps_ret (pe_or (pe_cmpR (op_eqL hr.units0) (pv 2) (pe_lst pa_nil) (nomark _)) (pe_one (pe_callB (call_any rfl) (by rfl) T.b_any PyProof.Rows.boot_any (pa_cons (pe_comp ["rounds", "row", "claims"] (defScope sLacksClaim) 2 [2] ["claim", "won", "claims"] rfl (by decide +kernel) (pi_tup (pe_ix (ix_tupK K rfl) (pv 1) (pe_globI (by rfl) T.c_RULE_WINS) (fun _ _ => rfl))) (fun _ _ _ _ => (pg_tupK (n := 2) K rfl rfl (pgs_cons (pg_name (i := 0) (show List.Nodup (["claim", "won", "claims"] : List Str) by decide +kernel) rfl (Or.inl rfl)) (pgs_cons (pg_name (i := 1) (show List.Nodup (["claim", "won", "claims"] : List Str) by decide +kernel) rfl (Or.inl rfl)) pgs_nil)))) (fun _ _ _ _ => pts_nil) (fun _ _ _ _ => (pe_cmpR op_isN (pe_fn GFindClaim hr (by decide) (by rfl) (pa_cons (pv 2) (pa_cons (pv 0) pa_nil))) pe_non (nomark _))) (by decide +kernel) (by decide +kernel) (by decide +kernel)) pa_nil))))))) pss_nil)
      (pss_one (ps_ret pe_bl)))))), ?_⟩
    try dsimp only [cxOf]
    have hL := R.at_
    cases r with
    | claim n d c a b w =>
      have h1 : H q1 = some (.tup [.int n, .str "claim", .int d, .int c, .int a, .int b, .int w]) := hr1
      walk_at "rd"
      exact q _ (Same.refl H)
    | rule n d t bk ws =>
      obtain ⟨q2, h1, as, h2, hT2, h22, hn2⟩ := hr1
      walk_at "rd"
      refine ⟨p, ls, rs, t, rfl, R, fun l cs nl hT => ?_⟩
      have s1 : Same H (upd H l (.lst (List.map V.ref cs))) := Same.new nl
      have em : (decide (List.map V.ref cs = [])) = (claimsR rs t).isEmpty := by
        have := hT.1
        cases cs with
        | nil => cases e : claimsR rs t with
          | nil => rfl
          | cons x y => rw [e] at this; simp at this
        | cons x y => cases e : claimsR rs t with
          | nil => rw [e] at this; simp at this
          | cons x y => rfl
      walk_at "rd"
      rename_i p2 np2
      have s2 := s1.trans (Same.new (o := .lst []) np2)
      refine rEqL_nl (xs := List.map V.ref cs) ((Same.new np2).seq (.of upd_same)) (.of upd_same) ?_
      refine ⟨_, rfl, ?_⟩
      rw [em]
      cases e : (claimsR rs t).isEmpty with
      | true =>
        refine iteT ?_
        have := q _ s2
        rw [show lacksR rs (.rule n d t bk ws) = true by show (_ || _) = true; rw [e]; rfl] at this
        exact this
      | false =>
        refine iteF ?_
        refine r_cb (r_cons (r_comp (r_itup (r_op (r_var rfl (r_c (r_ixT (.of (s2 _ _ h1)) rfl ⟨q2, rfl, ⟨_, .of (s2 _ _ h2)⟩, fun D nD => ?_⟩)))))))
        refine comp_pairs (fun x => .bl (!((claimsR rs t).any fun y => y.getD 0 0 == x.getD 0 0))) nD (.of (s2 _ _ h2)) (hT2.same s2) h22 hn2 ?_ ?_
        · intro x H' q' hx sm k
          refine r_op (r_callX (r_cons (r_var rfl (r_cons (r_var rfl (r_nil ?_))))))
          refine ⟨l, cs, _, _, rfl, .of (sm _ _ (Same.new np2 _ _ upd_same)), hT.same (s2.trans sm), f4.claims, fun v hv => ?_⟩
          refine r_c ⟨rfl, ?_⟩
          rw [hv.non]
          exact k _ (Same.refl _)
        · intro H' sm hD
          refine r_nil (r_any (bs := ws.map fun x => !((claimsR rs t).any fun y => y.getD 0 0 == x.getD 0 0)) (.of (by rw [hD, List.map_map]; rfl)) ?_)
          have := q _ (s2.trans sm)
          rw [show lacksR rs (.rule n d t bk ws) = (ws.map fun x => !((claimsR rs t).any fun y => y.getD 0 0 == x.getD 0 0)).any id by show ((claimsR rs t).isEmpty || ws.any _) = _; rw [e, Bool.false_or, List.any_map]; rfl] at this
          exact this
    | carry n d c =>
      have h1 : H q1 = some (.tup [.int n, .str "carry", .int d, .int c]) := hr1
      have ll : ((List.map V.ref ls).length : Int) = (rs.length : Int) := by rw [List.length_map, R.len]
      walk_at "rd"
      refine ⟨p, _, rfl, .of hL, ?_⟩
      rw [ll]
      walk_at "rd"
      refine ⟨p, ls, rs, _, rfl, R, fun l cs nl hT => ?_⟩
      have s1 : Same H (upd H l (.lst (List.map V.ref cs))) := Same.new nl
      have h1' := s1 _ _ h1
      walk_at "rd"
      refine ⟨l, cs, _, c, rfl, .of upd_same, hT.same s1, f4.claims, fun v hv => ?_⟩
      refine r_c ⟨rfl, ?_⟩
      rw [hv.non]
      exact q _ s1
    | step n d t sd k m l =>
      have h1 : H q1 = some (.tup [.int n, .str "step", .int d, .int t, .int sd, .str k, .int m, .str l]) := hr1
      walk_at "rd"
      refine ⟨p, ls, rs, t, rfl, R, fun l cs nl hT => ?_⟩
      have s1 : Same H (upd H l (.lst (List.map V.ref cs))) := Same.new nl
      have em : (decide (List.map V.ref cs = [])) = (claimsR rs t).isEmpty := by
        have := hT.1
        cases cs with
        | nil => cases e : claimsR rs t with
          | nil => rfl
          | cons x y => rw [e] at this; simp at this
        | cons x y => cases e : claimsR rs t with
          | nil => rw [e] at this; simp at this
          | cons x y => rfl
      walk_at "rd"
      rename_i p2 np2
      have s2 := s1.trans (Same.new (o := .lst []) np2)
      refine rEqL_nl (xs := List.map V.ref cs) ((Same.new np2).seq (.of upd_same)) (.of upd_same) ?_
      rw [em]
      exact q _ s2
    | offer n d t c a =>
      have h1 : H q1 = some (.tup [.int n, .str "offer", .int d, .int t, .int c, .int a]) := hr1
      walk_at "rd"
      refine ⟨p, ls, rs, _, rfl, R, fun l cs nl hT => ?_⟩
      have s1 : Same H (upd H l (.lst (List.map V.ref cs))) := Same.new nl
      have h1' := s1 _ _ h1
      walk_at "rd"
      refine ⟨l, cs, _, c, rfl, .of upd_same, hT.same s1, f4.claims, fun v hv => ?_⟩
      refine r_c ⟨rfl, ?_⟩
      rw [hv.non]
      exact q _ s1
    | pay n d sd pp co =>
      have h1 : H q1 = some (.tup [.int n, .str "pay", .int d, .int sd, .int pp, .int co]) := hr1
      walk_at "rd"
      exact q _ (Same.refl H)
    | dun n d sd =>
      have h1 : H q1 = some (.tup [.int n, .str "dun", .int d, .int sd]) := hr1
      walk_at "rd"
      exact q _ (Same.refl H)

theorem scMeetsOver : FnScope ["rounds", "row"] ["rounds", "row"] (defScope sMeetsOver) := ⟨rfl, rfl, rfl, by decide +kernel, rfl, by decide +kernel, by decide +kernel⟩
theorem ok_MeetsOver {f : Addr} {fd : FuncData} {dV : Value} (F : FunD K "meets_over" "meets_over" sMeetsOver f fd dV) (T : Txt K mg cB c_CostError c_Full c_NoClaim c_RoundOver c_TooLate c_Twice c_TooMuch c_NoRow c_Needed) (GOverOf : Fn P w K mg base "over_of" 1 ["rounds"] (spOver K)) : FnOk P w K mg base CX0 2 f fd ["rounds", "row"] (spMeets) := by
  refine F.ok scMeetsOver (fun vs H Q E h => ?_) (fun cdv A outer s H vs Q E hr h => ?_)
  · obtain ⟨p, q1, ls, rs, r, rfl, R, hr1, q⟩ := h
    rfl
  · obtain ⟨p, q1, ls, rs, r, rfl, R, hr1, q⟩ := h
    refine ⟨_, (pss_cons (ps_if (pt_cmpR op_eq (pe_ix (ix_tupK K rfl) (pv 1) (pe_globI (by rfl) T.c_WORD) (fun _ _ => rfl)) pe_str (nomark _)) (pss_one (ps_ret (pe_cmpR op_gt (pe_fn GOverOf hr (by decide) (by rfl) (pa_cons (pv 0) pa_nil)) pe_int (nomark _)))) pss_nil)
      (pss_cons (ps_if (pt_cmpR op_eq (pe_ix (ix_tupK K rfl) (pv 1) (pe_globI (by rfl) T.c_WORD) (fun _ _ => rfl)) pe_str (nomark _)) (pss_one (ps_ret (pe_cmpR op_eq (pe_fn GOverOf hr (by decide) (by rfl) (pa_cons (pv 0) pa_nil)) (pe_globI (by rfl) T.c_ROUNDS) (nomark _)))) pss_nil)
      (pss_cons (ps_if (pt_cmpR op_in_seq (pe_ix (ix_tupK K rfl) (pv 1) (pe_globI (by rfl) T.c_WORD) (fun _ _ => rfl)) (pe_tup (pa_cons pe_str (pa_cons pe_str (pa_cons pe_str pa_nil)))) (by with_unfolding_all rfl)) (pss_one (ps_ret (pe_cmpR op_lt (pe_ix (ix_tupK K rfl) (pv 1) (pe_globI (by rfl) T.c_TURN) (fun _ _ => rfl)) (pe_fn GOverOf hr (by decide) (by rfl) (pa_cons (pv 0) pa_nil)) (nomark _)))) pss_nil)
      (pss_one (ps_ret pe_bl))))), ?_⟩
    try dsimp only [cxOf]
    have hL := R.at_
    have ll : ((List.map V.ref ls).length : Int) = (rs.length : Int) := by rw [List.length_map, R.len]
    cases r with
    | claim n d c a b w =>
      have h1 : H q1 = some (.tup [.int n, .str "claim", .int d, .int c, .int a, .int b, .int w]) := hr1
      walk_at "rd"
      refine ⟨p, _, rfl, .of hL, ?_⟩
      walk_at "rd"
      rw [ll]
      exact q _ (Same.refl H)
    | rule n d t bk ws =>
      obtain ⟨q2, h1, h2⟩ := hr1
      walk_at "rd"
      rename_i p2 np2
      refine ⟨p2, _, rfl, .inr (.of upd_same), rfl, rfl, ⟨_, rfl, ?_⟩⟩
      refine iteP (by decide +kernel) ?_
      have s2 := Same.new (o := .tup [V.str "step", V.str "offer", V.str "rule"]) np2
      have h1' := s2 _ _ h1
      walk_at "rd"
      refine ⟨p, _, rfl, .of (s2 _ _ hL), ?_⟩
      walk_at "rd"
      rw [ll]
      exact q _ s2
    | carry n d c =>
      have h1 : H q1 = some (.tup [.int n, .str "carry", .int d, .int c]) := hr1
      walk_at "rd"
      refine ⟨p, _, rfl, .of hL, ?_⟩
      walk_at "rd"
      rw [ll]
      exact q _ (Same.refl H)
    | step n d t sd k m l =>
      have h1 : H q1 = some (.tup [.int n, .str "step", .int d, .int t, .int sd, .str k, .int m, .str l]) := hr1
      walk_at "rd"
      rename_i p2 np2
      refine ⟨p2, _, rfl, .inr (.of upd_same), rfl, rfl, ⟨_, rfl, ?_⟩⟩
      refine iteP (by decide +kernel) ?_
      have s2 := Same.new (o := .tup [V.str "step", V.str "offer", V.str "rule"]) np2
      have h1' := s2 _ _ h1
      walk_at "rd"
      refine ⟨p, _, rfl, .of (s2 _ _ hL), ?_⟩
      walk_at "rd"
      rw [ll]
      exact q _ s2
    | offer n d t c a =>
      have h1 : H q1 = some (.tup [.int n, .str "offer", .int d, .int t, .int c, .int a]) := hr1
      walk_at "rd"
      rename_i p2 np2
      refine ⟨p2, _, rfl, .inr (.of upd_same), rfl, rfl, ⟨_, rfl, ?_⟩⟩
      refine iteP (by decide +kernel) ?_
      have s2 := Same.new (o := .tup [V.str "step", V.str "offer", V.str "rule"]) np2
      have h1' := s2 _ _ h1
      walk_at "rd"
      refine ⟨p, _, rfl, .of (s2 _ _ hL), ?_⟩
      walk_at "rd"
      rw [ll]
      exact q _ s2
    | pay n d sd pp co =>
      have h1 : H q1 = some (.tup [.int n, .str "pay", .int d, .int sd, .int pp, .int co]) := hr1
      walk_at "rd"
      rename_i p2 np2
      refine ⟨p2, _, rfl, .inr (.of upd_same), rfl, rfl, ⟨_, rfl, ?_⟩⟩
      refine iteN (by decide +kernel) ?_
      have s2 := Same.new (o := .tup [V.str "step", V.str "offer", V.str "rule"]) np2
      have h1' := s2 _ _ h1
      walk_at "rd"
      exact q _ s2
    | dun n d sd =>
      have h1 : H q1 = some (.tup [.int n, .str "dun", .int d, .int sd]) := hr1
      walk_at "rd"
      rename_i p2 np2
      refine ⟨p2, _, rfl, .inr (.of upd_same), rfl, rfl, ⟨_, rfl, ?_⟩⟩
      refine iteN (by decide +kernel) ?_
      have s2 := Same.new (o := .tup [V.str "step", V.str "offer", V.str "rule"]) np2
      have h1' := s2 _ _ h1
      walk_at "rd"
      exact q _ s2

theorem scComesTwice : FnScope ["rounds", "row", "named"] ["rounds", "row"] (defScope sComesTwice) := ⟨rfl, rfl, rfl, by decide +kernel, rfl, by decide +kernel, by decide +kernel⟩
theorem ok_ComesTwice {f : Addr} {fd : FuncData} {dV : Value} (F : FunD K "comes_twice" "comes_twice" sComesTwice f fd dV) (T : Txt K mg cB c_CostError c_Full c_NoClaim c_RoundOver c_TooLate c_Twice c_TooMuch c_NoRow c_Needed) (GFindClaim : Fn P w K mg base "find_claim" 1 ["claims", "number"] (spFind K)) : FnOk P w K mg base CX0 2 f fd ["rounds", "row"] (spTwice) := by
  refine F.ok scComesTwice (fun vs H Q E h => ?_) (fun cdv A outer s H vs Q E hr h => ?_)
  · obtain ⟨p, q1, ls, rs, r, rfl, R, ne, f4, hr1, q⟩ := h
    rfl
  · obtain ⟨p, q1, ls, rs, r, rfl, R, ne, f4, hr1, q⟩ := h
    refine ⟨_, (pss_cons (ps_if (pt_cmpR op_eq (pe_ix (ix_tupK K rfl) (pv 1) (pe_globI (by rfl) T.c_WORD) (fun _ _ => rfl)) pe_str (nomark _)) (pss_one (ps_ret (pe_cmpR op_notN (pe_fn GFindClaim hr (by decide) (by rfl) (pa_cons (pe_ix (ix_listK K rfl) (pv 0) pe_int (fun _ _ => rfl)) (pa_cons (pe_ix (ix_tupK K rfl) (pv 1) (pe_globI (by rfl) T.c_CLAIM) (fun _ _ => rfl)) pa_nil))) pe_non (nomark _)))) pss_nil)
      (pss_cons (ps_if (pt_cmpR op_eq (pe_ix (ix_tupK K rfl) (pv 1) (pe_globI (by rfl) T.c_WORD) (fun _ _ => rfl)) pe_str (nomark _)) (pss_one (ps_ret (pe_cmpR op_notN (pe_fn GFindClaim hr (by decide) (by rfl) (pa_cons (pe_ix (ix_listK K rfl) (pv 0) (pe_un un_neg pe_int) (fun _ _ => rfl)) (pa_cons (pe_ix (ix_tupK K rfl) (pv 1) (pe_globI (by rfl) T.c_CLAIM) (fun _ _ => rfl)) pa_nil))) pe_non (nomark _)))) pss_nil)
      (pss_cons (ps_if (pt_cmpR op_eq (pe_ix (ix_tupK K rfl) (pv 1) (pe_globI (by rfl) T.c_WORD) (fun _ _ => rfl)) pe_str (nomark _)) (pss_cons (ps_comp ["rounds", "row", "named"] (defScope sComesTwice) 2 [] ["claim", "won"] (i := 2) scComesTwice.nd rfl rfl (by decide +kernel) (pi_tup (pe_ix (ix_tupK K rfl) (pv 1) (pe_globI (by rfl) T.c_RULE_WINS) (fun _ _ => rfl))) (fun _ _ _ _ => (pg_tupK (n := 2) K rfl rfl (pgs_cons (pg_name (i := 0) (show List.Nodup (["claim", "won"] : List Str) by decide +kernel) rfl (Or.inl rfl)) (pgs_cons (pg_name (i := 1) (show List.Nodup (["claim", "won"] : List Str) by decide +kernel) rfl (Or.inl rfl)) pgs_nil)))) (fun _ _ _ _ => pts_nil) (fun _ _ _ _ => (pv 0)) (by decide +kernel) (by decide +kernel) (by decide +kernel))
      (pss_one (ps_ret (pe_cmpR op_lt (pe_lensetI hr rfl (by rfl) T.b_len (by rfl) T.b_set (pa_cons (pv 2) pa_nil)) (pe_callB (cb_lenK K rfl) (by rfl) T.b_len PySem.boot_len (pa_cons (pv 2) pa_nil)) (nomark _))))) pss_nil)
      (pss_one (ps_ret pe_bl))))), ?_⟩
    try dsimp only [cxOf]
    have hL := R.at_
    cases r with
    | claim n d c a b w =>
      have h1 : H q1 = some (.tup [.int n, .str "claim", .int d, .int c, .int a, .int b, .int w]) := hr1
      obtain ⟨r0, rt, rfl⟩ : ∃ r0 rt, rs = r0 :: rt := by
        cases rs with
        | nil => exact absurd rfl ne
        | cons l lt => exact ⟨l, lt, rfl⟩
      obtain ⟨l, lt, rfl⟩ : ∃ l lt, ls = l :: lt := by
        have := R.len
        cases ls with
        | nil => simp at this
        | cons l lt => exact ⟨l, lt, rfl⟩
      obtain ⟨cs, c1, c2⟩ := R.ro 0 l r0 rfl rfl
      walk_at "rd"
      have ea : atI (List.map V.ref (l :: lt)) 0 = some (V.ref l) := by
        have := atI_refs (as := l :: lt) (i := 0) (by omega) (by simp only [List.length_cons]; omega)
        exact this
      refine r_ixL (.of hL) ea ?_
      walk_at "rd"
      refine ⟨l, cs, r0, c, rfl, .of c1, c2, fun x hx => f4 _ List.mem_cons_self x hx, fun v hv => ?_⟩
      refine r_c ⟨rfl, ?_⟩
      rw [hv.non, Bool.not_not]
      exact q _ (Same.refl H)
    | rule n d t bk ws =>
      obtain ⟨q2, h1, as, h2, hT2, h22, hn2⟩ := hr1
      walk_at "rd"
      refine r_itup (r_op (r_var rfl (r_c (r_ixT (.of h1) rfl ⟨q2, rfl, ⟨_, .of h2⟩, fun D nD => ?_⟩))))
      refine comp_pairs (fun x => .int (x.getD 0 0)) nD (.of h2) hT2 h22 hn2 (fun x H' q' hx sm k => r_var rfl (k _ (Same.refl _))) fun H' sm hD => ?_
      have hD : H' D = some (.lst (List.map V.int (nmsR ws))) := by rw [hD]; unfold nmsR; rw [List.map_map]; rfl
      refine r_name ?_
      dsimp only
      refine r_ret (r_op (r_lensetI (r_cons (r_var rfl (r_nil ?_)))))
      refine ⟨D, nmsR ws, rfl, .of hD, by unfold nmsR; rw [List.length_map]; exact hn2, ?_⟩
      refine r_cb (r_cons (r_var rfl (r_nil (r_lenL (.of hD) (r_I0 ?_)))))
      rw [List.length_map]
      exact q _ sm
    | carry n d c =>
      have h1 : H q1 = some (.tup [.int n, .str "carry", .int d, .int c]) := hr1
      have len := R.len
      have j1 : rs.length - 1 < rs.length := by have := List.length_pos_iff.mpr ne; omega
      have i1 : ls.length - 1 < ls.length := by omega
      obtain ⟨cs, c1, c2⟩ := R.ro (ls.length - 1) ls[ls.length - 1] rs[rs.length - 1] (by simp [i1]) (by rw [len]; simp [j1])
      have e1 : ls.getD (ls.length - 1) 0 = ls[ls.length - 1] := by simp [List.getD, i1]
      have f1 : rs.getD (rs.length - 1) [] = rs[rs.length - 1] := by simp [List.getD, j1]
      have ne' : ls ≠ [] := fun z => by rw [z] at i1; cases i1
      walk_at "rd"
      refine r_ixL (.of hL) (atI_refs_last ne') ?_
      rw [e1]
      walk_at "rd"
      refine ⟨_, cs, _, c, rfl, .of c1, c2, fun x hx => f4 _ (List.getElem_mem j1) x hx, fun v hv => ?_⟩
      refine r_c ⟨rfl, ?_⟩
      rw [hv.non, Bool.not_not, ← f1]
      exact q _ (Same.refl H)
    | step n d t sd k m l =>
      have h1 : H q1 = some (.tup [.int n, .str "step", .int d, .int t, .int sd, .str k, .int m, .str l]) := hr1
      walk_at "rd"
      exact q _ (Same.refl H)
    | offer n d t c a =>
      have h1 : H q1 = some (.tup [.int n, .str "offer", .int d, .int t, .int c, .int a]) := hr1
      walk_at "rd"
      exact q _ (Same.refl H)
    | pay n d sd pp co =>
      have h1 : H q1 = some (.tup [.int n, .str "pay", .int d, .int sd, .int pp, .int co]) := hr1
      walk_at "rd"
      exact q _ (Same.refl H)
    | dun n d sd =>
      have h1 : H q1 = some (.tup [.int n, .str "dun", .int d, .int sd]) := hr1
      walk_at "rd"
      exact q _ (Same.refl H)

theorem scNamesTooMuch : FnScope ["rounds", "row"] ["rounds", "row"] (defScope sNamesTooMuch) := ⟨rfl, rfl, rfl, by decide +kernel, rfl, by decide +kernel, by decide +kernel⟩
theorem ok_NamesTooMuch {f : Addr} {fd : FuncData} {dV : Value} (F : FunD K "names_too_much" "names_too_much" sNamesTooMuch f fd dV) (T : Txt K mg cB c_CostError c_Full c_NoClaim c_RoundOver c_TooLate c_Twice c_TooMuch c_NoRow c_Needed) (GWorthIn : Fn P w K mg base "worth_in" 2 ["rounds", "row", "claim"] (spWorth)) : FnOk P w K mg base CX0 3 f fd ["rounds", "row"] (spMuch) := by
  refine F.ok scNamesTooMuch (fun vs H Q E h => ?_) (fun cdv A outer s H vs Q E hr h => ?_)
  · obtain ⟨p, q1, ls, rs, r, rfl, R, f4, hr1, hlk, q⟩ := h
    rfl
  · obtain ⟨p, q1, ls, rs, r, rfl, R, f4, hr1, hlk, q⟩ := h
    refine ⟨_, (pss_cons (ps_if (pt_cmpR op_eq (pe_ix (ix_tupK K rfl) (pv 1) (pe_globI (by rfl) T.c_WORD) (fun _ _ => rfl)) pe_str (nomark _)) (pss_one (ps_ret (pe_cmpR op_gt (pe_ix (ix_tupK K rfl) (pv 1) (pe_globI (by rfl) T.c_OFFER_AMOUNT) (fun _ _ => rfl)) (pe_fn GWorthIn hr (by decide) (by rfl) (pa_cons (pv 0) (pa_cons (pv 1) (pa_cons (pe_ix (ix_tupK K rfl) (pv 1) (pe_globI (by rfl) T.c_OFFER_CLAIM) (fun _ _ => rfl)) pa_nil)))) (nomark _)))) pss_nil)
      (pss_cons (ps_if (pt_cmpR op_eq (pe_ix (ix_tupK K rfl) (pv 1) (pe_globI (by rfl) T.c_WORD) (fun _ _ => rfl)) pe_str (nomark _)) (pss_one (ps_ret (pe_callB (call_any rfl) (by rfl) T.b_any PyProof.Rows.boot_any (pa_cons (pe_comp ["rounds", "row"] (defScope sNamesTooMuch) 2 [0, 1] ["claim", "won", "rounds", "row"] rfl (by decide +kernel) (pi_tup (pe_ix (ix_tupK K rfl) (pv 1) (pe_globI (by rfl) T.c_RULE_WINS) (fun _ _ => rfl))) (fun _ _ _ _ => (pg_tupK (n := 2) K rfl rfl (pgs_cons (pg_name (i := 0) (show List.Nodup (["claim", "won", "rounds", "row"] : List Str) by decide +kernel) rfl (Or.inl rfl)) (pgs_cons (pg_name (i := 1) (show List.Nodup (["claim", "won", "rounds", "row"] : List Str) by decide +kernel) rfl (Or.inl rfl)) pgs_nil)))) (fun _ _ _ _ => pts_nil) (fun _ _ _ _ => (pe_cmpR op_gt (pv 1) (pe_fn GWorthIn hr (by decide) (by rfl) (pa_cons (pv 2) (pa_cons (pv 3) (pa_cons (pv 0) pa_nil)))) (nomark _))) (by decide +kernel) (by decide +kernel) (by decide +kernel)) pa_nil)))) pss_nil)
      (pss_one (ps_ret pe_bl)))), ?_⟩
    try dsimp only [cxOf]
    cases r with
    | claim n d c a b w =>
      have h1 : H q1 = some (.tup [.int n, .str "claim", .int d, .int c, .int a, .int b, .int w]) := hr1
      walk_at "rd"
      exact q _ (Same.refl H)
    | rule n d t bk ws =>
      obtain ⟨q2, h1, as, h2, hT2, h22, hn2⟩ := hr1
      have hl2 : ((claimsR rs t).isEmpty || ws.any fun x => !((claimsR rs t).any fun y => y.getD 0 0 == x.getD 0 0)) = false := hlk
      rw [Bool.or_eq_false_iff] at hl2
      walk_at "rd"
      refine r_itup (r_op (r_var rfl (r_c (r_ixT (.of h1) rfl ⟨q2, rfl, ⟨_, .of h2⟩, fun D nD => ?_⟩))))
      refine comp_pairs (fun x => .bl (decide (x.getD 1 0 > worthR rs t (x.getD 0 0)))) nD (.of h2) hT2 h22 hn2 ?_ ?_
      · intro x H' q' hx sm k
        refine r_op (r_var rfl (r_callX (r_cons (r_var rfl (r_cons (r_var rfl (r_cons (r_var rfl (r_nil ?_)))))))))
        refine ⟨p, q1, ls, rs, x.getD 0 0, _, _, _, t, _, rfl, R.same sm, f4, sm _ _ h1, ?_, fun H1 s1 => ?_⟩
        · have := List.any_eq_false.mp hl2.2 x hx
          simpa using this
        refine r_I0 ?_
        exact k _ s1
      · intro H' sm hD
        refine r_nil (r_any (bs := ws.map fun x => decide (x.getD 1 0 > worthR rs t (x.getD 0 0))) (.of (by rw [hD, List.map_map]; rfl)) ?_)
        rw [List.any_map]
        exact q _ sm
    | carry n d c =>
      have h1 : H q1 = some (.tup [.int n, .str "carry", .int d, .int c]) := hr1
      walk_at "rd"
      exact q _ (Same.refl H)
    | step n d t sd k m l =>
      have h1 : H q1 = some (.tup [.int n, .str "step", .int d, .int t, .int sd, .str k, .int m, .str l]) := hr1
      walk_at "rd"
      exact q _ (Same.refl H)
    | offer n d t c a =>
      have h1 : H q1 = some (.tup [.int n, .str "offer", .int d, .int t, .int c, .int a]) := hr1
      walk_at "rd"
      refine ⟨p, q1, ls, rs, c, _, _, _, t, _, rfl, R, f4, h1, ?_, fun H1 s1 => ?_⟩
      · have : (!((claimsR rs t).any fun x => x.getD 0 0 == c)) = false := hlk
        simpa using this
      refine r_I0 ?_
      exact q _ s1
    | pay n d sd pp co =>
      have h1 : H q1 = some (.tup [.int n, .str "pay", .int d, .int sd, .int pp, .int co]) := hr1
      walk_at "rd"
      exact q _ (Same.refl H)
    | dun n d sd =>
      have h1 : H q1 = some (.tup [.int n, .str "dun", .int d, .int sd]) := hr1
      walk_at "rd"
      exact q _ (Same.refl H)

theorem scWorthIn : FnScope ["rounds", "row", "claim"] ["rounds", "row", "claim"] (defScope sWorthIn) := ⟨rfl, rfl, rfl, by decide +kernel, rfl, by decide +kernel, by decide +kernel⟩
theorem ok_WorthIn {f : Addr} {fd : FuncData} {dV : Value} (F : FunD K "worth_in" "worth_in" sWorthIn f fd dV) (T : Txt K mg cB c_CostError c_Full c_NoClaim c_RoundOver c_TooLate c_Twice c_TooMuch c_NoRow c_Needed) (GClaimsOf : Fn P w K mg base "claims_of" 1 ["rounds", "turn"] (spClaims)) (GFindClaim : Fn P w K mg base "find_claim" 1 ["claims", "number"] (spFind K)) : FnOk P w K mg base CX0 2 f fd ["rounds", "row", "claim"] (spWorth) := by
  refine F.ok scWorthIn (fun vs H Q E h => ?_) (fun cdv A outer s H vs Q E hr h => ?_)
  · obtain ⟨p, q1, ls, rs, c, y0, y1, y2, t, ys, rfl, R, f4, h1, ha, q⟩ := h
    rfl
  · obtain ⟨p, q1, ls, rs, c, y0, y1, y2, t, ys, rfl, R, f4, h1, ha, q⟩ := h
    refine ⟨_, (pss_one (ps_ret (pe_ix (ix_tupK K rfl) (pe_fn GFindClaim hr (by decide) (by rfl) (pa_cons (pe_fn GClaimsOf hr (by decide) (by rfl) (pa_cons (pv 0) (pa_cons (pe_ix (ix_tupK K rfl) (pv 1) (pe_globI (by rfl) T.c_TURN) (fun _ _ => rfl)) pa_nil))) (pa_cons (pv 2) pa_nil))) (pe_globI (by rfl) T.c_WORTH) (fun _ _ => rfl)))), ?_⟩
    try dsimp only [cxOf]
    refine r_ret (r_op (r_callX (r_cons (r_callX (r_cons (r_var rfl (r_cons (r_op (r_var rfl (r_c ?_))))))))))
    refine r_ixT (v := .int t) (.of h1) (atI_nat (j := 3) rfl) (r_nil ?_)
    refine ⟨p, ls, rs, t, rfl, R, fun l cs nl hT => ?_⟩
    have s1 : Same H (upd H l (.lst (List.map V.ref cs))) := Same.new nl
    refine r_cons (r_var rfl (r_nil ?_))
    refine ⟨l, cs, _, c, rfl, .of upd_same, hT.same s1, f4.claims, fun v hv => ?_⟩
    obtain ⟨x, bb, ex, rfl, hb⟩ := hv.found ha
    have x4 := f4.claims x (List.mem_of_find?_eq_some ex)
    obtain ⟨x0, x1, x2, x3, rfl⟩ : ∃ x0 x1 x2 x3, x = [x0, x1, x2, x3] := by
      match x, x4 with
      | [x0, x1, x2, x3], _ => exact ⟨x0, x1, x2, x3, rfl⟩
    refine r_c (r_ixT (v := .int x3) (.of hb) (atI_nat (j := 3) rfl) ?_)
    have ew : worthR rs t c = x3 := by
      unfold worthR
      rw [ex]
      rfl
    rw [← ew]
    exact q _ s1

theorem scLInt : FnScope ["_law_got"] ["_law_got"] (defScope sLInt) := ⟨rfl, rfl, rfl, by decide +kernel, rfl, by decide +kernel, by decide +kernel⟩
theorem ok_LInt {f : Addr} {fd : FuncData} {dV : Value} (F : FunD K "_law_int" "_law_int" sLInt f fd dV) (T : Txt K mg cB c_CostError c_Full c_NoClaim c_RoundOver c_TooLate c_Twice c_TooMuch c_NoRow c_Needed) : FnOk P w K mg base CX0 1 f fd ["_law_got"] (spInt) := by
  refine F.ok scLInt (fun vs H Q E h => ?_) (fun cdv A outer s H vs Q E hr h => ?_)
  · obtain ⟨i, rfl, q⟩ := h
    rfl
  · obtain ⟨i, rfl, q⟩ := h
    refine ⟨_, (pss_one (ps_ret (pe_and (pe_callB call_isi (by rfl) T.b_isinstance PyProof.Rows.boot_isinstance (pa_cons (pv 0) (pa_cons (pe_bltn (by rfl) T.b_int PyProof.Rows.boot_int (v := .ty "int") rfl) pa_nil))) (pe_one (pe_not (pe_callB call_isi (by rfl) T.b_isinstance PyProof.Rows.boot_isinstance (pa_cons (pv 0) (pa_cons (pe_bltn (by rfl) T.b_bool PyProof.Rows.boot_bool (v := .ty "bool") rfl) pa_nil)))))))), ?_⟩
    try dsimp only [cxOf]
    walk_at "rd"
    exact q

theorem scLTexts : FnScope ["_law_got", "_law_due", "_law_k"] ["_law_got", "_law_due"] (defScope sLTexts) := ⟨rfl, rfl, rfl, by decide +kernel, rfl, by decide +kernel, by decide +kernel⟩
theorem ok_LTexts {f : Addr} {fd : FuncData} {dV : Value} (F : FunD K "_law_texts" "_law_texts" sLTexts f fd dV) (T : Txt K mg cB c_CostError c_Full c_NoClaim c_RoundOver c_TooLate c_Twice c_TooMuch c_NoRow c_Needed) : FnOk P w K mg base CX0 1 f fd ["_law_got", "_law_due"] (spTexts K) := by
  refine F.ok scLTexts (fun vs H Q E h => ?_) (fun cdv A outer s H vs Q E hr h => ?_)
  · obtain ⟨a, b, zs, rfl, ha, hb, hn, q⟩ := h
    rfl
  · obtain ⟨a, b, zs, rfl, ha, hb, hn, q⟩ := h
    refine ⟨_, (pss_cons (ps_if (PW.pt (pw_or (pt_not (pt_val (pe_callB call_isi (by rfl) T.b_isinstance PyProof.Rows.boot_isinstance (pa_cons (pv 0) (pa_cons (pe_bltn (by rfl) T.b_list PyProof.Rows.boot_list (v := .ty "list") rfl) pa_nil))))) (pw_or1 (pt_cmpR op_ne (pe_callB (cb_lenK K rfl) (by rfl) T.b_len PySem.boot_len (pa_cons (pv 0) pa_nil)) (pe_callB (cb_lenK K rfl) (by rfl) T.b_len PySem.boot_len (pa_cons (pv 1) pa_nil)) (nomark _))))) (pss_one (ps_ret pe_bl)) pss_nil)
      (pss_cons (ps_for PassesOwn.never rfl (pi_range1 (by rfl) T.b_range (pa_cons (pe_callB (cb_lenK K rfl) (by rfl) T.b_len PySem.boot_len (pa_cons (pv 1) pa_nil)) pa_nil)) (pg_name (i := 2) scLTexts.nd rfl (Or.inl rfl)) (pss_one (ps_if (PW.pt (pw_or (pt_not (pt_val (pe_callB call_isi (by rfl) T.b_isinstance PyProof.Rows.boot_isinstance (pa_cons (pe_ix (ix_listK K rfl) (pv 0) (pv 2) (fun _ _ => rfl)) (pa_cons (pe_bltn (by rfl) T.b_str PyProof.Rows.boot_str (v := .ty "str") rfl) pa_nil))))) (pw_or1 (pt_cmpR op_ne (pe_ix (ix_listK K rfl) (pv 0) (pv 2) (fun _ _ => rfl)) (pe_ix (ix_listK K rfl) (pv 1) (pv 2) (fun _ _ => rfl)) (nomark _))))) (pss_one (ps_ret pe_bl)) pss_nil)))
      (pss_one (ps_ret pe_bl)))), ?_⟩
    try dsimp only [cxOf]
    walk_at "rd"
    refine ⟨_, rfl, by rw [List.length_map]; omega, by rw [List.length_map]; omega, ?_⟩
    refine for_range (fun i σ H2 => H2 = H ∧ ∃ v, σ = [some (.ref a), some (.ref b), v]) ⟨rfl, _, rfl⟩ ?_ ?_
    · rintro i σ H2 hi ⟨rfl, v, rfl⟩
      have hi : i < zs.length := by rw [List.length_map] at hi; omega
      have ea : atI (List.map V.str zs) (0 + (i : Int)) = some (V.str zs[i]) := by
        rw [Int.zero_add]
        exact atI_nat (by simp [hi])
      refine r_name (r_ifS (r_or (r_not (r_tB (r_cb (r_cons (r_op (r_var rfl (r_var rfl ?_)))))))))
      refine r_ixL (.of ha) ea ?_
      refine r_cons (r_c (r_nil (r_isiStr ⟨_, rfl, iteF ?_⟩)))
      refine r_test (r_op (r_op (r_var rfl (r_var rfl ?_))))
      refine r_ixL (.of ha) ea ?_
      refine r_op (r_var rfl (r_var rfl ?_))
      refine r_ixL hb ea ?_
      refine r_NeS ⟨_, rfl, ?_⟩
      rw [decide_eq_true rfl]
      refine iteF (r_next ?_)
      exact ⟨rfl, _, rfl⟩
    · rintro σ H2 ⟨rfl, v, rfl⟩
      walk_at "rd"
      exact q

theorem scLCall : FnScope ["_law_book", "_law_word", "_law_day", "_law_told"] ["_law_book", "_law_word", "_law_day", "_law_told"] (defScope sLCall) := ⟨rfl, rfl, rfl, by decide +kernel, rfl, by decide +kernel, by decide +kernel⟩
theorem ok_LCall {f : Addr} {fd : FuncData} {dV : Value} (F : FunD K "_law_call" "_law_call" sLCall f fd dV) (T : Txt K mg cB c_CostError c_Full c_NoClaim c_RoundOver c_TooLate c_Twice c_TooMuch c_NoRow c_Needed) (GBookDun : MtF P w K mg base (CX1 P w) cB "dun" 7 ["self", "day", "side"] [] (spDunU cB [c_Full, c_NoClaim, c_RoundOver, c_TooLate, c_Twice, c_TooMuch, c_NoRow])) (GBookPay : MtF P w K mg base (CX1 P w) cB "pay" 7 ["self", "day", "side", "person", "coins"] [] (spPayU cB [c_Full, c_NoClaim, c_RoundOver, c_TooLate, c_Twice, c_TooMuch, c_NoRow])) (GBookUndo : MtF P w K mg base (CX1 P w) cB "undo" 6 ["self", "row"] [] (spUndoU cB [c_Full, c_NoClaim, c_RoundOver, c_TooLate, c_Twice, c_TooMuch, c_NoRow])) : FnOk P w K mg base (CX1 P w) 8 f fd ["_law_book", "_law_word", "_law_day", "_law_told"] (spLCallU cB [c_Full, c_NoClaim, c_RoundOver, c_TooLate, c_Twice, c_TooMuch, c_NoRow]) := by
  refine F.okX scLCall (fun vs H Q E h => ?_) (fun cdv A outer s H vs Q E hr h => ?_)
  · obtain ⟨A0, C, es, dn, d, p, dd, rfl, ht, B, hn, hcs, hnum, ho, q, qe⟩ := h
    rfl
  · obtain ⟨A0, C, es, dn, d, p, dd, rfl, ht, B, hn, hcs, hnum, ho, q, qe⟩ := h
    refine ⟨_, (pss_cons (ps_if (pt_cmpR op_eq (pv 1) pe_str (nomark _)) (pss_one (ps_ret (pe_mt GBookPay T.cl hr (by decide) passX (pv 0) (pa_cons (pv 2) (pa_cons (pe_ix (ix_tupK K rfl) (pv 3) pe_int (fun _ _ => rfl)) (pa_cons (pe_ix (ix_tupK K rfl) (pv 3) pe_int (fun _ _ => rfl)) (pa_cons (pe_ix (ix_tupK K rfl) (pv 3) pe_int (fun _ _ => rfl)) pa_nil))))))) pss_nil)
      (pss_cons (ps_if (pt_cmpR op_eq (pv 1) pe_str (nomark _)) (pss_one (ps_ret (pe_mt GBookDun T.cl hr (by decide) passX (pv 0) (pa_cons (pv 2) (pa_cons (pe_ix (ix_tupK K rfl) (pv 3) pe_int (fun _ _ => rfl)) pa_nil))))) pss_nil)
      (pss_one (ps_ret (pe_mt GBookUndo T.cl hr (by decide) passX (pv 0) (pa_cons (pe_ix (ix_tupK K rfl) (pv 3) pe_int (fun _ _ => rfl)) pa_nil)))))), ?_⟩
    try dsimp only [cxOf]
    obtain ⟨⟨dx, h1⟩, _⟩ := id B
    have nox1 : (flds A0.pe A0.co A0.sp A0.ro A0.ca A0.we dn).lookup ("pay" : Str) = none := fl_no (by decide +kernel)
    have nox2 : (flds A0.pe A0.co A0.sp A0.ro A0.ca A0.we dn).lookup ("dun" : Str) = none := fl_no (by decide +kernel)
    have nox3 : (flds A0.pe A0.co A0.sp A0.ro A0.ca A0.we dn).lookup ("undo" : Str) = none := fl_no (by decide +kernel)
    cases dd with
    | pay s1 p1 c1 =>
      dsimp only [Du.word]
      have ht : H p = some (.tup [.int s1, .int p1, .int c1]) := ht
      walk_at "rd"
      refine r_meth (r_var rfl (r_methA h1 nox1 ?_))
      walk_at "rd"
      exact ⟨A0, C, es, dn, d, s1, p1, c1, rfl, B, hcs, hn, fun _ H' B' sb => q _ rfl _ B' sb, fun k e => by have z := e.symm.trans ho; cases z⟩
    | dun s1 =>
      dsimp only [Du.word]
      have ht : H p = some (.tup [.int s1]) := ht
      walk_at "rd"
      refine r_meth (r_var rfl (r_methA h1 nox2 ?_))
      walk_at "rd"
      exact ⟨A0, C, es, dn, d, s1, rfl, B, hcs, hn, fun _ H' B' sb => q _ rfl _ B' sb, fun k e => by have z := e.symm.trans ho; cases z⟩
    | undo i =>
      dsimp only [Du.word]
      have ht : H p = some (.tup [.int i]) := ht
      walk_at "rd"
      refine r_meth (r_var rfl (r_methA h1 nox3 ?_))
      walk_at "rd"
      refine ⟨A0, C, es, dn, i, rfl, B, hn, hnum, ho, fun ex H' B' sb => q _ ?_ _ B' sb, fun nex t H' s' ht' => qe ?_ t H' s' ht'⟩
      · exact if_pos ex
      · exact if_neg nex

theorem scLDo : FnScope ["_law_book", "_law_word", "_law_day", "_law_told", "e", "_law_kinds", "_law_words"] ["_law_book", "_law_word", "_law_day", "_law_told"] (defScope sLDo) := ⟨rfl, rfl, rfl, by decide +kernel, rfl, by decide +kernel, by decide +kernel⟩
theorem ok_LDo {f : Addr} {fd : FuncData} {dV : Value} (F : FunD K "_law_do" "_law_do" sLDo f fd dV) (T : Txt K mg cB c_CostError c_Full c_NoClaim c_RoundOver c_TooLate c_Twice c_TooMuch c_NoRow c_Needed) (GLCall : FnX P w K mg base "_law_call" 8 ["_law_book", "_law_word", "_law_day", "_law_told"] (spLCallU cB [c_Full, c_NoClaim, c_RoundOver, c_TooLate, c_Twice, c_TooMuch, c_NoRow])) : FnOk P w K mg base CX0 9 f fd ["_law_book", "_law_word", "_law_day", "_law_told"] (spDoU cB) := by
  refine F.ok scLDo (fun vs H Q E h => ?_) (fun cdv A outer s H vs Q E hr h => ?_)
  · obtain ⟨A0, C, es, dn, d, p, dd, rfl, ht, B, hn, hcs, hnum, ho, q, qe⟩ := h
    rfl
  · obtain ⟨A0, C, es, dn, d, p, dd, rfl, ht, B, hn, hcs, hnum, ho, q, qe⟩ := h
    refine ⟨_, (pss_cons (ps_try (i := 4) (Cs := [c_Full, c_NoClaim, c_RoundOver, c_TooLate, c_Twice, c_TooMuch, c_NoRow]) rfl scLDo.nd rfl rfl (by rfl) T.y_CostError T.xm (fun pn xe E hp => (pss_one (ps_ret (pe_tup (pa_cons pe_str (pa_cons (pe_fnX GLCall hr (by decide) hp (by rfl) (pa_cons (pv 0) (pa_cons (pv 1) (pa_cons (pv 2) (pa_cons (pv 3) pa_nil))))) pa_nil))))))
      (fun pn e C p oe hC hpn hcl => (pss_cons (ps_set (i := 5) scLDo.nd rfl (Or.inr rfl) (pe_lst (pa_cons (pe_callB (call_isiXK K rfl hpn hcl (T.xc _ hC)) (by rfl) T.b_isinstance PyProof.Rows.boot_isinstance (pa_cons (pv 4) (pa_cons (pe_globR (by rfl) T.y_Full) pa_nil))) (pa_cons (pe_callB (call_isiXK K rfl hpn hcl (T.xc _ hC)) (by rfl) T.b_isinstance PyProof.Rows.boot_isinstance (pa_cons (pv 4) (pa_cons (pe_globR (by rfl) T.y_NoClaim) pa_nil))) (pa_cons (pe_callB (call_isiXK K rfl hpn hcl (T.xc _ hC)) (by rfl) T.b_isinstance PyProof.Rows.boot_isinstance (pa_cons (pv 4) (pa_cons (pe_globR (by rfl) T.y_RoundOver) pa_nil))) (pa_cons (pe_callB (call_isiXK K rfl hpn hcl (T.xc _ hC)) (by rfl) T.b_isinstance PyProof.Rows.boot_isinstance (pa_cons (pv 4) (pa_cons (pe_globR (by rfl) T.y_TooLate) pa_nil))) pa_nil))))))
      (pss_one (ps_set (i := 5) scLDo.nd rfl (Or.inr rfl) (pe_op op_cat (pv 5) (pe_lst (pa_cons (pe_callB (call_isiXK K rfl hpn hcl (T.xc _ hC)) (by rfl) T.b_isinstance PyProof.Rows.boot_isinstance (pa_cons (pv 4) (pa_cons (pe_globR (by rfl) T.y_Twice) pa_nil))) (pa_cons (pe_callB (call_isiXK K rfl hpn hcl (T.xc _ hC)) (by rfl) T.b_isinstance PyProof.Rows.boot_isinstance (pa_cons (pv 4) (pa_cons (pe_globR (by rfl) T.y_TooMuch) pa_nil))) (pa_cons (pe_callB (call_isiXK K rfl hpn hcl (T.xc _ hC)) (by rfl) T.b_isinstance PyProof.Rows.boot_isinstance (pa_cons (pv 4) (pa_cons (pe_globR (by rfl) T.y_NoRow) pa_nil))) (pa_cons (pe_callB (call_isiXK K rfl hpn hcl (T.xc _ hC)) (by rfl) T.b_isinstance PyProof.Rows.boot_isinstance (pa_cons (pv 4) (pa_cons (pe_globR (by rfl) T.y_Needed) pa_nil))) pa_nil)))))))))))
      (pss_cons (ps_set (i := 6) scLDo.nd rfl (Or.inr rfl) (pe_lst (pa_cons pe_str (pa_cons pe_str (pa_cons pe_str (pa_cons pe_str (pa_cons pe_str (pa_cons pe_str (pa_cons pe_str (pa_cons pe_str pa_nil))))))))))
      (pss_one (ps_ret (pe_tup (pa_cons (pe_bm PySem.F.plainAttrs_str PySem.F.slot_str_join PySem.F.type_str_join mt_join pe_str (pa_cons (pe_comp ["_law_book", "_law_word", "_law_day", "_law_told", "e", "_law_kinds", "_law_words"] (defScope sLDo) 1 [6, 5] ["_law_k", "_law_words", "_law_kinds"] rfl (by decide +kernel) (pi_range1 (by rfl) T.b_range (pa_cons pe_int pa_nil)) (fun _ _ _ _ => (pg_name (i := 0) (show List.Nodup (["_law_k", "_law_words", "_law_kinds"] : List Str) by decide +kernel) rfl (Or.inl rfl))) (fun _ _ _ _ => (pts_one (pt_val (pe_ix (ix_listK K rfl) (pv 2) (pv 0) (fun _ _ => rfl))))) (fun _ _ _ _ => (pe_ix (ix_listK K rfl) (pv 1) (pv 0) (fun _ _ => rfl))) (by decide +kernel) (by decide +kernel) (by decide +kernel)) pa_nil)) (pa_cons pe_non pa_nil))))))), ?_⟩
    try dsimp only [cxOf]
    refine r_seq (r_try ?_)
    dsimp only
    refine r_ret (r_tup ?_)
    refine r_cons (r_c ?_)
    refine r_cons (r_callX ?_)
    refine r_cons (r_var rfl ?_)
    refine r_cons (r_var rfl ?_)
    refine r_cons (r_var rfl ?_)
    refine r_cons (r_var rfl (r_nil ?_))
    refine ⟨A0, C, es, dn, d, p, dd, rfl, ht, B, hn, hcs, hnum, ho, fun es' e H' B' sb => ?_, fun e t H' s' ht' => ?_⟩
    · refine r_nil ⟨by show 2 ≤ sizeLine; decide, fun g ng => ?_⟩
      exact q es' e g _ (B'.same (Same.new ng)) (sb.trans (Same.new ng).sameU) upd_same
    · refine ⟨_, t, rfl, rfl, by simp, fun x nx => ?_⟩
      have k0 : PySem.W.kitOne K (.ref c_NoRow) (.ref c_Full) = some (decide ((6 : Nat) = 0)) := T.k_NoRow_Full
      have k1 : PySem.W.kitOne K (.ref c_NoRow) (.ref c_NoClaim) = some (decide ((6 : Nat) = 1)) := T.k_NoRow_NoClaim
      have k2 : PySem.W.kitOne K (.ref c_NoRow) (.ref c_RoundOver) = some (decide ((6 : Nat) = 2)) := T.k_NoRow_RoundOver
      have k3 : PySem.W.kitOne K (.ref c_NoRow) (.ref c_TooLate) = some (decide ((6 : Nat) = 3)) := T.k_NoRow_TooLate
      have k4 : PySem.W.kitOne K (.ref c_NoRow) (.ref c_Twice) = some (decide ((6 : Nat) = 4)) := T.k_NoRow_Twice
      have k5 : PySem.W.kitOne K (.ref c_NoRow) (.ref c_TooMuch) = some (decide ((6 : Nat) = 5)) := T.k_NoRow_TooMuch
      have k6 : PySem.W.kitOne K (.ref c_NoRow) (.ref c_NoRow) = some (decide ((6 : Nat) = 6)) := kit_tt
      have k7 : PySem.W.kitOne K (.ref c_NoRow) (.ref c_Needed) = some (decide ((6 : Nat) = 7)) := T.k_NoRow_Needed
      refine r_seq (r_asg (r_lst ?_))
      refine r_cons (r_cb (r_cons (r_var rfl (r_cons (r_c (r_nil (r_isiX k0 ?_)))))))
      refine r_cons (r_cb (r_cons (r_var rfl (r_cons (r_c (r_nil (r_isiX k1 ?_)))))))
      refine r_cons (r_cb (r_cons (r_var rfl (r_cons (r_c (r_nil (r_isiX k2 ?_)))))))
      refine r_cons (r_cb (r_cons (r_var rfl (r_cons (r_c (r_nil (r_isiX k3 ?_)))))))
      refine r_nil ⟨by show 4 ≤ sizeLine; decide, fun l1 nl1 => r_name ?_⟩
      dsimp only
      refine r_asg (r_op (r_var rfl (r_lst ?_)))
      refine r_cons (r_cb (r_cons (r_var rfl (r_cons (r_c (r_nil (r_isiX k4 ?_)))))))
      refine r_cons (r_cb (r_cons (r_var rfl (r_cons (r_c (r_nil (r_isiX k5 ?_)))))))
      refine r_cons (r_cb (r_cons (r_var rfl (r_cons (r_c (r_nil (r_isiX k6 ?_)))))))
      refine r_cons (r_cb (r_cons (r_var rfl (r_cons (r_c (r_nil (r_isiX k7 ?_)))))))
      refine r_nil ⟨by show 4 ≤ sizeLine; decide, fun l2 nl2 => ?_⟩
      refine r_cat (Same.new nl2 _ _ upd_same) upd_same (by show 8 ≤ 1000; decide) fun l3 nl3 => r_name ?_
      refine r_unx ?_
      dsimp only
      refine r_seq (r_asg (r_lst ?_))
      refine r_cons (r_c (r_cons (r_c (r_cons (r_c (r_cons (r_c (r_cons (r_c (r_cons (r_c (r_cons (r_c (r_cons (r_c (r_nil ⟨by show 8 ≤ sizeLine; decide, fun l4 nl4 => r_name ?_⟩))))))))))))))))
      dsimp only
      have s1 := Same.new (o := .lst [.bl (decide ((6 : Nat) = 0)), .bl (decide ((6 : Nat) = 1)), .bl (decide ((6 : Nat) = 2)), .bl (decide ((6 : Nat) = 3))]) nl1
      have s2 := s1.trans (Same.new (o := .lst [.bl (decide ((6 : Nat) = 4)), .bl (decide ((6 : Nat) = 5)), .bl (decide ((6 : Nat) = 6)), .bl (decide ((6 : Nat) = 7))]) nl2)
      have s3 := s2.trans (Same.new (o := .lst ([.bl (decide ((6 : Nat) = 0)), .bl (decide ((6 : Nat) = 1)), .bl (decide ((6 : Nat) = 2)), .bl (decide ((6 : Nat) = 3))] ++ [.bl (decide ((6 : Nat) = 4)), .bl (decide ((6 : Nat) = 5)), .bl (decide ((6 : Nat) = 6)), .bl (decide ((6 : Nat) = 7))])) nl3)
      have c3 : _ = some (HO.lst ((List.range 8).map fun j => V.bl (decide ((6 : Nat) = j)))) := Same.new (o := .lst [.str "full", .str "no such claim", .str "round over", .str "too late", .str "twice", .str "too much", .str "no such row", .str "needed"]) nl4 _ _ upd_same
      have s4 := s3.trans (Same.new (o := .lst [.str "full", .str "no such claim", .str "round over", .str "too late", .str "twice", .str "too much", .str "no such row", .str "needed"]) nl4)
      refine r_ret (r_tup (r_cons (r_bm (r_c (r_ty (r_cons (r_comp (r_rng1 (r_cons (r_c (r_nil ⟨8, rfl, by decide, by decide, fun D nD => ?_⟩)))))))))))
      refine comp_rangeF (n := 8) (fun j => decide ((6 : Nat) = j)) (fun j => V.str ((["full", "no such claim", "round over", "too late", "twice", "too much", "no such row", "needed"] : List Str).getD j "")) nD (by decide) ?_ ?_ ?_
      · intro j H5 q5 hj sm kq
        refine r_tB (r_op (r_var rfl (r_var rfl (r_ixL (v := .bl (decide ((6 : Nat) = j))) (.of (sm _ _ c3)) ?_ ⟨_, rfl, kq _ (Same.refl _)⟩))))
        rw [Int.zero_add]
        exact atI_nat (by simp [hj])
      · intro j H5 q5 hj _ sm kq
        refine r_op (r_var rfl (r_var rfl (r_ixL (.of (sm _ _ upd_same)) ?_ (kq _ (Same.refl _)))))
        rw [Int.zero_add]
        have : j = 0 ∨ j = 1 ∨ j = 2 ∨ j = 3 ∨ j = 4 ∨ j = 5 ∨ j = 6 ∨ j = 7 := by omega
        rcases this with rfl | rfl | rfl | rfl | rfl | rfl | rfl | rfl <;> exact atI_nat rfl
      · intro H5 sm hD
        have ef : ((List.range 8).filter fun j => decide ((6 : Nat) = j)) = [6] := by rfl
        rw [ef] at hD
        refine r_nil (r_join (ts := [("no such row" : Str)]) (.of (by rw [hD]; rfl)) (by decide +kernel) ?_)
        refine r_cons (r_c (r_nil ⟨by show 2 ≤ sizeLine; decide, fun g ng => ?_⟩))
        refine qe e g _ ((s'.trans s4).trans (sm.trans (Same.new ng))) ?_
        rw [upd_same]
        rfl

theorem scLRight : FnScope ["_law_got", "_law_due", "_law_number"] ["_law_got", "_law_due", "_law_number"] (defScope sLRight) := ⟨rfl, rfl, rfl, by decide +kernel, rfl, by decide +kernel, by decide +kernel⟩
theorem ok_LRight {f : Addr} {fd : FuncData} {dV : Value} (F : FunD K "_law_right" "_law_right" sLRight f fd dV) (T : Txt K mg cB c_CostError c_Full c_NoClaim c_RoundOver c_TooLate c_Twice c_TooMuch c_NoRow c_Needed) (GLInt : Fn P w K mg base "_law_int" 1 ["_law_got"] (spInt)) : FnOk P w K mg base CX0 2 f fd ["_law_got", "_law_due", "_law_number"] (spRight) := by
  refine F.ok scLRight (fun vs H Q E h => ?_) (fun cdv A outer s H vs Q E hr h => ?_)
  · obtain ⟨g, z, v, n, rfl, hg, hz, q⟩ := h
    rfl
  · obtain ⟨g, z, v, n, rfl, hg, hz, q⟩ := h
    refine ⟨_, (pss_cons (ps_if (pt_cmpR op_ne (pv 1) pe_str (nomark _)) (pss_one (ps_ret (pe_cmpR op_eq (pe_ix (ix_tupK K rfl) (pv 0) pe_int (fun _ _ => rfl)) (pv 1) (nomark _)))) pss_nil)
      (pss_one (ps_ret (pe_and (pe_cmpR op_eq (pe_ix (ix_tupK K rfl) (pv 0) pe_int (fun _ _ => rfl)) pe_str (nomark _)) (pe_and (pe_fn GLInt hr (by decide) (by rfl) (pa_cons (pe_ix (ix_tupK K rfl) (pv 0) pe_int (fun _ _ => rfl)) pa_nil)) (pe_one (pe_cmpR op_eq (pe_ix (ix_tupK K rfl) (pv 0) pe_int (fun _ _ => rfl)) (pv 2) (nomark _)))))))), ?_⟩
    try dsimp only [cxOf]
    refine r_seq (r_ifS (r_test (r_op (r_var rfl (r_c (r_NeS ⟨_, rfl, ?_⟩))))))
    by_cases e : z = ""
    · subst e
      have hv := hz (by rfl)
      subst hv
      refine iteN (by simp) (r_next ?_)
      dsimp only
      refine r_ret (r_andV ?_)
      refine r_op (r_op (r_var rfl (r_c ?_)))
      refine r_ixT (.of hg) rfl (r_c ?_)
      refine r_EqS ⟨_, rfl, iteP (by simp) ?_⟩
      refine r_andV (r_callX ?_)
      refine r_cons (r_op (r_var rfl (r_c ?_)))
      refine r_ixT (.of hg) rfl (r_nil ?_)
      refine r_int ⟨true, rfl, iteT ?_⟩
      refine r_op (r_op (r_var rfl (r_c ?_)))
      refine r_ixT (.of hg) rfl (r_var rfl ?_)
      refine r_EqI ?_
      rw [decide_eq_true rfl]
      exact q
    · refine iteP (by simp [e]) ?_
      refine r_ret (r_op (r_op (r_var rfl (r_c ?_))))
      refine r_ixT (.of hg) rfl (r_var rfl ?_)
      refine r_EqS ?_
      rw [decide_eq_true rfl]
      exact q

theorem scLText : FnScope ["_law_word", "_law_day", "_law_told"] ["_law_word", "_law_day", "_law_told"] (defScope sLText) := ⟨rfl, rfl, rfl, by decide +kernel, rfl, by decide +kernel, by decide +kernel⟩
theorem ok_LText {f : Addr} {fd : FuncData} {dV : Value} (F : FunD K "_law_text" "_law_text" sLText f fd dV) (T : Txt K mg cB c_CostError c_Full c_NoClaim c_RoundOver c_TooLate c_Twice c_TooMuch c_NoRow c_Needed) : FnOk P w K mg base CX0 1 f fd ["_law_word", "_law_day", "_law_told"] (spLTextU) := by
  refine F.ok scLText (fun vs H Q E h => ?_) (fun cdv A outer s H vs Q E hr h => ?_)
  · obtain ⟨d, p, dd, n, rfl, ht, hf, q⟩ := h
    rfl
  · obtain ⟨d, p, dd, n, rfl, ht, hf, q⟩ := h
    refine ⟨_, (pss_one (ps_ret (pe_bm PySem.F.plainAttrs_str PySem.F.slot_str_join PySem.F.type_str_join mt_join pe_str (pa_cons (pe_op op_cat (pe_lst (pa_cons (pv 0) (pa_cons (pe_callTy (cb_strK K rfl (hu4 hr)) (by rfl) T.b_str PyProof.Rows.boot_str (pa_cons (pv 1) pa_nil)) pa_nil))) (pe_comp ["_law_word", "_law_day", "_law_told"] (defScope sLText) 1 [] ["_law_one"] rfl (by decide +kernel) (pi_tup (pv 2)) (fun _ _ _ _ => (pg_name (i := 0) (show List.Nodup (["_law_one"] : List Str) by decide +kernel) rfl (Or.inl rfl))) (fun _ _ _ _ => pts_nil) (fun _ _ _ _ => (pe_callTy (cb_strK K rfl (hu4 hr)) (by rfl) T.b_str PyProof.Rows.boot_str (pa_cons (pv 0) pa_nil))) (by decide +kernel) (by decide +kernel) (by decide +kernel))) pa_nil)))), ?_⟩
    try dsimp only [cxOf]
    cases dd with
    | pay sd pp co =>
      obtain ⟨f1, f2, f3, f4⟩ := hf
      have ht' : H p = some (.tup [.int sd, .int pp, .int co]) := ht
      walk_at "rd"
      refine r_ty ?_
      walk_at "rd"
      refine r_strI f1.log ?_
      walk_at "rd"
      rename_i p1 np1
      have s1 := Same.new (o := .lst [V.str "pay", V.str (ts d)]) np1
      refine r_itup (r_var rfl ⟨p, rfl, ⟨_, .of (s1 _ _ ht')⟩, fun D nD => ?_⟩)
      refine comp_tupF strV nD (.of (s1 _ _ ht')) (by show 3 ≤ 1000; decide) ?_ ?_
      · intro x H' q' hx sm k
        simp only [List.mem_cons, List.not_mem_nil, or_false] at hx
        rcases hx with rfl | rfl | rfl
        · exact r_cb (r_cons (r_var rfl (r_nil (r_strI f2.log (k _ (Same.refl _))))))
        · exact r_cb (r_cons (r_var rfl (r_nil (r_strI f3.log (k _ (Same.refl _))))))
        · exact r_cb (r_cons (r_var rfl (r_nil (r_strI f4.log (k _ (Same.refl _))))))
      · intro H' sm hD
        refine r_cat (xs := [V.str "pay", V.str (ts d)]) (sm _ _ upd_same) hD (by show 5 ≤ 1000; decide) fun l3 nl3 => r_nil ?_
        refine r_join (ts := [("pay" : Str), ts d, ts sd, ts pp, ts co]) (.of upd_same) (join_fit (fun y hy => ?_) (by show 5 ≤ 1000; decide)) (q _ ((s1.trans sm).trans (Same.new nl3)))
        simp only [List.mem_cons, List.not_mem_nil, or_false] at hy
        rcases hy with rfl | rfl | rfl | rfl | rfl
        · decide
        · exact ts_len f1
        · exact ts_len f2
        · exact ts_len f3
        · exact ts_len f4
    | dun sd =>
      obtain ⟨f1, f2⟩ := hf
      have ht' : H p = some (.tup [.int sd]) := ht
      walk_at "rd"
      refine r_ty ?_
      walk_at "rd"
      refine r_strI f1.log ?_
      walk_at "rd"
      rename_i p1 np1
      have s1 := Same.new (o := .lst [V.str "dun", V.str (ts d)]) np1
      refine r_itup (r_var rfl ⟨p, rfl, ⟨_, .of (s1 _ _ ht')⟩, fun D nD => ?_⟩)
      refine comp_tupF strV nD (.of (s1 _ _ ht')) (by show 1 ≤ 1000; decide) ?_ ?_
      · intro x H' q' hx sm k
        simp only [List.mem_cons, List.not_mem_nil, or_false] at hx
        rcases hx with rfl
        · exact r_cb (r_cons (r_var rfl (r_nil (r_strI f2.log (k _ (Same.refl _))))))
      · intro H' sm hD
        refine r_cat (xs := [V.str "dun", V.str (ts d)]) (sm _ _ upd_same) hD (by show 3 ≤ 1000; decide) fun l3 nl3 => r_nil ?_
        refine r_join (ts := [("dun" : Str), ts d, ts sd]) (.of upd_same) (join_fit (fun y hy => ?_) (by show 3 ≤ 1000; decide)) (q _ ((s1.trans sm).trans (Same.new nl3)))
        simp only [List.mem_cons, List.not_mem_nil, or_false] at hy
        rcases hy with rfl | rfl | rfl
        · decide
        · exact ts_len f1
        · exact ts_len f2
    | undo i => exact hf.elim

theorem scLaw : FnScope ["_law_script", "_law_book", "_law_cells", "_law_texts_here", "_law_gone", "_law_days", "_law_k", "_law_cell", "_law_other", "_law_last", "_law_side", "_law_word", "_law_told", "_law_day", "_law_row", "_law_bad", "_law_due", "_law_got"] ["_law_script"] (defScope sLaw) := ⟨rfl, rfl, rfl, by decide +kernel, rfl, by decide +kernel, by decide +kernel⟩
theorem ok_Law {f : Addr} {fd : FuncData} {dV : Value} (F : FunD K "law" "law" sLaw f fd dV) (T : Txt K mg cB c_CostError c_Full c_NoClaim c_RoundOver c_TooLate c_Twice c_TooMuch c_NoRow c_Needed) (GMk : MkF P w K mg base cB 1 ["self", "sides", "court", "speakers"] [] (spInitU K cB)) (GBookKeptD : MtF P w K mg base CX0 cB "kept" 2 ["self", "mark"] [.non] (spKeptU cB)) (GBookMark : MtF P w K mg base CX0 cB "mark" 1 ["self"] [] (spMarkU cB)) (GLDo : Fn P w K mg base "_law_do" 9 ["_law_book", "_law_word", "_law_day", "_law_told"] (spDoU cB)) (GLInt : Fn P w K mg base "_law_int" 1 ["_law_got"] (spInt)) (GLRight : Fn P w K mg base "_law_right" 2 ["_law_got", "_law_due", "_law_number"] (spRight)) (GLText : Fn P w K mg base "_law_text" 1 ["_law_word", "_law_day", "_law_told"] (spLTextU)) (GLTexts : Fn P w K mg base "_law_texts" 1 ["_law_got", "_law_due"] (spTexts K)) : FnOk P w K mg base CX0 10 f fd ["_law_script"] (spLaw K) := by
  refine F.ok scLaw (fun vs H Q E h => ?_) (fun cdv A outer s H vs Q E hr h => ?_)
  · obtain ⟨a, ns, rfl, hS, hl, q⟩ := h
    rfl
  · obtain ⟨a, ns, rfl, hS, hl, q⟩ := h
    refine ⟨_, (pss_cons (ps_set (i := 1) scLaw.nd rfl (Or.inl rfl) (pe_mk GMk hr (by decide) (by rfl) T.mgC (pa_cons (pe_lst (pa_cons pe_int (pa_cons pe_int (pa_cons pe_int pa_nil)))) (pa_cons (pe_lst (pa_cons (pe_tup (pa_cons pe_int (pa_cons pe_int pa_nil))) pa_nil)) (pa_cons (pe_lst (pa_cons (pe_tup (pa_cons pe_int (pa_cons pe_int pa_nil))) pa_nil)) pa_nil)))))
      (pss_cons (ps_set (i := 2) scLaw.nd rfl (Or.inl rfl) (pe_slice sl_list (pv 0) po_none (po_some pe_int)))
      (pss_cons (ps_set (i := 3) scLaw.nd rfl (Or.inr rfl) (pe_lst pa_nil))
      (pss_cons (ps_set (i := 4) scLaw.nd rfl (Or.inr rfl) (pe_lst pa_nil))
      (pss_cons (ps_set (i := 5) scLaw.nd rfl (Or.inr rfl) (pe_lst pa_nil))
      (pss_cons (ps_for PassesOwn.never rfl (pi_range1 (by rfl) T.b_range (pa_cons (pe_callB (cb_lenK K rfl) (by rfl) T.b_len PySem.boot_len (pa_cons (pv 2) pa_nil)) pa_nil)) (pg_name (i := 6) scLaw.nd rfl (Or.inl rfl)) (pss_cons (ps_set (i := 7) scLaw.nd rfl (Or.inl rfl) (pe_op op_fdivB (pe_ix (ix_listK K rfl) (pv 2) (pv 6) (fun _ _ => rfl)) pe_int))
      (pss_cons (ps_set (i := 8) scLaw.nd rfl (Or.inl rfl) (pe_ix (ix_listK K rfl) (pv 2) (pe_op op_sub (pe_op op_sub (pe_callB (cb_lenK K rfl) (by rfl) T.b_len PySem.boot_len (pa_cons (pv 2) pa_nil)) pe_int) (pv 6)) (fun _ _ => rfl)))
      (pss_cons (ps_set (i := 9) scLaw.nd rfl (Or.inl rfl) (pe_ix (ix_listK K rfl) (pe_op op_cat (pe_lst (pa_cons pe_int pa_nil)) (pe_comp ["_law_script", "_law_book", "_law_cells", "_law_texts_here", "_law_gone", "_law_days", "_law_k", "_law_cell", "_law_other", "_law_last", "_law_side", "_law_word", "_law_told", "_law_day", "_law_row", "_law_bad", "_law_due", "_law_got"] (defScope sLaw) 1 [5, 4] ["_law_j", "_law_days", "_law_gone"] rfl (by decide +kernel) (pi_range1 (by rfl) T.b_range (pa_cons (pe_callB (cb_lenK K rfl) (by rfl) T.b_len PySem.boot_len (pa_cons (pv 5) pa_nil)) pa_nil)) (fun _ _ _ _ => (pg_name (i := 0) (show List.Nodup (["_law_j", "_law_days", "_law_gone"] : List Str) by decide +kernel) rfl (Or.inl rfl))) (fun _ _ _ _ => (pts_one (pt_cmpR (op_notIn_seqK K rfl) (pv 0) (pv 2) (by with_unfolding_all rfl)))) (fun _ _ _ _ => (pe_ix (ix_listK K rfl) (pv 1) (pv 0) (fun _ _ => rfl))) (by decide +kernel) (by decide +kernel) (by decide +kernel))) (pe_un un_neg pe_int) (fun _ _ => rfl)))
      (pss_one (ps_if (pt_cmpR op_eq (pe_op op_mod (pe_ix (ix_listK K rfl) (pv 2) (pv 6) (fun _ _ => rfl)) pe_int) pe_int (nomark _)) (pss_cons (ps_set (i := 10) scLaw.nd rfl (Or.inl rfl) (pe_op op_mod (pv 7) pe_int))
      (pss_cons (ps_set (i := 11) scLaw.nd rfl (Or.inl rfl) (pe_ix (ix_listK K rfl) (pe_lst (pa_cons pe_str (pa_cons pe_str pa_nil))) (pe_op op_mod (pe_op op_fdivB (pe_ix (ix_listK K rfl) (pv 2) (pv 6) (fun _ _ => rfl)) pe_int) pe_int) (fun _ _ => rfl)))
      (pss_cons (ps_set (i := 12) scLaw.nd rfl (Or.inl rfl) (pe_ix (ix_listK K rfl) (pe_lst (pa_cons (pe_tup (pa_cons (pv 10) (pa_cons (pe_op op_mod (pe_op op_fdivB (pv 7) pe_int) (pe_op op_add (pv 10) pe_int)) (pa_cons (pe_op op_mod (pe_op op_fdivB (pv 8) pe_int) (pe_op op_pow pe_int pe_int)) pa_nil)))) (pa_cons (pe_tup (pa_cons (pv 10) pa_nil)) pa_nil))) (pe_op op_mod (pe_op op_fdivB (pe_ix (ix_listK K rfl) (pv 2) (pv 6) (fun _ _ => rfl)) pe_int) pe_int) (fun _ _ => rfl)))
      (pss_cons (ps_set (i := 13) scLaw.nd rfl (Or.inl rfl) (pe_op op_add (pv 9) (pe_op op_mul pe_int (pe_op op_mod (pv 8) pe_int))))
      (pss_cons (ps_if (pt_not (pt_val (pe_fn GLRight hr (by decide) (by rfl) (pa_cons (pe_fn GLDo hr (by decide) (by rfl) (pa_cons (pv 1) (pa_cons (pv 11) (pa_cons (pv 13) (pa_cons (pv 12) pa_nil))))) (pa_cons pe_str (pa_cons (pe_callB (cb_lenK K rfl) (by rfl) T.b_len PySem.boot_len (pa_cons (pv 3) pa_nil)) pa_nil)))))) (pss_one (ps_ret pe_bl)) pss_nil)
      (pss_cons (ps_expr (pe_bm PySem.F.plainAttrs_list PySem.F.slot_list_append PySem.F.type_list_append mt_append (pv 5) (pa_cons (pv 13) pa_nil)))
      (pss_one (ps_expr (pe_bm PySem.F.plainAttrs_list PySem.F.slot_list_append PySem.F.type_list_append mt_append (pv 3) (pa_cons (pe_fn GLText hr (by decide) (by rfl) (pa_cons (pv 11) (pa_cons (pv 13) (pa_cons (pv 12) pa_nil)))) pa_nil)))))))))) (pss_cons (ps_set (i := 14) scLaw.nd rfl (Or.inl rfl) (pe_op op_sub (pe_op op_mod (pv 8) (pe_op op_add (pe_callB (cb_lenK K rfl) (by rfl) T.b_len PySem.boot_len (pa_cons (pv 3) pa_nil)) pe_int)) pe_int))
      (pss_cons (ps_set (i := 15) scLaw.nd rfl (Or.inl rfl) (pe_or (pe_cmpR op_lt (pv 14) pe_int (nomark _)) (pe_or (pe_cmpR op_ge (pv 14) (pe_callB (cb_lenK K rfl) (by rfl) T.b_len PySem.boot_len (pa_cons (pv 3) pa_nil)) (nomark _)) (pe_one (pe_cmpR op_in_seq (pv 14) (pv 4) (by with_unfolding_all rfl))))))
      (pss_cons (ps_set (i := 16) scLaw.nd rfl (Or.inl rfl) (pe_ix (ix_listK K rfl) (pe_lst (pa_cons pe_str (pa_cons pe_str pa_nil))) (pe_callTy cb_int (by rfl) T.b_int PyProof.Rows.boot_int (pa_cons (pv 15) pa_nil)) (fun _ _ => rfl)))
      (pss_cons (ps_if (pt_not (pt_val (pe_fn GLRight hr (by decide) (by rfl) (pa_cons (pe_fn GLDo hr (by decide) (by rfl) (pa_cons (pv 1) (pa_cons pe_str (pa_cons pe_int (pa_cons (pe_tup (pa_cons (pv 14) pa_nil)) pa_nil))))) (pa_cons (pv 16) (pa_cons (pv 14) pa_nil)))))) (pss_one (ps_ret pe_bl)) pss_nil)
      (pss_one (ps_if (pt_cmpR op_eq (pv 16) pe_str (nomark _)) (pss_one (ps_expr (pe_bm PySem.F.plainAttrs_list PySem.F.slot_list_append PySem.F.type_list_append mt_append (pv 4) (pa_cons (pv 14) pa_nil)))) pss_nil))))))))))))
      (pss_cons (ps_set (i := 17) scLaw.nd rfl (Or.inl rfl) (pe_mt0 GBookMark T.cl hr (by decide) pass0 (pv 1)))
      (pss_cons (ps_if (PW.pt (pw_or (pt_not (pt_val (pe_fn GLInt hr (by decide) (by rfl) (pa_cons (pv 17) pa_nil)))) (pw_or1 (pt_cmpR op_ne (pv 17) (pe_op op_add (pe_callB (cb_lenK K rfl) (by rfl) T.b_len PySem.boot_len (pa_cons (pv 3) pa_nil)) (pe_callB (cb_lenK K rfl) (by rfl) T.b_len PySem.boot_len (pa_cons (pv 4) pa_nil))) (nomark _))))) (pss_one (ps_ret pe_bl)) pss_nil)
      (pss_one (ps_ret (pe_fn GLTexts hr (by decide) (by rfl) (pa_cons (pe_mt0 GBookKeptD T.cl hr (by decide) pass0 (pv 1)) (pa_cons (pe_comp ["_law_script", "_law_book", "_law_cells", "_law_texts_here", "_law_gone", "_law_days", "_law_k", "_law_cell", "_law_other", "_law_last", "_law_side", "_law_word", "_law_told", "_law_day", "_law_row", "_law_bad", "_law_due", "_law_got"] (defScope sLaw) 1 [3, 4] ["_law_j", "_law_texts_here", "_law_gone"] rfl (by decide +kernel) (pi_range1 (by rfl) T.b_range (pa_cons (pe_callB (cb_lenK K rfl) (by rfl) T.b_len PySem.boot_len (pa_cons (pv 3) pa_nil)) pa_nil)) (fun _ _ _ _ => (pg_name (i := 0) (show List.Nodup (["_law_j", "_law_texts_here", "_law_gone"] : List Str) by decide +kernel) rfl (Or.inl rfl))) (fun _ _ _ _ => (pts_one (pt_cmpR (op_notIn_seqK K rfl) (pv 0) (pv 2) (by with_unfolding_all rfl)))) (fun _ _ _ _ => (pe_ix (ix_listK K rfl) (pv 1) (pv 0) (fun _ _ => rfl))) (by decide +kernel) (by decide +kernel) (by decide +kernel)) pa_nil))))))))))))), ?_⟩
    try dsimp only [cxOf]
    refine r_seq (r_asg (r_make ?_))
    walk_at "rd"
    rename_i p1 np1 p2 np2 p3 np3 p4 np4 p5 np5
    refine fun b dx nb nd bd => ?_
    have c1 := Same.new (o := .lst [V.ref p4]) np5 _ _ (Same.new (o := .tup [V.int 10, V.int 4]) np4 _ _ (Same.new (o := .lst [V.ref p2]) np3 _ _ (Same.new (o := .tup [V.int 10, V.int 3]) np2 _ _ (upd_same (H := H) (a := p1) (o := HO.lst [V.int 1, V.int 2, V.int 3])))))
    have c2 := Same.new (o := .lst [V.ref p4]) np5 _ _ (Same.new (o := .tup [V.int 10, V.int 4]) np4 _ _ (Same.new (o := .lst [V.ref p2]) np3 _ _ (upd_same (a := p2) (o := HO.tup [V.int 10, V.int 3]) (H := upd H p1 (HO.lst [V.int 1, V.int 2, V.int 3])))))
    have c3 := Same.new (o := .lst [V.ref p4]) np5 _ _ (Same.new (o := .tup [V.int 10, V.int 4]) np4 _ _ (upd_same (a := p3) (o := HO.lst [V.ref p2]) (H := upd (upd H p1 (HO.lst [V.int 1, V.int 2, V.int 3])) p2 (HO.tup [V.int 10, V.int 3]))))
    have c4 := Same.new (o := .lst [V.ref p4]) np5 _ _ (upd_same (a := p4) (o := HO.tup [V.int 10, V.int 4]) (H := upd (upd (upd H p1 (HO.lst [V.int 1, V.int 2, V.int 3])) p2 (HO.tup [V.int 10, V.int 3])) p3 (HO.lst [V.ref p2])))
    have s5 := ((((Same.new (o := .lst [V.int 1, V.int 2, V.int 3]) np1).trans (Same.new (o := .tup [V.int 10, V.int 3]) np2)).trans (Same.new (o := .lst [V.ref p2]) np3)).trans (Same.new (o := .tup [V.int 10, V.int 4]) np4)).trans (Same.new (o := .lst [V.ref p4]) np5)
    have c5 := upd_at (o := .lst [V.ref p4]) np5
    generalize upd (upd (upd (upd (upd H p1 (HO.lst [V.int 1, V.int 2, V.int 3])) p2 (HO.tup [V.int 10, V.int 3])) p3 (HO.lst [V.ref p2])) p4 (HO.tup [V.int 10, V.int 4])) p5 (HO.lst [V.ref p4]) = H5 at nb nd c1 c2 c3 c4 c5 s5 ⊢
    have g5 : ∀ {x : Addr} {o : HO}, H5 x = some o → upd (upd H5 dx (.own b)) b (.ins cB dx []) x = some o := fun {x o} e => by
      rw [upd_ne (ne_of_none e nb), upd_ne (ne_of_none e nd)]
      exact e
    refine ⟨b, p1, p3, p5, dx, [1, 2, 3], [p2], [[10, 3]], [p4], [[10, 4]], rfl, upd_same, .of (g5 c1), .of (g5 c3), TabIs.nil.snoc (g5 c2), .of (g5 c5), TabIs.nil.snoc (g5 c4), ne_of_none c1 nb, ne_of_none c3 nb, ne_of_none c5 nb, fun A0 H7 eb B0 fr kp => ⟨rfl, ?_⟩⟩
    subst eb
    have s57 : Same H5 H7 := fun x o e => kp x o (g5 e) (ne_of_none e nb)
    have s7 : Same H H7 := s5.trans s57
    have f5' : ∀ {x : Addr}, upd (upd H5 dx (.own A0.b)) A0.b (.ins cB dx []) x = none → H5 x = none := fun {x} e => by
      cases z : H5 x with
      | none => rfl
      | some o => rw [g5 z] at e; cases e
    have fr0 : ∀ x ∈ A0.all, H x = none := fun x hx => by
      by_cases e : x = A0.b
      · rw [e]; exact s5.nil nb
      · exact s5.nil (f5' (fr x hx e))
    have sU : ∀ {Ha Hb : Hp}, Same H Ha → SameU A0 Ha Hb → Same H Hb := fun {Ha Hb} s u x o e => u x o (s x o e) (fun z => by rw [fr0 x (by rw [z]; simp [BkA.all])] at e; cases e) (fun z => by rw [fr0 x (by rw [z]; simp [BkA.all])] at e; cases e) (fun z => by rw [fr0 x (by rw [z]; simp [BkA.all])] at e; cases e) (fun z => by rw [fr0 x (by rw [z]; simp [BkA.all])] at e; cases e)
    refine r_name ?_
    dsimp only
    refine r_seq (r_asg (r_sl (r_var rfl (r_noPart (r_part (r_c (r_exI ?_)))))))
    refine r_slLE (s7.seq hS) fun ce nce => r_name ?_
    dsimp only
    obtain ⟨cs, ec, lc'⟩ := cut_ints (ns := ns) (lo := none) (hi := some 45)
    have lc : cs.length ≤ 63 := Nat.le_trans lc' hl
    rw [ec]
    have sc := Same.new (o := .lst (List.map V.int cs)) nce
    have hce := upd_at (o := .lst (List.map V.int cs)) nce
    have B1 := B0.same sc
    have oce := B0.out nce
    generalize upd H7 ce (.lst (List.map V.int cs)) = H8 at sc hce B1 ⊢
    have s8 := s7.trans sc
    refine r_seq (r_asg (r_lst (r_nil ⟨by show 0 ≤ sizeLine; decide, fun tl ntl => r_name ?_⟩)))
    have st := Same.new (o := .lst []) ntl
    have htl := upd_at (o := .lst []) ntl
    have otl := B1.out ntl
    have B2 := B1.same st
    have ct := ne_of_none hce ntl
    have ntl0 := s8.nil ntl
    generalize upd H8 tl (.lst []) = H9 at st htl B2 ⊢
    have s9 := s8.trans st
    have hce9 := st _ _ hce
    dsimp only
    refine r_seq (r_asg (r_lst (r_nil ⟨by show 0 ≤ sizeLine; decide, fun gl ngl => r_name ?_⟩)))
    have sg := Same.new (o := .lst []) ngl
    have hgl := upd_at (o := .lst []) ngl
    have ogl := B2.out ngl
    have B3 := B2.same sg
    have cg := ne_of_none hce9 ngl
    have tg := ne_of_none htl ngl
    have ngl0 := s9.nil ngl
    generalize upd H9 gl (.lst []) = H10 at sg hgl B3 ⊢
    have s10 := s9.trans sg
    have hce10 := sg _ _ hce9
    have htl10 := sg _ _ htl
    dsimp only
    refine r_seq (r_asg (r_lst (r_nil ⟨by show 0 ≤ sizeLine; decide, fun dl ndl => r_name ?_⟩)))
    have sd := Same.new (o := .lst []) ndl
    have hdl := upd_at (o := .lst []) ndl
    have odl := B3.out ndl
    have B4 := B3.same sd
    have cd := ne_of_none hce10 ndl
    have td := ne_of_none htl10 ndl
    have gd := ne_of_none hgl ndl
    have ndl0 := s10.nil ndl
    generalize upd H10 dl (.lst []) = H11 at sd hdl B4 ⊢
    have s11 := s10.trans sd
    have hce11 := sd _ _ hce10
    have htl11 := sd _ _ htl10
    have hgl11 := sd _ _ hgl
    dsimp only
    refine r_seq (r_for (r_rng1 (r_cons (r_cb (r_cons (r_var rfl (r_nil (r_lenL (.of hce11) ?_))))))))
    refine r_nil ⟨_, rfl, by rw [List.length_map]; omega, by rw [List.length_map]; omega, ?_⟩
    refine for_range (fun i σ H2 => ∃ (es : List En) (dn : Int) (gone : List Int) (v6 v7 v8 v9 v10 v11 v12 v13 v14 v15 v16 v17 : Option V),
      σ = [some (.ref a), some (.ref A0.b), some (.ref ce), some (.ref tl), some (.ref gl), some (.ref dl), v6, v7, v8, v9, v10, v11, v12, v13, v14, v15, v16, v17] ∧
      Same H H2 ∧ BuAt cB H2 A0 ⟨[1, 2, 3], [[10, 3]], [[10, 4]]⟩ es dn ∧ H2 ce = some (.lst (List.map V.int cs)) ∧ H2 tl = some (.lst (List.map V.str (es.map fun e => textU e.row))) ∧ H2 gl = some (.lst (List.map V.int gone)) ∧ H2 dl = some (.lst (List.map V.int (es.map fun e => e.row.day))) ∧ S19 es dn gone ∧ es.length ≤ i ∧ gone.length ≤ i) ?_ ?_ ?_
    · exact ⟨[], 0, [], _, _, _, _, _, _, _, _, _, _, _, _, rfl, s11, B4, hce11, htl11, hgl11, hdl, S19.nil, Nat.le_refl _, Nat.le_refl _⟩
    · rintro i σ H2 hi ⟨es, dn, gone, v6, v7, v8, v9, v10, v11, v12, v13, v14, v15, v16, v17, rfl, s2, B, hce, htl, hgl, hdl, S, hn, hg⟩
      have hi : i < cs.length := by rw [List.length_map] at hi; omega
      have ll : ((List.map V.int cs).length : Int) = (cs.length : Int) := by rw [List.length_map]
      have ax : atI (List.map V.int cs) (0 + (i : Int)) = some (V.int (cs.getD (0 + (i : Int)).toNat 0)) := atI_ints (by omega) (by omega)
      generalize cs.getD (0 + (i : Int)).toNat 0 = cv at ax
      refine r_name ?_
      dsimp only
      refine r_seq (r_asg (r_op (r_op (r_var rfl (r_var rfl (r_ixL (.of hce) ax (r_c (r_I (show CDivB cv 4 from ⟨by decide, by decide⟩) (r_name ?_)))))))))
      dsimp only
      refine r_seq (r_asg (r_op (r_var rfl (r_op (r_op (r_cb (r_cons (r_var rfl (r_nil (r_lenL (.of hce) (r_c (r_I0 (r_var rfl (r_I0 ?_))))))))))))))
      rw [ll]
      refine r_ixL (.of hce) (atI_ints (by omega) (by omega)) (r_name ?_)
      dsimp only
      generalize cs.getD ((cs.length : Int) - 1 - (0 + (i : Int))).toNat 0 = ot
      refine r_seq (r_asg (r_op (r_op (r_lst (r_cons (r_c (r_nil ⟨by show 1 ≤ sizeLine; decide, fun p6 np6 => ?_⟩)))))))
      have s6 := Same.new (o := .lst [V.int 0]) np6
      have h6 := upd_at (o := .lst [V.int 0]) np6
      generalize upd H2 p6 (.lst [V.int 0]) = H6 at s6 h6 ⊢
      refine r_comp (r_rng1 (r_cons (r_cb (r_cons (r_var rfl (r_nil (r_lenL (.of (s6 _ _ hdl)) ?_)))))))
      rw [List.length_map, List.length_map]
      refine r_nil ⟨es.length, rfl, by omega, by omega, fun D nD => ?_⟩
      refine comp_rangeF (n := es.length) (fun j => decide ((j : Int) ∉ gone)) (fun j => V.int (es.getD j default).row.day) nD (by omega) ?_ ?_ ?_
      · intro j H5 q5 hj sm kq
        refine r_test (r_op (r_var rfl (r_var rfl ?_)))
        refine ⟨_, _, rfl, .inl (.of (sm _ _ (s6 _ _ hgl))), rfl, flat_ints, ⟨_, rfl, ?_⟩⟩
        rw [inV_ints, Int.zero_add]
        have kq := kq _ (Same.refl _)
        rw [show decide ((j : Int) ∉ gone) = !decide ((j : Int) ∈ gone) by simp] at kq
        exact kq
      · intro j H5 q5 hj _ sm kq
        refine r_op (r_var rfl (r_var rfl (r_ixL (.of (sm _ _ (s6 _ _ hdl))) ?_ (kq _ (Same.refl _)))))
        rw [Int.zero_add]
        exact atI_nat (by simp [hj])
      intro H3 s3 hD
      have lcat : [V.int 0].length + ((((List.range es.length).filter fun (j : Nat) => decide ((j : Int) ∉ gone)).map fun j => V.int (es.getD j default).row.day)).length ≤ 1000 := by
        have := List.length_filter_le (fun (j : Nat) => decide ((j : Int) ∉ gone)) (List.range es.length)
        rw [List.length_range] at this
        rw [List.length_map, List.length_singleton]
        omega
      refine r_cat (xs := [V.int 0]) (s3 _ _ h6) hD lcat fun p7 np7 => ?_
      have el : [V.int 0] ++ (((List.range es.length).filter fun (j : Nat) => decide ((j : Int) ∉ gone)).map fun j => V.int (es.getD j default).row.day) = List.map V.int ((0 : Int) :: (liveE es).map Rw.day) := by
        rw [S.by_place Rw.day, List.map_cons, List.map_map]
        rfl
      rw [el]
      refine r_un (r_c (r_U ?_))
      refine r_ixL (.of upd_same) (atI_ints_last (ns := (0 : Int) :: (liveE es).map Rw.day) (by simp)) (r_name ?_)
      dsimp only
      have sA := (s6.trans s3).trans (Same.new (o := .lst (List.map V.int ((0 : Int) :: (liveE es).map Rw.day))) np7)
      have elast : ((0 : Int) :: (liveE es).map Rw.day).getLast (by simp) = lastD (liveE es) := rfl
      rw [elast]
      generalize upd H3 p7 (.lst (List.map V.int ((0 : Int) :: (liveE es).map Rw.day))) = HA at sA ⊢
      have lb := S.last_b
      refine r_ifS (r_test (r_op (r_op (r_op (r_var rfl (r_var rfl (r_ixL (.of (sA _ _ hce)) ax (r_c (r_I (show (0 : Int) < 2 by decide) (r_c (r_EqI ⟨_, rfl, ?_⟩)))))))))))
      refine ite2 (fun _ => ?_) (fun _ => ?_)
      · refine r_seq (r_asg (r_op (r_var rfl (r_c (r_I (show (0 : Int) < 3 by decide) (r_name ?_))))))
        dsimp only
        have ax2 : cv / 2 % 2 = 0 ∨ cv / 2 % 2 = 1 := by omega
        refine r_seq (r_asg (r_op (r_lst (r_cons (r_c (r_cons (r_c (r_nil ⟨by show 2 ≤ sizeLine; decide, fun p8 np8 => ?_⟩))))))))
        have s8 := sA.trans (Same.new (o := .lst [V.str "pay", V.str "dun"]) np8)
        have h8 := upd_at (o := .lst [V.str "pay", V.str "dun"]) np8
        generalize upd HA p8 (.lst [V.str "pay", V.str "dun"]) = H8' at s8 h8 ⊢
        refine r_op (r_op (r_op (r_var rfl (r_var rfl (r_ixL (.of (s8 _ _ hce)) ax (r_c (r_I (show CDivB cv 2 from ⟨by decide, by decide⟩) (r_c (r_I (show (0 : Int) < 2 by decide) ?_)))))))))
        refine r_ixL (v := .str (if cv / 2 % 2 = 0 then "pay" else "dun")) (.of h8) (by rcases ax2 with e | e <;> rw [e] <;> rfl) (r_name ?_)
        dsimp only
        refine r_seq (r_asg (r_op (r_lst (r_cons (r_tup ?_)))))
        refine r_cons (r_var rfl ?_)
        refine r_cons (r_op ?_)
        refine r_op (r_var rfl (r_c (r_I (show CDivB (cv / 4) 3 from ⟨by decide, by decide⟩) ?_)))
        refine r_op (r_var rfl (r_c (r_I0 (r_I (show (0 : Int) < cv / 4 % 3 + 1 by omega) ?_))))
        refine r_cons (r_op ?_)
        refine r_op (r_var rfl (r_c (r_I (show CDivB ot 2 from ⟨by decide, by decide⟩) ?_)))
        refine r_op (r_c (r_c (r_I (show CPow 10 10 from ⟨by decide, by decide, by decide⟩) (r_I (show (0 : Int) < 10 ^ (10 : Int).toNat by decide) ?_))))
        refine r_nil ⟨by show 3 ≤ sizeLine; decide, fun u1 nu1 => ?_⟩
        have bp : 0 ≤ cv / 4 / 3 % (cv / 4 % 3 + 1) ∧ cv / 4 / 3 % (cv / 4 % 3 + 1) ≤ 2 := by
          have h1 := Int.emod_nonneg (cv / 4 / 3) (show cv / 4 % 3 + 1 ≠ 0 by omega)
          have h2 := Int.emod_lt_of_pos (cv / 4 / 3) (show 0 < cv / 4 % 3 + 1 by omega)
          omega
        have bc : 0 ≤ ot / 2 % 10 ^ (10 : Int).toNat ∧ ot / 2 % 10 ^ (10 : Int).toNat ≤ 10000000000 := by
          have e : (10 : Int) ^ (10 : Int).toNat = 10000000000 := by decide
          rw [e]
          omega
        have bs : 0 ≤ cv / 4 % 3 ∧ cv / 4 % 3 ≤ 2 := by omega
        generalize cv / 4 / 3 % (cv / 4 % 3 + 1) = pp at bp nu1 ⊢
        generalize ot / 2 % 10 ^ (10 : Int).toNat = co at bc nu1 ⊢
        generalize cv / 4 % 3 = sd at bs nu1 ⊢
        have t1 := Same.new (o := .tup [V.int sd, V.int pp, V.int co]) nu1
        have hu1 := upd_at (o := .tup [V.int sd, V.int pp, V.int co]) nu1
        generalize upd H8' u1 (.tup [V.int sd, V.int pp, V.int co]) = H12 at t1 hu1 ⊢
        refine r_cons (r_tup (r_cons (r_var rfl (r_nil ⟨by show 1 ≤ sizeLine; decide, fun u2 nu2 => ?_⟩))))
        have t2 := Same.new (o := .tup [V.int sd]) nu2
        have hu2 := upd_at (o := .tup [V.int sd]) nu2
        generalize upd H12 u2 (.tup [V.int sd]) = H13 at t2 hu2 ⊢
        refine r_nil ⟨by show 2 ≤ sizeLine; decide, fun u3 nu3 => ?_⟩
        have t3 := Same.new (o := .lst [V.ref u1, V.ref u2]) nu3
        have hu3 := upd_at (o := .lst [V.ref u1, V.ref u2]) nu3
        have hu1' := t3 _ _ (t2 _ _ hu1)
        have hu2' := t3 _ _ hu2
        have s14 := ((s8.trans t1).trans t2).trans t3
        generalize upd H13 u3 (.lst [V.ref u1, V.ref u2]) = H14 at t3 hu3 hu1' hu2' s14 ⊢
        refine r_op (r_op (r_op (r_var rfl (r_var rfl (r_ixL (.of (s14 _ _ hce)) ax (r_c (r_I (show CDivB cv 2 from ⟨by decide, by decide⟩) (r_c (r_I (show (0 : Int) < 2 by decide) ?_)))))))))
        obtain ⟨dd, tt, ew, et, hto, hun⟩ : ∃ (dd : Du) (tt : Addr), (if cv / 2 % 2 = 0 then ("pay" : Str) else "dun") = dd.word ∧ atI [V.ref u1, V.ref u2] (cv / 2 % 2) = some (V.ref tt) ∧ ToldU H14 tt dd ∧ (dd = .pay sd pp co ∨ dd = .dun sd) := by
          rcases ax2 with e | e
          · exact ⟨.pay sd pp co, u1, by rw [if_pos e]; rfl, by rw [e]; rfl, hu1', .inl rfl⟩
          · exact ⟨.dun sd, u2, by rw [if_neg (by omega)]; rfl, by rw [e]; rfl, hu2', .inr rfl⟩
        refine r_ixL (.of hu3) et (r_name ?_)
        dsimp only
        rw [ew]
        have hLb : 0 ≤ lastD (liveE es) ∧ lastD (liveE es) ≤ 200 := by omega
        have hfit : ∀ d : Int, 0 ≤ d → d ≤ 300 → FitU (dd.row es.length d) := fun d d0 d1 => by
          have sm : Small d := Small.of (by omega) (by omega)
          have sm2 : Small sd := Small.of (by omega) (by omega)
          rcases hun with rfl | rfl
          · exact ⟨sm, sm2, Small.of (by omega) (by omega), Small.of (by omega) (by omega)⟩
          · exact ⟨sm, sm2⟩
        have hdo : ∀ d : Int, doU es dn d dd = some (es ++ [⟨dd.row es.length d, dn + 1, none⟩]) := fun d => by rcases hun with rfl | rfl <;> rfl
        have hok : ∀ d : Int, 0 ≤ d → d ≤ 300 → lastD (liveE es) ≤ d → OkU es dn d dd := fun d d0 d1 dl => by
          have : refuseR (roundsR (keptE es dn)) (lastR (keptE es dn)) es.length (dd.row es.length d) = none := by
            refine refuse_pd (hfit d d0 d1) (by omega) ?_
            rw [S.kept]
            exact late_D (by rcases hun with rfl | rfl <;> exact dl)
          rcases hun with rfl | rfl <;> exact this
        have hday : ∀ d : Int, (dd.row es.length d).day = d := fun d => by rcases hun with rfl | rfl <;> rfl
        have hnumr : ∀ d : Int, (dd.row es.length d).num = es.length := fun d => by rcases hun with rfl | rfl <;> rfl
        have hret : retU es dd = es.length := by rcases hun with rfl | rfl <;> rfl
        have hnu : (match dd with | .undo _ => False | dd => True) := by rcases hun with rfl | rfl <;> trivial
        refine r_seq (r_asg (r_op (r_var rfl (r_op (r_c ?_)))))
        refine r_op (r_var rfl (r_c (r_I (show (0 : Int) < 2 by decide) (r_I (show CMul 2 _ from .inl ⟨by decide, by decide⟩) (r_I0 (r_name ?_))))))
        dsimp only
        have bd : lastD (liveE es) ≤ lastD (liveE es) + 2 * (ot % 2) ∧ lastD (liveE es) + 2 * (ot % 2) ≤ lastD (liveE es) + 2 := by omega
        generalize lastD (liveE es) + 2 * (ot % 2) = d at bd ⊢
        have B14 := B.same s14
        refine r_seq (r_ifS (r_not (r_tB (r_callX ?_))))
        refine r_cons (r_callX ?_)
        refine r_cons (r_var rfl (r_cons (r_var rfl (r_cons (r_var rfl (r_cons (r_var rfl (r_nil ?_))))))))
        refine ⟨A0, _, es, dn, d, tt, dd, rfl, hto, B14, by omega, by rw [S.kept]; exact okRows_pd S.kfit, S.num, hok d (by omega) (by omega) bd.1, fun es' he g H15 B15 sb hg => ?_, fun he => by rw [hdo] at he; cases he⟩
        rw [hdo] at he
        cases he
        have s15 : Same H H15 := sU (s2.trans s14) sb
        have gt : ∀ {x : Addr} {o : HO}, H2 x = some o → x ∉ A0.all → H15 x = some o := fun {x o} e n => sb.get (BkA.ok4 n) (s14 _ _ e)
        refine r_cons (r_c (r_cons (r_cb (r_cons (r_var rfl (r_nil (r_lenL (.of (gt htl otl)) (r_nil ?_))))))))
        rw [List.length_map, List.length_map]
        refine ⟨g, "", _, _, rfl, hg, fun _ => by rw [hret], ⟨_, rfl, iteF ?_⟩⟩
        refine r_next ?_
        dsimp only
        have S' := S.push (hfit d (by omega) (by omega)) (hnumr d) (by rw [hday]; exact bd.1) (by rw [hday]; exact bd.2)
        refine r_seq (r_drop (r_bm (r_var rfl (r_tyL (.of (gt hdl odl)) (r_cons (r_var rfl (r_nil (r_app (gt hdl odl) (small1000 (by rw [List.length_map, List.length_map]; omega)) ?_))))))))
        dsimp only
        have hce16 : upd H15 dl (.lst (List.map V.int (es.map fun e => e.row.day) ++ [V.int d])) ce = some (.lst (List.map V.int cs)) := by rw [upd_ne cd]; exact gt hce oce
        have htl16 : upd H15 dl (.lst (List.map V.int (es.map fun e => e.row.day) ++ [V.int d])) tl = some (.lst (List.map V.str (es.map fun e => textU e.row))) := by rw [upd_ne td]; exact gt htl otl
        have hgl16 : upd H15 dl (.lst (List.map V.int (es.map fun e => e.row.day) ++ [V.int d])) gl = some (.lst (List.map V.int gone)) := by rw [upd_ne gd]; exact gt hgl ogl
        have hdl16 : upd H15 dl (.lst (List.map V.int (es.map fun e => e.row.day) ++ [V.int d])) dl = some (.lst (List.map V.int ((es ++ [(⟨dd.row es.length d, dn + 1, none⟩ : En)]).map fun e => e.row.day))) := by
          rw [upd_same, List.map_append, List.map_append]
          show _ = some (HO.lst (_ ++ [V.int (dd.row es.length d).day]))
          rw [hday]
        have B16 := B15.setL' (ys := List.map V.int (es.map fun e => e.row.day) ++ [V.int d]) (gt hdl odl) odl
        have s16 : Same H (upd H15 dl (.lst (List.map V.int (es.map fun e => e.row.day) ++ [V.int d]))) := s15.setL ndl0
        have hto16 : ToldU (upd H15 dl (.lst (List.map V.int (es.map fun e => e.row.day) ++ [V.int d]))) tt dd := by
          have tS : TupS H14 (upd H15 dl (.lst (List.map V.int (es.map fun e => e.row.day) ++ [V.int d]))) := (SameU.tupS B14 sb).trans (TupS.lst (gt hdl odl))
          rcases hun with rfl | rfl <;> exact tS _ _ hto
        generalize upd H15 dl (.lst (List.map V.int (es.map fun e => e.row.day) ++ [V.int d])) = H16 at hce16 htl16 hgl16 hdl16 B16 s16 hto16 ⊢
        refine r_drop (r_bm (r_var rfl (r_tyL (.of htl16) (r_cons (r_callX ?_)))))
        refine r_cons (r_var rfl (r_cons (r_var rfl (r_cons (r_var rfl (r_nil ?_))))))
        refine ⟨d, tt, dd, es.length, rfl, hto16, ?_, fun H17 s17 => r_nil ?_⟩
        · have := hfit d (by omega) (by omega)
          rcases hun with rfl | rfl <;> exact this
        refine r_app (s17 _ _ htl16) (small1000 (by rw [List.length_map, List.length_map]; omega)) ?_
        refine ⟨es ++ [⟨dd.row es.length d, dn + 1, none⟩], dn + 1, gone, _, _, _, _, _, _, _, _, _, _, _, _, rfl, (s16.trans s17).setL ntl0, (B16.same s17).setL' (s17 _ _ htl16) otl, by rw [upd_ne ct]; exact s17 _ _ hce16, ?_, by rw [upd_ne (Ne.symm tg)]; exact s17 _ _ hgl16, by rw [upd_ne (Ne.symm td)]; exact s17 _ _ hdl16, S', by rw [List.length_append, List.length_singleton]; omega, by omega⟩
        rw [upd_same, List.map_append, List.map_append]
        rfl
      · refine r_seq (r_asg (r_op (r_op (r_var rfl (r_op (r_cb (r_cons (r_var rfl (r_nil (r_lenL (.of (sA _ _ htl)) (r_c (r_I0 ?_))))))))))))
        rw [List.length_map, List.length_map]
        refine r_I (show (0 : Int) < (es.length : Int) + 4 by omega) (r_c (r_I0 (r_name ?_)))
        dsimp only
        generalize ot % ((es.length : Int) + 4) - 2 = rw0
        refine r_seq (r_asg ?_)
        have BA := B.same sA
        refine' joinS (M := fun σ H3 => σ = [some (.ref a), some (.ref A0.b), some (.ref ce), some (.ref tl), some (.ref gl), some (.ref dl), some (.int (0 + (i : Int))), some (.int (cv / 4)), some (.int ot), some (.int (lastD (liveE es))), v10, v11, v12, v13, some (.int rw0), some (.bl (decide (rw0 < 0 ∨ (es.length : Int) ≤ rw0 ∨ rw0 ∈ gone))), v16, v17] ∧ H3 = HA) ?a ?b
        case a =>
          intro k
          refine r_orV (r_op (r_var rfl (r_c (r_I0 ⟨_, rfl, ?_⟩))))
          refine ite2 (fun z => ?_) (fun z => ?_)
          · have z : rw0 < 0 := of_decide_eq_true z
            refine r_name (k _ _ ⟨?_, rfl⟩)
            rw [decide_eq_true (.inl z)]
            rfl
          have z : ¬ rw0 < 0 := fun y => z (decide_eq_true y)
          refine r_orV (r_op (r_var rfl (r_cb (r_cons (r_var rfl (r_nil (r_lenL (.of (sA _ _ htl)) (r_I0 ⟨_, rfl, ?_⟩))))))))
          rw [List.length_map, List.length_map]
          refine ite2 (fun y => ?_) (fun y => ?_)
          · have y : (es.length : Int) ≤ rw0 := of_decide_eq_true y
            refine r_name (k _ _ ⟨?_, rfl⟩)
            rw [decide_eq_true (.inr (.inl y))]
            rfl
          have y : ¬ (es.length : Int) ≤ rw0 := fun x => y (decide_eq_true x)
          refine r_op (r_var rfl (r_var rfl ?_))
          refine ⟨_, _, rfl, .inl (.of (sA _ _ hgl)), rfl, flat_ints, ?_⟩
          rw [inV_ints]
          refine r_name (k _ _ ⟨?_, rfl⟩)
          have e : (decide (rw0 ∈ gone)) = decide (rw0 < 0 ∨ (es.length : Int) ≤ rw0 ∨ rw0 ∈ gone) := by
            rw [Bool.eq_iff_iff, decide_eq_true_iff, decide_eq_true_iff]
            exact ⟨fun h => .inr (.inr h), fun h => by rcases h with h | h | h; exact absurd h z; exact absurd h y; exact h⟩
          rw [← e]
          rfl
        case b =>
        rintro σ H3 ⟨rfl, rfl⟩
        dsimp only
        have hbad := S.bad (i := rw0)
        generalize hbd : decide (rw0 < 0 ∨ (es.length : Int) ≤ rw0 ∨ rw0 ∈ gone) = bad
        refine r_seq (r_asg (r_op (r_lst (r_cons (r_c (r_cons (r_c (r_nil ⟨by show 2 ≤ sizeLine; decide, fun p8 np8 => ?_⟩))))))))
        have s8 := sA.trans (Same.new (o := .lst [V.str "", V.str "no such row"]) np8)
        have h8 := upd_at (o := .lst [V.str "", V.str "no such row"]) np8
        generalize upd H3 p8 (.lst [V.str "", V.str "no such row"]) = H8' at s8 h8 ⊢
        refine r_cb (r_cons (r_var rfl (r_nil (r_intB ?_))))
        refine r_ixL (.of h8) ix2 (r_name ?_)
        dsimp only
        refine r_seq (r_ifS (r_not (r_tB (r_callX ?_))))
        refine r_cons (r_callX ?_)
        refine r_cons (r_var rfl (r_cons (r_c (r_cons (r_c (r_cons (r_tup (r_cons (r_var rfl (r_nil ⟨by show 1 ≤ sizeLine; decide, fun u nu => r_nil ?_⟩))))))))))
        have su := Same.new (o := .tup [V.int rw0]) nu
        have hu := upd_at (o := .tup [V.int rw0]) nu
        have s14 := s8.trans su
        generalize upd H8' u (.tup [V.int rw0]) = H14 at s14 hu ⊢
        have B14 := B.same s14
        refine ⟨A0, _, es, dn, 0, u, .undo rw0, rfl, hu, B14, by omega, by rw [S.kept]; exact okRows_pd S.kfit, S.num, by show AnewOk _; rw [S.kept]; exact S.anew (by omega), fun es' he g H15 B15 sb hg => ?_, fun he g H15 s15 hg => ?_⟩
        · have hex : ∃ r ∈ liveE es, r.num = rw0 := by
            rw [← S.kept]
            refine Classical.byContradiction fun z => ?_
            rw [show doU es dn 0 (.undo rw0) = none from if_neg z] at he
            cases he
          have he : es' = goneE es rw0 (dn + 1) := by
            have : doU es dn 0 (.undo rw0) = some (goneE es rw0 (dn + 1)) := if_pos (by rw [S.kept]; exact hex)
            rw [this] at he
            exact (Option.some.inj he).symm
          subst he
          have eb : bad = false := by rw [← hbd]; exact decide_eq_false (hbad.mp hex)
          subst eb
          have S' := S.undo hex
          have s15 : Same H H15 := sU (s2.trans s14) sb
          have gt : ∀ {x : Addr} {o : HO}, H2 x = some o → x ∉ A0.all → H15 x = some o := fun {x o} e n => sb.get (BkA.ok4 n) (s14 _ _ e)
          refine r_cons (r_var rfl (r_cons (r_var rfl (r_nil ?_))))
          refine ⟨g, "", _, _, rfl, hg, fun _ => rfl, ⟨_, rfl, iteF ?_⟩⟩
          refine r_next ?_
          dsimp only
          refine r_ifS (r_test (r_op (r_var rfl (r_c (r_EqS ⟨_, rfl, iteP (by simp) ?_⟩)))))
          refine r_drop (r_bm (r_var rfl (r_tyL (.of (gt hgl ogl)) (r_cons (r_var rfl (r_nil (r_app (gt hgl ogl) (small1000 (by rw [List.length_map]; omega)) ?_)))))))
          refine ⟨goneE es rw0 (dn + 1), dn + 1, gone ++ [rw0], _, _, _, _, _, _, _, _, _, _, _, _, rfl, s15.setL ngl0, B15.setL' (gt hgl ogl) ogl, by rw [upd_ne cg]; exact gt hce oce, ?_, by rw [upd_same, List.map_append]; rfl, ?_, S', by rw [goneE_len]; omega, by rw [List.length_append, List.length_singleton]; omega⟩
          · rw [upd_ne tg, gt htl otl]
            have : (goneE es rw0 (dn + 1)).map (fun e => textU e.row) = es.map fun e => textU e.row := by
              have := congrArg (List.map textU) (goneE_row (es := es) (i := rw0) (g := dn + 1))
              rw [List.map_map, List.map_map] at this
              exact this
            rw [this]
          · rw [upd_ne (Ne.symm gd), gt hdl odl]
            have : (goneE es rw0 (dn + 1)).map (fun e => e.row.day) = es.map fun e => e.row.day := by
              have := congrArg (List.map Rw.day) (goneE_row (es := es) (i := rw0) (g := dn + 1))
              rw [List.map_map, List.map_map] at this
              exact this
            rw [this]
        · have hex : ¬ ∃ r ∈ liveE es, r.num = rw0 := fun z => by
            rw [show doU es dn 0 (.undo rw0) = some (goneE es rw0 (dn + 1)) from if_pos (by rw [S.kept]; exact z)] at he
            cases he
          have eb : bad = true := by
            rw [← hbd]
            refine decide_eq_true (Classical.byContradiction fun z => hex (hbad.mpr z))
          subst eb
          have sD := s14.trans s15
          refine r_cons (r_var rfl (r_cons (r_var rfl (r_nil ?_))))
          refine ⟨g, "no such row", _, _, rfl, hg, fun z => absurd z (by decide +kernel), ⟨_, rfl, iteF ?_⟩⟩
          refine r_next ?_
          dsimp only
          refine r_ifS (r_test (r_op (r_var rfl (r_c (r_EqS ⟨_, rfl, iteN (by decide +kernel) (r_next ?_)⟩)))))
          exact ⟨es, dn, gone, _, _, _, _, _, _, _, _, _, _, _, _, rfl, s2.trans sD, B.same sD, sD _ _ hce, sD _ _ htl, sD _ _ hgl, sD _ _ hdl, S, by omega, by omega⟩
    · rintro σ H2 ⟨es, dn, gone, v6, v7, v8, v9, v10, v11, v12, v13, v14, v15, v16, v17, rfl, s2, B, hce, htl, hgl, hdl, S, hn, hg⟩
      dsimp only
      rw [List.length_map] at hn hg
      obtain ⟨⟨dx2, h1⟩, _⟩ := id B
      have nox1 : (flds A0.pe A0.co A0.sp A0.ro A0.ca A0.we dn).lookup ("mark" : Str) = none := fl_no (by decide +kernel)
      have nox2 : (flds A0.pe A0.co A0.sp A0.ro A0.ca A0.we dn).lookup ("kept" : Str) = none := fl_no (by decide +kernel)
      refine r_seq (r_asg (r_meth (r_var rfl (r_methA h1 nox1 (r_nil ?_)))))
      refine ⟨A0, _, es, dn, rfl, B, r_name ?_⟩
      dsimp only
      refine r_seq (r_ifS (r_or (r_not (r_tB (r_callX (r_cons (r_var rfl (r_nil ?_))))))))
      refine r_int ⟨true, rfl, iteF ?_⟩
      refine r_test (r_op (r_var rfl ?_))
      refine r_op (r_cb (r_cons (r_var rfl (r_nil (r_lenL (.of htl) ?_)))))
      refine r_cb (r_cons (r_var rfl (r_nil (r_lenL (.of hgl) (r_I0 (r_NeI ⟨_, rfl, ?_⟩))))))
      rw [List.length_map, List.length_map, List.length_map, ← S.dl]
      refine iteN (by simp) (r_next ?_)
      dsimp only
      refine r_ret (r_callX (r_cons (r_meth (r_var rfl (r_methA h1 nox2 (r_nil ?_))))))
      refine ⟨A0, _, es, dn, .non, dn, rfl, B, by omega, .inl ⟨rfl, rfl⟩, by rw [S.kept]; exact S.kfit, fun l H3 s3 hl3 => ?_⟩
      refine r_cons (r_comp (r_rng1 (r_cons (r_cb (r_cons (r_var rfl (r_nil (r_lenL (.of (s3 _ _ htl)) ?_))))))))
      rw [List.length_map, List.length_map]
      refine r_nil ⟨es.length, rfl, by omega, by omega, fun D nD => ?_⟩
      refine comp_rangeF (n := es.length) (fun j => decide ((j : Int) ∉ gone)) (fun j => V.str (textU (es.getD j default).row)) nD (by omega) ?_ ?_ ?_
      · intro j H5 q5 hj sm kq
        refine r_test (r_op (r_var rfl (r_var rfl ?_)))
        refine ⟨_, _, rfl, .inl (.of (sm _ _ (s3 _ _ hgl))), rfl, flat_ints, ⟨_, rfl, ?_⟩⟩
        rw [inV_ints, Int.zero_add]
        have kq := kq _ (Same.refl _)
        rw [show decide ((j : Int) ∉ gone) = !decide ((j : Int) ∈ gone) by simp] at kq
        exact kq
      · intro j H5 q5 hj _ sm kq
        refine r_op (r_var rfl (r_var rfl (r_ixL (.of (sm _ _ (s3 _ _ htl))) ?_ (kq _ (Same.refl _)))))
        rw [Int.zero_add]
        exact atI_nat (by simp [hj])
      intro H4 s4 hD
      rw [S.kept] at hl3
      have e2 : List.map (fun j => V.str (textU (es.getD j default).row)) ((List.range es.length).filter fun (j : Nat) => decide ((j : Int) ∉ gone)) = List.map V.str ((liveE es).map textU) := by
        rw [S.by_place textU, List.map_map]
        rfl
      rw [e2] at hD
      refine r_nil ⟨l, D, (liveE es).map textU, rfl, s4 _ _ hl3, .of hD, ?_, q _⟩
      have := kept_len (es := es) (m := dn)
      rw [S.kept] at this
      rw [List.length_map]
      omega

theorem scBookInit : FnScope ["self", "sides", "court", "speakers"] ["self", "sides", "court", "speakers"] (defScope sBookInit) := ⟨rfl, rfl, rfl, by decide +kernel, rfl, by decide +kernel, by decide +kernel⟩
theorem ok_BookInit {f : Addr} {fd : FuncData} {dV : Value} (F : FunD K "__init__" "Book.__init__" sBookInit f fd dV) (T : Txt K mg cB c_CostError c_Full c_NoClaim c_RoundOver c_TooLate c_Twice c_TooMuch c_NoRow c_Needed) : FnOk P w K mg base CX0 1 f fd ["self", "sides", "court", "speakers"] (spInitU K cB) := by
  refine F.ok scBookInit (fun vs H Q E h => ?_) (fun cdv A outer s H vs Q E hr h => ?_)
  · obtain ⟨b, a1, a2, a3, dx, x1, c2, t2, c3, t3, rfl, hb, h1, h2, hT2, h3, hT3, n1, n2, n3, q⟩ := h
    rfl
  · obtain ⟨b, a1, a2, a3, dx, x1, c2, t2, c3, t3, rfl, hb, h1, h2, hT2, h3, hT3, n1, n2, n3, q⟩ := h
    refine ⟨_, (pss_cons (ps_fld (pv 0) (pe_callTy cb_list (by rfl) T.b_list PyProof.Rows.boot_list (pa_cons (pv 1) pa_nil)) rfl)
      (pss_cons (ps_fld (pv 0) (pe_callTy cb_list (by rfl) T.b_list PyProof.Rows.boot_list (pa_cons (pv 2) pa_nil)) rfl)
      (pss_cons (ps_fld (pv 0) (pe_callTy cb_list (by rfl) T.b_list PyProof.Rows.boot_list (pa_cons (pv 3) pa_nil)) rfl)
      (pss_cons (ps_fld (pv 0) (pe_lst pa_nil) rfl)
      (pss_cons (ps_fld (pv 0) (pe_lst pa_nil) rfl)
      (pss_cons (ps_fld (pv 0) (pe_lst pa_nil) rfl)
      (pss_one (ps_fld (pv 0) pe_int rfl)))))))), ?_⟩
    try dsimp only [cxOf]
    have sqk : ∀ {H1 : Hp} {a : Addr} {xs : List V}, (∀ x o, H x = some o → x ≠ b → H1 x = some o) → a ≠ b → SqL K H a xs → SqL K H1 a xs := fun kp ne h => by
      rcases h with (h | ⟨o, h⟩) | h
      · exact .inl (.inl (kp _ _ h ne))
      · exact .inl (.inr ⟨o, kp _ _ h ne⟩)
      · exact .inr h
    have fre : ∀ {H1 : Hp} {l : Addr}, (∀ x o, H x = some o → x ≠ b → H1 x = some o) → H1 l = none → (∃ o, H1 b = some o) → H l = none := fun {H1 l} kp n eb => by
      cases e : H l with
      | none => rfl
      | some o =>
        by_cases z : l = b
        · obtain ⟨o', eb⟩ := eb; rw [z, eb] at n; cases n
        · have := kp _ _ e z; rw [n] at this; cases this
    refine r_seq (r_sfld (r_cb (r_cons (r_var rfl (r_nil (r_list h1 fun l1 m1 => r_var rfl ⟨b, cB, dx, [], rfl, Same.new m1 _ _ hb, T.cl, T.n_people, Nat.lt_of_le_of_lt (Nat.le_refl 0) (by decide), ?_⟩))))))
    obtain ⟨b1, c1, k1⟩ := fld_step (o := .lst (List.map V.int x1)) (fs' := putF "people" (.ref l1) []) hb m1
    generalize upd (upd H l1 (.lst (List.map V.int x1))) b (.ins cB dx (putF "people" (.ref l1) [])) = H1 at b1 c1 k1 ⊢
    refine r_seq (r_sfld (r_cb (r_cons (r_var rfl (r_nil (r_list (sqk k1 n2 h2) fun l2 m2 => r_var rfl ⟨b, cB, dx, _, rfl, Same.new m2 _ _ b1, T.cl, T.n_court, Nat.lt_of_le_of_lt (pl (Nat.le_refl 0)) (by decide), ?_⟩))))))
    obtain ⟨b2, c2', k2'⟩ := fld_step (o := .lst (List.map V.ref c2)) (fs' := putF "court" (.ref l2) (putF "people" (.ref l1) [])) b1 m2
    have k2 : ∀ x o, H x = some o → x ≠ b → _ := fun x o e ne => k2' x o (k1 x o e ne) ne
    generalize upd (upd H1 l2 (.lst (List.map V.ref c2))) b (.ins cB dx (putF "court" (.ref l2) (putF "people" (.ref l1) []))) = H2 at b2 c2' k2 k2' ⊢
    refine r_seq (r_sfld (r_cb (r_cons (r_var rfl (r_nil (r_list (sqk k2 n3 h3) fun l3 m3 => r_var rfl ⟨b, cB, dx, _, rfl, Same.new m3 _ _ b2, T.cl, T.n_speakers, Nat.lt_of_le_of_lt (pl (pl (Nat.le_refl 0))) (by decide), ?_⟩))))))
    obtain ⟨b3, c3', k3'⟩ := fld_step (o := .lst (List.map V.ref c3)) (fs' := putF "speakers" (.ref l3) (putF "court" (.ref l2) (putF "people" (.ref l1) []))) b2 m3
    have k3 : ∀ x o, H x = some o → x ≠ b → _ := fun x o e ne => k3' x o (k2 x o e ne) ne
    generalize upd (upd H2 l3 (.lst (List.map V.ref c3))) b (.ins cB dx (putF "speakers" (.ref l3) (putF "court" (.ref l2) (putF "people" (.ref l1) [])))) = H3 at b3 c3' k3 k3' ⊢
    refine r_seq (r_sfld (r_lst (r_nil ⟨by show 0 ≤ sizeLine; decide, fun ro m4 => r_var rfl ⟨b, cB, dx, _, rfl, Same.new m4 _ _ b3, T.cl, T.n_rows, Nat.lt_of_le_of_lt (pl (pl (pl (Nat.le_refl 0)))) (by decide), ?_⟩⟩)))
    obtain ⟨b4, c4, k4'⟩ := fld_step (o := .lst []) (fs' := putF "rows" (.ref ro) (putF "speakers" (.ref l3) (putF "court" (.ref l2) (putF "people" (.ref l1) [])))) b3 m4
    have k4 : ∀ x o, H x = some o → x ≠ b → _ := fun x o e ne => k4' x o (k3 x o e ne) ne
    generalize upd (upd H3 ro (.lst [])) b (.ins cB dx (putF "rows" (.ref ro) (putF "speakers" (.ref l3) (putF "court" (.ref l2) (putF "people" (.ref l1) []))))) = H4 at b4 c4 k4 k4' ⊢
    refine r_seq (r_sfld (r_lst (r_nil ⟨by show 0 ≤ sizeLine; decide, fun ca m5 => r_var rfl ⟨b, cB, dx, _, rfl, Same.new m5 _ _ b4, T.cl, T.n_came, Nat.lt_of_le_of_lt (pl (pl (pl (pl (Nat.le_refl 0))))) (by decide), ?_⟩⟩)))
    obtain ⟨b5, c5, k5'⟩ := fld_step (o := .lst []) (fs' := putF "came" (.ref ca) (putF "rows" (.ref ro) (putF "speakers" (.ref l3) (putF "court" (.ref l2) (putF "people" (.ref l1) []))))) b4 m5
    have k5 : ∀ x o, H x = some o → x ≠ b → _ := fun x o e ne => k5' x o (k4 x o e ne) ne
    generalize upd (upd H4 ca (.lst [])) b (.ins cB dx (putF "came" (.ref ca) (putF "rows" (.ref ro) (putF "speakers" (.ref l3) (putF "court" (.ref l2) (putF "people" (.ref l1) [])))))) = H5 at b5 c5 k5 k5' ⊢
    refine r_seq (r_sfld (r_lst (r_nil ⟨by show 0 ≤ sizeLine; decide, fun we m6 => r_var rfl ⟨b, cB, dx, _, rfl, Same.new m6 _ _ b5, T.cl, T.n_went, Nat.lt_of_le_of_lt (pl (pl (pl (pl (pl (Nat.le_refl 0)))))) (by decide), ?_⟩⟩)))
    obtain ⟨b6, c6, k6'⟩ := fld_step (o := .lst []) (fs' := putF "went" (.ref we) (putF "came" (.ref ca) (putF "rows" (.ref ro) (putF "speakers" (.ref l3) (putF "court" (.ref l2) (putF "people" (.ref l1) [])))))) b5 m6
    have k6 : ∀ x o, H x = some o → x ≠ b → _ := fun x o e ne => k6' x o (k5 x o e ne) ne
    generalize upd (upd H5 we (.lst [])) b (.ins cB dx (putF "went" (.ref we) (putF "came" (.ref ca) (putF "rows" (.ref ro) (putF "speakers" (.ref l3) (putF "court" (.ref l2) (putF "people" (.ref l1) []))))))) = H6 at b6 c6 k6 k6' ⊢
    refine r_sfld (r_c (r_var rfl ⟨b, cB, dx, _, rfl, b6, T.cl, T.n_done, Nat.lt_of_le_of_lt (pl (pl (pl (pl (pl (pl (Nat.le_refl 0))))))) (by decide), ?_⟩))
    rw [fl_new]
    have nb : ∀ {H1 : Hp} {l : Addr} {o : HO}, H1 b = some o → H1 l = none → l ≠ b := fun e n z => by rw [z, e] at n; cases n
    have ne := @ne_of_none
    have b1' := nb hb m1
    have b2' := nb b1 m2
    have b3' := nb b2 m3
    have rb := nb b3 m4
    have cb := nb b4 m5
    have wb := nb b5 m6
    have e12 := k2' _ _ c1 b1'
    have e13 := k3' _ _ e12 b1'
    have e14 := k4' _ _ e13 b1'
    have e15 := k5' _ _ e14 b1'
    have e16 := k6' _ _ e15 b1'
    have e23 := k3' _ _ c2' b2'
    have e24 := k4' _ _ e23 b2'
    have e25 := k5' _ _ e24 b2'
    have e26 := k6' _ _ e25 b2'
    have e34 := k4' _ _ c3' b3'
    have e35 := k5' _ _ e34 b3'
    have e36 := k6' _ _ e35 b3'
    have e45 := k5' _ _ c4 rb
    have e46 := k6' _ _ e45 rb
    have e56 := k6' _ _ c5 cb
    have tup : TupS H (upd H6 b (.ins cB dx (flds l1 l2 l3 ro ca we 0))) := fun x xs e => by
      have xb : x ≠ b := ne_of e hb (by intro z; cases z)
      rw [upd_ne xb]
      exact k6 x _ e xb
    refine q ⟨b, ro, ca, we, l1, l2, l3⟩ _ rfl ⟨⟨dx, upd_same⟩, ⟨[], by rw [upd_ne rb]; exact e46, RowsAt.nil⟩, by rw [upd_ne cb]; exact e56, by rw [upd_ne wb]; exact c6, by rw [upd_ne b1']; exact e16, ⟨c2, by rw [upd_ne b2']; exact e26, hT2.tupS tup⟩, ⟨c3, by rw [upd_ne b3']; exact e36, hT3.tupS tup⟩, ?_⟩ ?_ (fun x o e ne => by rw [upd_ne ne]; exact k6 x o e ne)
    · simp only [List.nodup_cons, List.mem_cons, List.not_mem_nil, or_false, not_or, List.nodup_nil, and_true, not_false_eq_true]
      exact ⟨⟨ne_of_none c4 m5, ne_of_none e45 m6, Ne.symm (ne_of_none e13 m4), Ne.symm (ne_of_none e23 m4), Ne.symm (ne_of_none c3' m4)⟩, ⟨ne_of_none c5 m6, Ne.symm (ne_of_none e14 m5), Ne.symm (ne_of_none e24 m5), Ne.symm (ne_of_none e34 m5)⟩, ⟨Ne.symm (ne_of_none e15 m6), Ne.symm (ne_of_none e25 m6), Ne.symm (ne_of_none e35 m6)⟩, ⟨ne_of_none c1 m2, ne_of_none e12 m3⟩, ne_of_none c2' m3⟩
    · intro x hx xb
      simp only [BkA.all, List.mem_cons, List.not_mem_nil, or_false] at hx
      rcases hx with rfl | rfl | rfl | rfl | rfl | rfl | rfl
      · exact absurd rfl xb
      · exact fre k3 m4 ⟨_, b3⟩
      · exact fre k4 m5 ⟨_, b4⟩
      · exact fre k5 m6 ⟨_, b5⟩
      · exact m1
      · exact fre k1 m2 ⟨_, b1⟩
      · exact fre k2 m3 ⟨_, b2⟩

theorem scBookPay : FnScope ["self", "day", "side", "person", "coins"] ["self", "day", "side", "person", "coins"] (defScope sBookPay) := ⟨rfl, rfl, rfl, by decide +kernel, rfl, by decide +kernel, by decide +kernel⟩
theorem ok_BookPay {f : Addr} {fd : FuncData} {dV : Value} (F : FunD K "pay" "Book.pay" sBookPay f fd dV) (T : Txt K mg cB c_CostError c_Full c_NoClaim c_RoundOver c_TooLate c_Twice c_TooMuch c_NoRow c_Needed) (GBookWrite : MtF P w K mg base (CX1 P w) cB "write" 6 ["self", "row"] [] (spWriteU cB [c_Full, c_NoClaim, c_RoundOver, c_TooLate, c_Twice, c_TooMuch, c_NoRow])) (GPayRow : Fn P w K mg base "pay_row" 1 ["number", "day", "side", "person", "coins"] (spPayRow)) : FnOk P w K mg base (CX1 P w) 7 f fd ["self", "day", "side", "person", "coins"] (spPayU cB [c_Full, c_NoClaim, c_RoundOver, c_TooLate, c_Twice, c_TooMuch, c_NoRow]) := by
  refine F.okX scBookPay (fun vs H Q E h => ?_) (fun cdv A outer s H vs Q E hr h => ?_)
  · obtain ⟨A0, C, es, dn, d, s1, p1, c1, rfl, h⟩ := h
    rfl
  · obtain ⟨A0, C, es, dn, d, s1, p1, c1, rfl, h⟩ := h
    refine ⟨_, (pss_one (ps_ret (pe_mt GBookWrite T.cl hr (by decide) passX (pv 0) (pa_cons (pe_fn GPayRow hr (by decide) (by rfl) (pa_cons (pe_callB (cb_lenK K rfl) (by rfl) T.b_len PySem.boot_len (pa_cons (pe_fld (pv 0) rfl) pa_nil)) (pa_cons (pv 1) (pa_cons (pv 2) (pa_cons (pv 3) (pa_cons (pv 4) pa_nil)))))) pa_nil)))), ?_⟩
    try dsimp only [cxOf]
    obtain ⟨B, hcs, hn, q, qe⟩ := h
    obtain ⟨⟨dx, h1⟩, ⟨ps, h2, h5⟩, h3, h4, _⟩ := id B
    have nox : (flds A0.pe A0.co A0.sp A0.ro A0.ca A0.we dn).lookup ("write" : Str) = none := fl_no (by decide +kernel)
    refine r_ret (r_meth (r_var rfl (r_methA h1 nox ?_)))
    refine r_cons (r_callX (r_cons (r_cb (r_cons (r_fld (r_var rfl ⟨A0.b, cB, dx, _, _, rfl, h1, T.cl, T.n_rows, fl_rows, ?_⟩))))))
    refine r_nil (r_lenL (.of h2) ?_)
    have lps : ((List.map V.ref ps).length : Int) = (es.length : Int) := by have := h5.1; rw [List.length_map] at this; rw [List.length_map, this]
    rw [lps]
    walk_at "rd"
    refine ⟨_, d, s1, p1, c1, rfl, fun p H1 s1 np hp => ?_⟩
    refine r_nil ?_
    refine ⟨A0, C, es, dn, p, _, rfl, B.same s1, hcs, hn, hp, fun e H' B' sb => q e _ B' (s1.sameU.trans sb), fun k e t H' s' ht => qe k e t _ (s1.trans s') ht⟩

theorem scBookDun : FnScope ["self", "day", "side"] ["self", "day", "side"] (defScope sBookDun) := ⟨rfl, rfl, rfl, by decide +kernel, rfl, by decide +kernel, by decide +kernel⟩
theorem ok_BookDun {f : Addr} {fd : FuncData} {dV : Value} (F : FunD K "dun" "Book.dun" sBookDun f fd dV) (T : Txt K mg cB c_CostError c_Full c_NoClaim c_RoundOver c_TooLate c_Twice c_TooMuch c_NoRow c_Needed) (GBookWrite : MtF P w K mg base (CX1 P w) cB "write" 6 ["self", "row"] [] (spWriteU cB [c_Full, c_NoClaim, c_RoundOver, c_TooLate, c_Twice, c_TooMuch, c_NoRow])) (GDunRow : Fn P w K mg base "dun_row" 1 ["number", "day", "side"] (spDunRow)) : FnOk P w K mg base (CX1 P w) 7 f fd ["self", "day", "side"] (spDunU cB [c_Full, c_NoClaim, c_RoundOver, c_TooLate, c_Twice, c_TooMuch, c_NoRow]) := by
  refine F.okX scBookDun (fun vs H Q E h => ?_) (fun cdv A outer s H vs Q E hr h => ?_)
  · obtain ⟨A0, C, es, dn, d, s1, rfl, h⟩ := h
    rfl
  · obtain ⟨A0, C, es, dn, d, s1, rfl, h⟩ := h
    refine ⟨_, (pss_one (ps_ret (pe_mt GBookWrite T.cl hr (by decide) passX (pv 0) (pa_cons (pe_fn GDunRow hr (by decide) (by rfl) (pa_cons (pe_callB (cb_lenK K rfl) (by rfl) T.b_len PySem.boot_len (pa_cons (pe_fld (pv 0) rfl) pa_nil)) (pa_cons (pv 1) (pa_cons (pv 2) pa_nil)))) pa_nil)))), ?_⟩
    try dsimp only [cxOf]
    obtain ⟨B, hcs, hn, q, qe⟩ := h
    obtain ⟨⟨dx, h1⟩, ⟨ps, h2, h5⟩, h3, h4, _⟩ := id B
    have nox : (flds A0.pe A0.co A0.sp A0.ro A0.ca A0.we dn).lookup ("write" : Str) = none := fl_no (by decide +kernel)
    refine r_ret (r_meth (r_var rfl (r_methA h1 nox ?_)))
    refine r_cons (r_callX (r_cons (r_cb (r_cons (r_fld (r_var rfl ⟨A0.b, cB, dx, _, _, rfl, h1, T.cl, T.n_rows, fl_rows, ?_⟩))))))
    refine r_nil (r_lenL (.of h2) ?_)
    have lps : ((List.map V.ref ps).length : Int) = (es.length : Int) := by have := h5.1; rw [List.length_map] at this; rw [List.length_map, this]
    rw [lps]
    walk_at "rd"
    refine ⟨_, d, s1, rfl, fun p H1 s1 np hp => ?_⟩
    refine r_nil ?_
    refine ⟨A0, C, es, dn, p, _, rfl, B.same s1, hcs, hn, hp, fun e H' B' sb => q e _ B' (s1.sameU.trans sb), fun k e t H' s' ht => qe k e t _ (s1.trans s') ht⟩

theorem scBookWrite : FnScope ["self", "row"] ["self", "row"] (defScope sBookWrite) := ⟨rfl, rfl, rfl, by decide +kernel, rfl, by decide +kernel, by decide +kernel⟩
theorem ok_BookWrite {f : Addr} {fd : FuncData} {dV : Value} (F : FunD K "write" "Book.write" sBookWrite f fd dV) (T : Txt K mg cB c_CostError c_Full c_NoClaim c_RoundOver c_TooLate c_Twice c_TooMuch c_NoRow c_Needed) (GBookRowsKeptD : MtF P w K mg base CX0 cB "rows_kept" 1 ["self", "mark"] [.non] (spKeptRowsU cB)) (GCheckRow : FnX P w K mg base "check_row" 5 ["rows", "written", "row"] (spCheck K [c_Full, c_NoClaim, c_RoundOver, c_TooLate, c_Twice, c_TooMuch, c_NoRow])) : FnOk P w K mg base (CX1 P w) 6 f fd ["self", "row"] (spWriteU cB [c_Full, c_NoClaim, c_RoundOver, c_TooLate, c_Twice, c_TooMuch, c_NoRow]) := by
  refine F.okX scBookWrite (fun vs H Q E h => ?_) (fun cdv A outer s H vs Q E hr h => ?_)
  · obtain ⟨A0, C, es, dn, q1, r, rfl, B, hcs, hn, hr1, q, qe⟩ := h
    rfl
  · obtain ⟨A0, C, es, dn, q1, r, rfl, B, hcs, hn, hr1, q, qe⟩ := h
    refine ⟨_, (pss_cons (ps_expr (pe_fnX GCheckRow hr (by decide) passX (by rfl) (pa_cons (pe_mt0 GBookRowsKeptD T.cl hr (by decide) pass0 (pv 0)) (pa_cons (pe_callB (cb_lenK K rfl) (by rfl) T.b_len PySem.boot_len (pa_cons (pe_fld (pv 0) rfl) pa_nil)) (pa_cons (pv 1) pa_nil)))))
      (pss_cons (ps_fldaug (pv 0) pe_int iop_add)
      (pss_cons (ps_expr (pe_bm PySem.F.plainAttrs_list PySem.F.slot_list_append PySem.F.type_list_append mt_append (pe_fld (pv 0) rfl) (pa_cons (pv 1) pa_nil)))
      (pss_cons (ps_expr (pe_bm PySem.F.plainAttrs_list PySem.F.slot_list_append PySem.F.type_list_append mt_append (pe_fld (pv 0) rfl) (pa_cons (pe_fld (pv 0) rfl) pa_nil)))
      (pss_cons (ps_expr (pe_bm PySem.F.plainAttrs_list PySem.F.slot_list_append PySem.F.type_list_append mt_append (pe_fld (pv 0) rfl) (pa_cons pe_non pa_nil)))
      (pss_one (ps_ret (pe_ix (ix_tupK K rfl) (pv 1) (pe_globI (by rfl) T.c_NUMBER) (fun _ _ => rfl))))))))), ?_⟩
    try dsimp only [cxOf]
    obtain ⟨⟨dx, h1⟩, ⟨ps, h2, h5⟩, h3, h4, hpe, ⟨c6, h6, h6'⟩, ⟨c7, h7, h7'⟩, nd⟩ := id B
    have nox : (flds A0.pe A0.co A0.sp A0.ro A0.ca A0.we dn).lookup ("rows_kept" : Str) = none := fl_no (by decide +kernel)
    refine r_seq (r_drop (r_callX (r_cons (r_meth (r_var rfl (r_methA h1 nox (r_nil ?_)))))))
    refine ⟨A0, C, es, dn, .non, dn, rfl, B, hn, .inl ⟨rfl, rfl⟩, fun l ps' H1 s1 nl hl hR => ?_⟩
    refine r_cons (r_cb (r_cons (r_fld (r_var rfl ⟨A0.b, cB, dx, _, _, rfl, s1 _ _ h1, T.cl, T.n_rows, fl_rows, ?_⟩))))
    refine r_nil (r_lenL (.of (s1 _ _ h2)) ?_)
    have l5 : ps.length = es.length := by have := h5.1; rwa [List.length_map] at this
    have lps : ((List.map V.ref ps).length : Int) = (es.length : Int) := by rw [List.length_map, l5]
    rw [lps]
    refine r_cons (r_var rfl (r_nil ?_))
    refine ⟨l, _, q1, ps', keptE es dn, r, rfl, .of hl, hR, hcs, Nat.le_trans kept_len hn, hr1.mono s1.tupS, fun e H2 s2' => ?_, fun k e t H' s' ht => qe k e t _ (s1.trans s') ht⟩
    have s2 := s1.trans s2'
    have g1 := s2 _ _ h1
    have g2 := s2 _ _ h2
    have g3 := s2 _ _ h3
    have g4 := s2 _ _ h4
    have br : A0.ro ≠ A0.b := ne_of g2 g1 (by intro z; cases z)
    have bc : A0.ca ≠ A0.b := ne_of g3 g1 (by intro z; cases z)
    have bw : A0.we ≠ A0.b := ne_of g4 g1 (by intro z; cases z)
    have nd' := nd
    simp only [List.nodup_cons, List.mem_cons, List.not_mem_nil, or_false, not_or, List.nodup_nil, and_true, not_false_eq_true] at nd'
    obtain ⟨⟨n1, n2, n11, n12, n13⟩, ⟨n3, n21, n22, n23⟩, ⟨n31, n32, n33⟩, _⟩ := nd'
    have zs : ∀ {k : Nat}, k = es.length → k < sizeLine := fun h => small1000 (by omega)
    refine r_seq (r_saug (r_var rfl ⟨A0.b, cB, dx, _, _, rfl, g1, T.cl, T.n_done, fl_done, r_c (r_I0 ⟨dx, _, g1, fl_len, ?_⟩)⟩))
    rw [fl_put]
    refine r_seq (r_drop (r_bm (r_fld (r_var rfl ⟨A0.b, cB, dx, _, _, rfl, upd_same, T.cl, T.n_rows, fl_rows, ?_⟩))))
    have g2' : upd H2 A0.b (.ins cB dx (flds A0.pe A0.co A0.sp A0.ro A0.ca A0.we (dn + 1))) A0.ro = some (.lst (List.map V.ref ps)) := by rw [upd_ne br]; exact g2
    refine r_tyL (.of g2') (r_cons (r_var rfl (r_nil (r_app g2' (zs (by rw [List.length_map, l5])) ?_))))
    refine r_seq (r_drop (r_bm (r_fld (r_var rfl ⟨A0.b, cB, dx, _, _, rfl, by rw [upd_ne (Ne.symm br), upd_same], T.cl, T.n_came, fl_came, ?_⟩))))
    have g3' : upd (upd H2 A0.b (.ins cB dx (flds A0.pe A0.co A0.sp A0.ro A0.ca A0.we (dn + 1)))) A0.ro (.lst (List.map V.ref ps ++ [.ref q1])) A0.ca = some (.lst (es.map fun e => V.int e.came)) := by rw [upd_ne (Ne.symm n1), upd_ne bc]; exact g3
    refine r_tyL (.of g3') (r_cons (r_fld (r_var rfl ⟨A0.b, cB, dx, _, _, rfl, by rw [upd_ne (Ne.symm br), upd_same], T.cl, T.n_done, fl_done, ?_⟩)))
    refine r_nil (r_app g3' (zs (by rw [List.length_map])) ?_)
    refine r_seq (r_drop (r_bm (r_fld (r_var rfl ⟨A0.b, cB, dx, _, _, rfl, by rw [upd_ne (Ne.symm bc), upd_ne (Ne.symm br), upd_same], T.cl, T.n_went, fl_went, ?_⟩))))
    have g4' : upd (upd (upd H2 A0.b (.ins cB dx (flds A0.pe A0.co A0.sp A0.ro A0.ca A0.we (dn + 1)))) A0.ro (.lst (List.map V.ref ps ++ [.ref q1]))) A0.ca (.lst ((es.map fun e => V.int e.came) ++ [.int (dn + 1)])) A0.we = some (.lst (es.map fun e => optV e.went)) := by rw [upd_ne (Ne.symm n3), upd_ne (Ne.symm n2), upd_ne bw]; exact g4
    refine r_tyL (.of g4') (r_cons (r_c (r_nil (r_app g4' (zs (by rw [List.length_map])) ?_))))
    have kp : ∀ x o, H2 x = some o → x ≠ A0.b → x ≠ A0.ro → x ≠ A0.ca → x ≠ A0.we → (upd (upd (upd (upd H2 A0.b (.ins cB dx (flds A0.pe A0.co A0.sp A0.ro A0.ca A0.we (dn + 1)))) A0.ro (.lst (List.map V.ref ps ++ [.ref q1]))) A0.ca (.lst ((es.map fun e => V.int e.came) ++ [.int (dn + 1)]))) A0.we (.lst ((es.map fun e => optV e.went) ++ [.non]))) x = some o := fun x o ex x1 x2 x3 x4 => by
      rw [upd_ne x4, upd_ne x3, upd_ne x2, upd_ne x1]
      exact ex
    have tup1 : TupS H2 _ := fun x ys ex => kp x _ ex (ne_of ex g1 (by intro z; cases z)) (ne_of ex g2 (by intro z; cases z)) (ne_of ex g3 (by intro z; cases z)) (ne_of ex g4 (by intro z; cases z))
    have hq := (hr1.mono s2.tupS).mono tup1
    obtain ⟨xs1, hh1⟩ := hq.head
    refine r_ret (r_op (r_var rfl (r_c (r_ixT (v := .int r.num) (.of hh1) (atI_nat (j := 0) rfl) ?_))))
    have kl : ∀ {x : Addr} {ys : List V}, H x = some (.lst ys) → x ≠ A0.ro → x ≠ A0.ca → x ≠ A0.we → _ := fun {x ys} ex x2 x3 x4 => kp x (.lst ys) (s2 _ _ ex) (ne_b h1 ex) x2 x3 x4
    refine q e _ ⟨⟨dx, ?_⟩, ⟨ps ++ [q1], ?_, ?_⟩, ?_, ?_, kl hpe (Ne.symm n11) (Ne.symm n21) (Ne.symm n31), ⟨c6, kl h6 (Ne.symm n12) (Ne.symm n22) (Ne.symm n32), (h6'.same s2).tupS tup1⟩, ⟨c7, kl h7 (Ne.symm n13) (Ne.symm n23) (Ne.symm n33), (h7'.same s2).tupS tup1⟩, nd⟩ ?_
    · rw [upd_ne (Ne.symm bw), upd_ne (Ne.symm bc), upd_ne (Ne.symm br), upd_same]
    · rw [upd_ne n2, upd_ne n1, upd_same, List.map_append]
      rfl
    · rw [List.map_append]
      exact ((h5.mono s2.tupS).mono tup1).push hq
    · rw [upd_ne n3, upd_same, List.map_append]
      rfl
    · rw [upd_same, List.map_append]
      rfl
    · intro x o ex x1 x2 x3 x4
      exact kp x o (s2 _ _ ex) x1 x2 x3 x4

theorem scBookUndo : FnScope ["self", "row", "kept", "others"] ["self", "row"] (defScope sBookUndo) := ⟨rfl, rfl, rfl, by decide +kernel, rfl, by decide +kernel, by decide +kernel⟩
theorem ok_BookUndo {f : Addr} {fd : FuncData} {dV : Value} (F : FunD K "undo" "Book.undo" sBookUndo f fd dV) (T : Txt K mg cB c_CostError c_Full c_NoClaim c_RoundOver c_TooLate c_Twice c_TooMuch c_NoRow c_Needed) (GBookRowsKeptD : MtF P w K mg base CX0 cB "rows_kept" 1 ["self", "mark"] [.non] (spKeptRowsU cB)) (GCheckAnew : Fn P w K mg base "check_anew" 5 ["rows"] (spAnew K)) : FnOk P w K mg base (CX1 P w) 6 f fd ["self", "row"] (spUndoU cB [c_Full, c_NoClaim, c_RoundOver, c_TooLate, c_Twice, c_TooMuch, c_NoRow]) := by
  refine F.okX scBookUndo (fun vs H Q E h => ?_) (fun cdv A outer s H vs Q E hr h => ?_)
  · obtain ⟨A0, C, es, dn, i, rfl, B, hn, hnum, hA, q, qe⟩ := h
    rfl
  · obtain ⟨A0, C, es, dn, i, rfl, B, hn, hnum, hA, q, qe⟩ := h
    refine ⟨_, (pss_cons (ps_set (i := 2) scBookUndo.nd rfl (Or.inl rfl) (pe_mt0 GBookRowsKeptD T.cl hr (by decide) pass0 (pv 0)))
      (pss_cons (ps_comp ["self", "row", "kept", "others"] (defScope sBookUndo) 1 [1] ["other", "row"] (i := 3) scBookUndo.nd rfl rfl (by decide +kernel) (pi_list (pv 2)) (fun _ _ _ _ => (pg_name (i := 0) (show List.Nodup (["other", "row"] : List Str) by decide +kernel) rfl (Or.inl rfl))) (fun _ _ _ _ => (pts_one (pt_cmpR op_ne (pe_ix (ix_tupK K rfl) (pv 0) (pe_globI (by rfl) T.c_NUMBER) (fun _ _ => rfl)) (pv 1) (nomark _)))) (fun _ _ _ _ => (pv 0)) (by decide +kernel) (by decide +kernel) (by decide +kernel))
      (pss_cons (ps_if (pt_cmpR op_eq (pe_callB (cb_lenK K rfl) (by rfl) T.b_len PySem.boot_len (pa_cons (pv 3) pa_nil)) (pe_callB (cb_lenK K rfl) (by rfl) T.b_len PySem.boot_len (pa_cons (pv 2) pa_nil)) (nomark _)) (pss_one (ps_raise raiseX hr.hd (by rfl) T.y_NoRow T.x_NoRow (pa_cons pe_str pa_nil))) pss_nil)
      (pss_cons (ps_tryOk (fun pn xe => (pss_one (ps_expr (pe_fn GCheckAnew hr (by decide) (by rfl) (pa_cons (pv 3) pa_nil))))))
      (pss_cons (ps_fldaug (pv 0) pe_int iop_add)
      (pss_cons (ps_asg (pe_fld (pv 0) rfl) (pg_sub (pe_fld (pv 0) rfl) (pv 1) set_list))
      (pss_one (ps_ret (pv 1))))))))), ?_⟩
    try dsimp only [cxOf]
    obtain ⟨⟨dx, h1⟩, ⟨ps, h2, h5⟩, h3, h4, hpe, ⟨c6, h6, h6'⟩, ⟨c7, h7, h7'⟩, nd⟩ := id B
    have nox : (flds A0.pe A0.co A0.sp A0.ro A0.ca A0.we dn).lookup ("rows_kept" : Str) = none := fl_no (by decide +kernel)
    refine r_seq (r_asg (r_meth (r_var rfl (r_methA h1 nox (r_nil ?_)))))
    refine ⟨A0, C, es, dn, .non, dn, rfl, B, hn, .inl ⟨rfl, rfl⟩, fun l ps' H1 s1 nl hl hR => r_name ?_⟩
    dsimp only
    have lk : (keptE es dn).length ≤ 300 := Nat.le_trans kept_len hn
    have lp := hR.1
    have hkn : (∃ r ∈ keptE es dn, r.num = i) → ∃ j : Nat, i = (j : Int) ∧ j < es.length := fun z => kept_num hnum z
    generalize keptE es dn = ks at *
    refine r_seq (r_asg (r_comp (r_ilist (r_var rfl ⟨l, rfl, ⟨_, .of hl⟩, fun D nD => ?_⟩))))
    refine comp_listP (fun j => decide ((ks.getD j (.dun 0 0 0)).num ≠ i)) (fun j => .ref (ps'.getD j 0)) nD (.of hl) (by rw [List.length_map]; omega) ?_ ?_ ?_
    · intro j x H' q' hx sm k
      rw [List.getElem?_map] at hx
      obtain ⟨b, e1, rfl⟩ := Option.map_eq_some_iff.mp hx
      have hj : j < ps'.length := (List.getElem?_eq_some_iff.mp e1).1
      have hjr : j < ks.length := by omega
      obtain ⟨xs0, hb0⟩ := ((hR.2 j b ks[j] e1 (by simp [hjr])).mono sm.tupS).head
      have ee : ks.getD j (.dun 0 0 0) = ks[j] := by simp [List.getD, hjr]
      refine r_test (r_op (r_op (r_var rfl (r_c (r_ixT (v := .int ks[j].num) (.of hb0) (atI_nat (j := 0) rfl) ?_)))))
      refine r_var rfl (r_NeI ⟨_, rfl, ?_⟩)
      have k := k _ (Same.refl _)
      rw [ee] at k
      rw [show (decide (ks[j].num ≠ i)) = !decide (ks[j].num = i) by simp] at k
      exact k
    · intro j x H' q' hx sm k
      have ex : x = V.ref (ps'.getD j 0) := by
        obtain ⟨hi, ex⟩ := List.getElem?_eq_some_iff.mp hx
        rw [List.length_map] at hi
        rw [← ex]; simp [List.getD, hi]
      subst ex
      exact r_var rfl (k _ (Same.refl _))
    intro H2 s2 hD
    refine r_name ?_
    dsimp only
    rw [List.length_map] at hD
    have eo : ks.filter (fun r => decide (r.num ≠ i)) = ((List.range ps'.length).filter fun j => decide ((ks.getD j (.dun 0 0 0)).num ≠ i)).map fun j => ks.getD j (.dun 0 0 0) := by
      rw [filter_range (.dun 0 0 0) ks, lp]
    have lo : (((List.range ps'.length).filter fun j => decide ((ks.getD j (.dun 0 0 0)).num ≠ i)).map fun j => V.ref (ps'.getD j 0)).length = (ks.filter (fun r => decide (r.num ≠ i))).length := by rw [eo, List.length_map, List.length_map]
    have hO := (hR.mono s2.tupS).pick ((List.range ps'.length).filter fun j => decide ((ks.getD j (.dun 0 0 0)).num ≠ i)) (fun j hj => by have := List.mem_range.mp (List.mem_filter.mp hj).1; omega) (.dun 0 0 0)
    rw [← eo] at hO
    have hD' : H2 D = some (.lst (List.map V.ref (((List.range ps'.length).filter fun j => decide ((ks.getD j (.dun 0 0 0)).num ≠ i)).map fun j => ps'.getD j 0))) := by
      rw [hD, List.map_map]
      rfl
    refine r_seq (r_ifS (r_test (r_op (r_cb (r_cons (r_var rfl (r_nil (r_lenL (.of hD) ?_))))))))
    refine r_cb (r_cons (r_var rfl (r_nil (r_lenL (.of (s2 _ _ hl)) (r_EqI ⟨_, rfl, ?_⟩)))))
    rw [lo, List.length_map, lp]
    have hfl : (ks.filter (fun r => decide (r.num ≠ i))).length = ks.length ↔ ¬ ∃ r ∈ ks, r.num = i := by
      rw [List.length_filter_eq_length_iff]
      constructor
      · rintro h ⟨r, hr, e⟩
        have := h r hr
        simp [e] at this
      · intro h r hr
        simp only [decide_eq_true_eq]
        exact fun e => h ⟨r, hr, e⟩
    refine ite2 (fun z => ?_) (fun z => ?_)
    · have z : (ks.filter (fun r => decide (r.num ≠ i))).length = ks.length := Int.ofNat_inj.mp (of_decide_eq_true z)
      refine r_raise (r_cons (r_c (r_nil ⟨by show 1 ≤ sizeLine; decide, fun t nt => ?_⟩)))
      exact qe (hfl.mp z) t _ ((s1.trans s2).trans (Same.new nt)) upd_same
    have z : ¬ (ks.filter (fun r => decide (r.num ≠ i))).length = ks.length := fun y => z (decide_eq_true (by rw [y]))
    have hex : ∃ r ∈ ks, r.num = i := Decidable.byContradiction fun y => z (hfl.mpr y)
    obtain ⟨j, rfl, hj⟩ := hkn hex
    refine r_next ?_
    dsimp only
    refine r_seq (r_drop (r_callX (r_cons (r_var rfl (r_nil ?_)))))
    refine ⟨D, _, _, rfl, .of hD', hO, hA, Nat.le_trans (List.length_filter_le _ _) lk, fun H3 s3 => ?_⟩
    dsimp only
    have sF := (s1.trans s2).trans s3
    have g1 := sF _ _ h1
    have g4 := sF _ _ h4
    have bw : A0.we ≠ A0.b := ne_of g4 g1 (by intro z; cases z)
    have nd' := nd
    simp only [List.nodup_cons, List.mem_cons, List.not_mem_nil, or_false, not_or, List.nodup_nil, and_true, not_false_eq_true] at nd'
    obtain ⟨⟨n1, n2, n11, n12, n13⟩, ⟨n3, n21, n22, n23⟩, ⟨n31, n32, n33⟩, _⟩ := nd'
    refine r_seq (r_saug (r_var rfl ⟨A0.b, cB, dx, _, _, rfl, g1, T.cl, T.n_done, fl_done, r_c (r_I0 ⟨dx, _, g1, fl_len, ?_⟩)⟩))
    rw [fl_put]
    refine r_seq (r_asg (r_fld (r_var rfl ⟨A0.b, cB, dx, _, _, rfl, upd_same, T.cl, T.n_done, fl_done, ?_⟩)))
    refine r_gsub (r_fld (r_var rfl ⟨A0.b, cB, dx, _, _, rfl, upd_same, T.cl, T.n_went, fl_went, ?_⟩))
    have g4' : upd H3 A0.b (.ins cB dx (flds A0.pe A0.co A0.sp A0.ro A0.ca A0.we (dn + 1))) A0.we = some (.lst (es.map fun e => optV e.went)) := by rw [upd_ne bw]; exact g4
    refine r_var rfl (r_setL (j := j) g4' (by unfold ixN; rw [if_pos (by omega), if_pos (by rw [List.length_map]; omega)]; congr 1) ?_)
    refine r_ret (r_var rfl ?_)
    have kp : ∀ x o, H3 x = some o → x ≠ A0.b → x ≠ A0.we → (upd (upd H3 A0.b (.ins cB dx (flds A0.pe A0.co A0.sp A0.ro A0.ca A0.we (dn + 1)))) A0.we (.lst ((es.map fun e => optV e.went).set j (V.int (dn + 1))))) x = some o := fun x o ex x1 x2 => by
      rw [upd_ne x2, upd_ne x1]
      exact ex
    have tup1 : TupS H3 _ := fun x ys ex => kp x _ ex (ne_of ex g1 (by intro z; cases z)) (ne_of ex g4 (by intro z; cases z))
    have kl : ∀ {x : Addr} {ys : List V}, H x = some (.lst ys) → x ≠ A0.we → _ := fun {x ys} ex x4 => kp x (.lst ys) (sF _ _ ex) (ne_b h1 ex) x4
    refine q hex _ ⟨⟨dx, ?_⟩, ⟨ps, kl h2 n2, ?_⟩, ?_, ?_, kl hpe (Ne.symm n31), ⟨c6, kl h6 (Ne.symm n32), (h6'.same sF).tupS tup1⟩, ⟨c7, kl h7 (Ne.symm n33), (h7'.same sF).tupS tup1⟩, nd⟩ ?_
    · rw [upd_ne (Ne.symm bw), upd_same]
    · rw [goneE_row]
      exact (h5.mono sF.tupS).mono tup1
    · rw [goneE_came]
      exact kl h3 n3
    · rw [upd_same, goneE_went hnum]
    · intro x o ex x1 x2 x3 x4
      exact kp x o (sF _ _ ex) x1 x4

theorem scBookMark : FnScope ["self"] ["self"] (defScope sBookMark) := ⟨rfl, rfl, rfl, by decide +kernel, rfl, by decide +kernel, by decide +kernel⟩
theorem ok_BookMark {f : Addr} {fd : FuncData} {dV : Value} (F : FunD K "mark" "Book.mark" sBookMark f fd dV) (T : Txt K mg cB c_CostError c_Full c_NoClaim c_RoundOver c_TooLate c_Twice c_TooMuch c_NoRow c_Needed) : FnOk P w K mg base CX0 1 f fd ["self"] (spMarkU cB) := by
  refine F.ok scBookMark (fun vs H Q E h => ?_) (fun cdv A outer s H vs Q E hr h => ?_)
  · obtain ⟨A0, C, es, dn, rfl, B, q⟩ := h
    rfl
  · obtain ⟨A0, C, es, dn, rfl, B, q⟩ := h
    refine ⟨_, (pss_one (ps_ret (pe_fld (pv 0) rfl))), ?_⟩
    try dsimp only [cxOf]
    obtain ⟨⟨dx, h1⟩, _⟩ := B
    refine r_ret (r_fld (r_var rfl ⟨A0.b, cB, dx, _, _, rfl, h1, T.cl, T.n_done, fl_done, ?_⟩))
    exact q

theorem scBookRowsKept : FnScope ["self", "mark", "at"] ["self", "mark"] (defScope sBookRowsKept) := ⟨rfl, rfl, rfl, by decide +kernel, rfl, by decide +kernel, by decide +kernel⟩
theorem ok_BookRowsKept {f : Addr} {fd : FuncData} {dV : Value} (F : FunD K "rows_kept" "Book.rows_kept" sBookRowsKept f fd dV) (T : Txt K mg cB c_CostError c_Full c_NoClaim c_RoundOver c_TooLate c_Twice c_TooMuch c_NoRow c_Needed) : FnOk P w K mg base CX0 1 f fd ["self", "mark"] (spKeptRowsU cB) := by
  refine F.ok scBookRowsKept (fun vs H Q E h => ?_) (fun cdv A outer s H vs Q E hr h => ?_)
  · obtain ⟨A0, C, es, dn, mv, m, rfl, B, hn, hm, q⟩ := h
    rfl
  · obtain ⟨A0, C, es, dn, mv, m, rfl, B, hn, hm, q⟩ := h
    refine ⟨_, (pss_cons (ps_set (i := 2) scBookRowsKept.nd rfl (Or.inr rfl) (pe_ifExp (pt_cmpR op_isN (pv 1) pe_non (nomark _)) (pe_fld (pv 0) rfl) (pv 1)))
      (pss_one (ps_ret (pe_comp ["self", "mark", "at"] (defScope sBookRowsKept) 3 [2] ["row", "came", "went", "at"] rfl (by decide +kernel) (pi_zip3 (by rfl) T.b_zip (pa_cons (pe_fld (pv 0) rfl) (pa_cons (pe_fld (pv 0) rfl) (pa_cons (pe_fld (pv 0) rfl) pa_nil)))) (fun _ _ _ _ => (pg_tupK (n := 3) K rfl rfl (pgs_cons (pg_name (i := 0) (show List.Nodup (["row", "came", "went", "at"] : List Str) by decide +kernel) rfl (Or.inl rfl)) (pgs_cons (pg_name (i := 1) (show List.Nodup (["row", "came", "went", "at"] : List Str) by decide +kernel) rfl (Or.inl rfl)) (pgs_cons (pg_name (i := 2) (show List.Nodup (["row", "came", "went", "at"] : List Str) by decide +kernel) rfl (Or.inl rfl)) pgs_nil))))) (fun _ _ _ _ => (pts_one (PW.pt (pw_and (pt_cmpR op_le (pv 1) (pv 3) (nomark _)) (pw_and1 (PW.pt (pw_or (pt_cmpR op_isN (pv 2) pe_non (nomark _)) (pw_or1 (pt_cmpR op_lt (pv 3) (pv 2) (nomark _)))))))))) (fun _ _ _ _ => (pv 0)) (by decide +kernel) (by decide +kernel) (by decide +kernel))))), ?_⟩
    try dsimp only [cxOf]
    obtain ⟨⟨dx, h1⟩, ⟨ps, h2, h5⟩, h3, h4, _⟩ := B
    have lps := h5.1
    rw [List.length_map] at lps
    refine r_seq ?_
    refine' joinS (M := fun σ H2 => σ = [some (.ref A0.b), some mv, some (.int m)] ∧ H2 = H) ?a ?b
    case a =>
      intro k
      rcases hm with ⟨rfl, rfl⟩ | rfl
      · walk_at "rd"
        refine ⟨rfl, _, rfl, iteP (by simp) ?_⟩
        refine r_fld (r_var rfl ⟨A0.b, cB, dx, _, _, rfl, h1, T.cl, T.n_done, fl_done, ?_⟩)
        exact r_name (k _ _ ⟨rfl, rfl⟩)
      · walk_at "rd"
        refine ⟨rfl, _, rfl, iteN (by simp) ?_⟩
        exact r_var rfl (r_name (k _ _ ⟨rfl, rfl⟩))
    case b =>
    rintro σ H2 ⟨rfl, rfl⟩
    dsimp only
    refine r_ret (r_comp (r_zip3 (r_cons (r_fld (r_var rfl ⟨A0.b, cB, dx, _, _, rfl, h1, T.cl, T.n_rows, fl_rows, ?_⟩)))))
    refine r_cons (r_fld (r_var rfl ⟨A0.b, cB, dx, _, _, rfl, h1, T.cl, T.n_came, fl_came, ?_⟩))
    refine r_cons (r_fld (r_var rfl ⟨A0.b, cB, dx, _, _, rfl, h1, T.cl, T.n_went, fl_went, ?_⟩))
    refine r_nil ⟨A0.ro, A0.ca, A0.we, rfl, ⟨_, .of h2⟩, ⟨_, .of h3⟩, ⟨_, .of h4⟩, fun D nD => ?_⟩
    refine compZ3 (xs := List.map V.ref ps) (fun i => (es.getD i default).on m) (fun i => V.ref (ps.getD i 0)) nD (.of h2) (.of h3) (.of h4) (by simp [lps]) (by simp [lps]) (by rw [List.length_map]; omega) ?_ ?_ ?_
    · intro i x y z H' q' e1 e2 e3 sm k
      have hi : i < es.length := by
        have := (List.getElem?_eq_some_iff.mp e1).1
        rw [List.length_map] at this
        omega
      have ee : es.getD i default = es[i] := by simp [List.getD, hi]
      have ey : y = .int es[i].came := by simp [hi] at e2; exact e2.symm
      have ez : z = optV es[i].went := by simp [hi] at e3; exact e3.symm
      subst ey ez
      rw [ee] at k
      refine r_and (r_test (r_op (r_var rfl (r_var rfl (r_I0 ⟨_, rfl, ?_⟩)))))
      unfold En.on at k
      refine ite2 (fun y => ?_) (fun y => ?_)
      · rw [y, Bool.true_and] at k
        refine r_or (r_test (r_op (r_var rfl (r_c ⟨rfl, ⟨_, rfl, ?_⟩⟩))))
        cases hw : es[i].went with
        | none =>
          rw [hw] at k
          refine iteP (by simp [optV]) ?_
          exact k _ (Same.refl _)
        | some g =>
          rw [hw] at k
          refine iteN (by simp [optV]) ?_
          refine r_test (r_op (r_var rfl (r_var (v := .int g) rfl (r_I0 ⟨_, rfl, ?_⟩))))
          exact k _ (Same.refl _)
      · have y' : decide (es[i].came ≤ m) = false := by simpa using y
        rw [y', Bool.false_and] at k
        exact k _ (Same.refl _)
    · intro i x y z H' q' e1 e2 e3 _ sm k
      have hi : i < ps.length := by
        have := (List.getElem?_eq_some_iff.mp e1).1
        rw [List.length_map] at this
        exact this
      have ex : x = V.ref (ps.getD i 0) := by
        rw [List.getElem?_map] at e1
        simp [hi] at e1
        rw [← e1]
        simp [List.getD, hi]
      subst ex
      exact r_var rfl (k _ (Same.refl _))
    · intro H' sm hD
      have ek : keptE es m = ((List.range ps.length).filter fun i => (es.getD i default).on m).map fun i => (es.map En.row).getD i (En.row default) := by
        unfold keptE
        rw [filter_range default es, lps, List.map_map]
        refine List.map_congr_left fun i _ => ?_
        show En.row (es.getD i default) = _
        rw [List.getD_eq_getElem?_getD, List.getD_eq_getElem?_getD, List.getElem?_map]
        cases es[i]? <;> rfl
      refine q D (((List.range ps.length).filter fun i => (es.getD i default).on m).map fun i => ps.getD i 0) H' sm nD ?_ ?_
      · rw [hD, List.length_map, List.map_map]
        rfl
      · rw [ek]
        refine (h5.mono sm.tupS).pick _ (fun i hi => ?_) _
        have := List.mem_range.mp (List.mem_filter.mp hi).1
        rw [List.length_map]
        omega

theorem scBookKept : FnScope ["self", "mark"] ["self", "mark"] (defScope sBookKept) := ⟨rfl, rfl, rfl, by decide +kernel, rfl, by decide +kernel, by decide +kernel⟩
theorem ok_BookKept {f : Addr} {fd : FuncData} {dV : Value} (F : FunD K "kept" "Book.kept" sBookKept f fd dV) (T : Txt K mg cB c_CostError c_Full c_NoClaim c_RoundOver c_TooLate c_Twice c_TooMuch c_NoRow c_Needed) (GBookRowsKept : MtF P w K mg base CX0 cB "rows_kept" 1 ["self", "mark"] [] (spKeptRowsU cB)) (GRowText : Fn P w K mg base "row_text" 1 ["row"] (spTextU)) : FnOk P w K mg base CX0 2 f fd ["self", "mark"] (spKeptU cB) := by
  refine F.ok scBookKept (fun vs H Q E h => ?_) (fun cdv A outer s H vs Q E hr h => ?_)
  · obtain ⟨A0, C, es, dn, mv, m, rfl, B, hn, hm, hc, q⟩ := h
    rfl
  · obtain ⟨A0, C, es, dn, mv, m, rfl, B, hn, hm, hc, q⟩ := h
    refine ⟨_, (pss_one (ps_ret (pe_comp ["self", "mark"] (defScope sBookKept) 1 [] ["row"] rfl (by decide +kernel) (pi_list (pe_mt GBookRowsKept T.cl hr (by decide) pass0 (pv 0) (pa_cons (pv 1) pa_nil))) (fun _ _ _ _ => (pg_name (i := 0) (show List.Nodup (["row"] : List Str) by decide +kernel) rfl (Or.inl rfl))) (fun _ _ _ _ => pts_nil) (fun _ _ _ _ => (pe_fn GRowText hr (by decide) (by rfl) (pa_cons (pv 0) pa_nil))) (by decide +kernel) (by decide +kernel) (by decide +kernel)))), ?_⟩
    try dsimp only [cxOf]
    obtain ⟨⟨dx, h1⟩, _⟩ := id B
    have nox : (flds A0.pe A0.co A0.sp A0.ro A0.ca A0.we dn).lookup ("rows_kept" : Str) = none := fl_no (by decide +kernel)
    refine r_ret (r_comp (r_ilist (r_meth (r_var rfl (r_methA h1 nox (r_cons (r_var rfl (r_nil ?_))))))))
    refine ⟨A0, C, es, dn, mv, m, rfl, B, hn, hm, fun l ps' H1 s1 nl hl hR => ?_⟩
    refine ⟨l, rfl, ⟨_, .of hl⟩, fun D nD => ?_⟩
    have lps := hR.1
    have lk : (keptE es m).length ≤ 300 := Nat.le_trans kept_len hn
    generalize keptE es m = rows at *
    refine comp_listF (xs := List.map V.ref ps') (fun i => V.str ((rows.map textU).getD i "")) nD (.of hl) (by rw [List.length_map]; omega) ?_ ?_
    · intro i x H' q' ex sm k
      have hi : i < ps'.length := by
        have := (List.getElem?_eq_some_iff.mp ex).1
        rw [List.length_map] at this
        exact this
      have hir : i < rows.length := by omega
      have ex' : x = V.ref ps'[i] := by
        rw [List.getElem?_map] at ex
        simp [hi] at ex
        exact ex.symm
      subst ex'
      have hb := (hR.2 i ps'[i] rows[i] (by simp [hi]) (by simp [hir])).mono sm.tupS
      have c2 := hc rows[i] (List.getElem_mem hir)
      refine r_callX (r_cons (r_var rfl (r_nil ⟨_, rows[i], rfl, hb, c2, fun H'' s'' => ?_⟩)))
      have := k H'' s''
      have e : (rows.map textU).getD i "" = textU rows[i] := by simp [List.getD, hir]
      rw [e] at this
      exact this
    · intro H' sm hD
      refine q D H' (s1.trans sm) ?_
      rw [hD, List.length_map, lps]
      congr 1
      congr 1
      apply List.ext_getElem?
      intro i
      by_cases h : i < rows.length
      · simp [h, List.getD]
      · simp [Nat.not_lt.mp h]

end
theorem all_mk {l : PySem.W.OpenLaw} {w : World} {K : PySem.W.Frag} {h : Heap} {mg : Str → Option Value} {fa cB c_CostError c_Full c_NoClaim c_RoundOver c_TooLate c_Twice c_TooMuch c_NoRow c_Needed f0 f1 f2 f3 f4 f5 f6 f7 f8 f9 f10 f11 f12 f13 f14 f15 f16 f17 f18 f19 f20 f21 f22 f23 f24 f25 f26 f27 f28 f29 f30 : Addr} (X : K.In h) (G : h.Ns mainGlobals mg) (hfa : mg "law" = some (.ref fa))
    {od0 an0 od1 an1 od2 an2 od3 an3 od4 an4 od5 an5 od6 an6 od7 an7 od8 an8 od9 an9 od10 an10 od11 an11 od12 an12 od13 an13 od14 an14 od15 an15 od16 an16 od17 an17 od18 an18 od19 an19 od20 an20 od21 an21 od22 an22 od23 an23 od24 an24 od25 an25 od26 an26 od27 an27 od28 an28 od29 an29 od30 an30 : Option Addr} {sl0 sl1 sl2 sl3 sl4 sl5 sl6 sl7 sl8 sl9 sl10 sl11 sl12 sl13 sl14 sl15 sl16 sl17 sl18 sl19 sl20 sl21 sl22 sl23 sl24 sl25 sl26 sl27 sl28 sl29 sl30 : Array (Option Value)} {oc0 kV0 dc0 pm0 cd0 ct0 oc1 kV1 dc1 pm1 cd1 ct1 oc2 kV2 dc2 pm2 cd2 ct2 oc3 kV3 dc3 pm3 cd3 ct3 oc4 kV4 dc4 pm4 cd4 ct4 oc5 kV5 dc5 pm5 cd5 ct5 oc6 kV6 dc6 pm6 cd6 ct6 oc7 kV7 dc7 pm7 cd7 ct7 oc8 kV8 dc8 pm8 cd8 ct8 oc9 kV9 dc9 pm9 cd9 ct9 oc10 kV10 dc10 pm10 cd10 ct10 oc11 kV11 dc11 pm11 cd11 ct11 oc12 kV12 dc12 pm12 cd12 ct12 oc13 kV13 dc13 pm13 cd13 ct13 oc14 kV14 dc14 pm14 cd14 ct14 oc15 kV15 dc15 pm15 cd15 ct15 oc16 kV16 dc16 pm16 cd16 ct16 oc17 kV17 dc17 pm17 cd17 ct17 oc18 kV18 dc18 pm18 cd18 ct18 oc19 kV19 dc19 pm19 cd19 ct19 oc20 kV20 dc20 pm20 cd20 ct20 oc21 kV21 dc21 pm21 cd21 ct21 oc22 kV22 dc22 pm22 cd22 ct22 oc23 kV23 dc23 pm23 cd23 ct23 oc24 kV24 dc24 pm24 cd24 ct24 oc25 kV25 dc25 pm25 cd25 ct25 oc26 kV26 dc26 pm26 cd26 ct26 oc27 kV27 dc27 pm27 cd27 ct27 oc28 kV28 dc28 pm28 cd28 ct28 oc29 kV29 dc29 pm29 cd29 ct29 oc30 kV30 dc30 pm30 cd30 ct30 : Value} {tk_CLAIM tk_DAY tk_MOST_ROWS tk_NUMBER tk_OFFER_AMOUNT tk_OFFER_CLAIM tk_ROUNDS tk_RULE_WINS tk_TURN tk_WORD tk_WORTH : Tok}
    {dT29 dT30 : Addr} {do29 do30 : Value} {dd29 dd30 : Option Addr} {dn29 dn30 : Nat} {ds29 ds30 : Array (Option Value)}
    (aB : PySem.W.nsIn K mainGlobals "Book" = some (some (.ref cB)))
    (e_CostError : PySem.W.nsIn K mainGlobals "CostError" = some (some (.ref c_CostError)))
    (e_Full : PySem.W.nsIn K mainGlobals "Full" = some (some (.ref c_Full)))
    (e_NoClaim : PySem.W.nsIn K mainGlobals "NoClaim" = some (some (.ref c_NoClaim)))
    (e_RoundOver : PySem.W.nsIn K mainGlobals "RoundOver" = some (some (.ref c_RoundOver)))
    (e_TooLate : PySem.W.nsIn K mainGlobals "TooLate" = some (some (.ref c_TooLate)))
    (e_Twice : PySem.W.nsIn K mainGlobals "Twice" = some (some (.ref c_Twice)))
    (e_TooMuch : PySem.W.nsIn K mainGlobals "TooMuch" = some (some (.ref c_TooMuch)))
    (e_NoRow : PySem.W.nsIn K mainGlobals "NoRow" = some (some (.ref c_NoRow)))
    (e_Needed : PySem.W.nsIn K mainGlobals "Needed" = some (some (.ref c_Needed)))
    (a0 : PySem.W.nsIn K mainGlobals "pay_row" = some (some (.ref f0)))
    (l0 : K.lookup f0 = some ⟨oc0, od0, .func (PySem.W.fnOf "pay_row" "pay_row" (defArgs sPayRow) (defBody sPayRow) (defScope sPayRow) (.none) kV0 dc0 pm0 an0 cd0 ct0), sl0⟩)
    (c0 : PySem.W.codeIn K cd0 "pay_row" = true)
    (k0 : PySem.W.keepIn K (.ref f0) = true)
    (a1 : PySem.W.nsIn K mainGlobals "dun_row" = some (some (.ref f1)))
    (l1 : K.lookup f1 = some ⟨oc1, od1, .func (PySem.W.fnOf "dun_row" "dun_row" (defArgs sDunRow) (defBody sDunRow) (defScope sDunRow) (.none) kV1 dc1 pm1 an1 cd1 ct1), sl1⟩)
    (c1 : PySem.W.codeIn K cd1 "dun_row" = true)
    (k1 : PySem.W.keepIn K (.ref f1) = true)
    (a2 : PySem.W.nsIn K mainGlobals "row_text" = some (some (.ref f2)))
    (l2 : K.lookup f2 = some ⟨oc2, od2, .func (PySem.W.fnOf "row_text" "row_text" (defArgs sRowText) (defBody sRowText) (defScope sRowText) (.none) kV2 dc2 pm2 an2 cd2 ct2), sl2⟩)
    (c2 : PySem.W.codeIn K cd2 "row_text" = true)
    (k2 : PySem.W.keepIn K (.ref f2) = true)
    (a3 : PySem.W.nsIn K mainGlobals "rounds_of" = some (some (.ref f3)))
    (l3 : K.lookup f3 = some ⟨oc3, od3, .func (PySem.W.fnOf "rounds_of" "rounds_of" (defArgs sRoundsOf) (defBody sRoundsOf) (defScope sRoundsOf) (.none) kV3 dc3 pm3 an3 cd3 ct3), sl3⟩)
    (c3 : PySem.W.codeIn K cd3 "rounds_of" = true)
    (k3 : PySem.W.keepIn K (.ref f3) = true)
    (a4 : PySem.W.nsIn K mainGlobals "put_row" = some (some (.ref f4)))
    (l4 : K.lookup f4 = some ⟨oc4, od4, .func (PySem.W.fnOf "put_row" "put_row" (defArgs sPutRow) (defBody sPutRow) (defScope sPutRow) (.none) kV4 dc4 pm4 an4 cd4 ct4), sl4⟩)
    (c4 : PySem.W.codeIn K cd4 "put_row" = true)
    (k4 : PySem.W.keepIn K (.ref f4) = true)
    (a5 : PySem.W.nsIn K mainGlobals "over_of" = some (some (.ref f5)))
    (l5 : K.lookup f5 = some ⟨oc5, od5, .func (PySem.W.fnOf "over_of" "over_of" (defArgs sOverOf) (defBody sOverOf) (defScope sOverOf) (.none) kV5 dc5 pm5 an5 cd5 ct5), sl5⟩)
    (c5 : PySem.W.codeIn K cd5 "over_of" = true)
    (k5 : PySem.W.keepIn K (.ref f5) = true)
    (a6 : PySem.W.nsIn K mainGlobals "claims_of" = some (some (.ref f6)))
    (l6 : K.lookup f6 = some ⟨oc6, od6, .func (PySem.W.fnOf "claims_of" "claims_of" (defArgs sClaimsOf) (defBody sClaimsOf) (defScope sClaimsOf) (.none) kV6 dc6 pm6 an6 cd6 ct6), sl6⟩)
    (c6 : PySem.W.codeIn K cd6 "claims_of" = true)
    (k6 : PySem.W.keepIn K (.ref f6) = true)
    (a7 : PySem.W.nsIn K mainGlobals "find_claim" = some (some (.ref f7)))
    (l7 : K.lookup f7 = some ⟨oc7, od7, .func (PySem.W.fnOf "find_claim" "find_claim" (defArgs sFindClaim) (defBody sFindClaim) (defScope sFindClaim) (.none) kV7 dc7 pm7 an7 cd7 ct7), sl7⟩)
    (c7 : PySem.W.codeIn K cd7 "find_claim" = true)
    (k7 : PySem.W.keepIn K (.ref f7) = true)
    (a8 : PySem.W.nsIn K mainGlobals "check_row" = some (some (.ref f8)))
    (l8 : K.lookup f8 = some ⟨oc8, od8, .func (PySem.W.fnOf "check_row" "check_row" (defArgs sCheckRow) (defBody sCheckRow) (defScope sCheckRow) (.none) kV8 dc8 pm8 an8 cd8 ct8), sl8⟩)
    (c8 : PySem.W.codeIn K cd8 "check_row" = true)
    (k8 : PySem.W.keepIn K (.ref f8) = true)
    (a9 : PySem.W.nsIn K mainGlobals "check_anew" = some (some (.ref f9)))
    (l9 : K.lookup f9 = some ⟨oc9, od9, .func (PySem.W.fnOf "check_anew" "check_anew" (defArgs sCheckAnew) (defBody sCheckAnew) (defScope sCheckAnew) (.none) kV9 dc9 pm9 an9 cd9 ct9), sl9⟩)
    (c9 : PySem.W.codeIn K cd9 "check_anew" = true)
    (k9 : PySem.W.keepIn K (.ref f9) = true)
    (a10 : PySem.W.nsIn K mainGlobals "check_next" = some (some (.ref f10)))
    (l10 : K.lookup f10 = some ⟨oc10, od10, .func (PySem.W.fnOf "check_next" "check_next" (defArgs sCheckNext) (defBody sCheckNext) (defScope sCheckNext) (.none) kV10 dc10 pm10 an10 cd10 ct10), sl10⟩)
    (c10 : PySem.W.codeIn K cd10 "check_next" = true)
    (k10 : PySem.W.keepIn K (.ref f10) = true)
    (a11 : PySem.W.nsIn K mainGlobals "lacks_claim" = some (some (.ref f11)))
    (l11 : K.lookup f11 = some ⟨oc11, od11, .func (PySem.W.fnOf "lacks_claim" "lacks_claim" (defArgs sLacksClaim) (defBody sLacksClaim) (defScope sLacksClaim) (.none) kV11 dc11 pm11 an11 cd11 ct11), sl11⟩)
    (c11 : PySem.W.codeIn K cd11 "lacks_claim" = true)
    (k11 : PySem.W.keepIn K (.ref f11) = true)
    (a12 : PySem.W.nsIn K mainGlobals "meets_over" = some (some (.ref f12)))
    (l12 : K.lookup f12 = some ⟨oc12, od12, .func (PySem.W.fnOf "meets_over" "meets_over" (defArgs sMeetsOver) (defBody sMeetsOver) (defScope sMeetsOver) (.none) kV12 dc12 pm12 an12 cd12 ct12), sl12⟩)
    (c12 : PySem.W.codeIn K cd12 "meets_over" = true)
    (k12 : PySem.W.keepIn K (.ref f12) = true)
    (a13 : PySem.W.nsIn K mainGlobals "comes_twice" = some (some (.ref f13)))
    (l13 : K.lookup f13 = some ⟨oc13, od13, .func (PySem.W.fnOf "comes_twice" "comes_twice" (defArgs sComesTwice) (defBody sComesTwice) (defScope sComesTwice) (.none) kV13 dc13 pm13 an13 cd13 ct13), sl13⟩)
    (c13 : PySem.W.codeIn K cd13 "comes_twice" = true)
    (k13 : PySem.W.keepIn K (.ref f13) = true)
    (a14 : PySem.W.nsIn K mainGlobals "names_too_much" = some (some (.ref f14)))
    (l14 : K.lookup f14 = some ⟨oc14, od14, .func (PySem.W.fnOf "names_too_much" "names_too_much" (defArgs sNamesTooMuch) (defBody sNamesTooMuch) (defScope sNamesTooMuch) (.none) kV14 dc14 pm14 an14 cd14 ct14), sl14⟩)
    (c14 : PySem.W.codeIn K cd14 "names_too_much" = true)
    (k14 : PySem.W.keepIn K (.ref f14) = true)
    (a15 : PySem.W.nsIn K mainGlobals "worth_in" = some (some (.ref f15)))
    (l15 : K.lookup f15 = some ⟨oc15, od15, .func (PySem.W.fnOf "worth_in" "worth_in" (defArgs sWorthIn) (defBody sWorthIn) (defScope sWorthIn) (.none) kV15 dc15 pm15 an15 cd15 ct15), sl15⟩)
    (c15 : PySem.W.codeIn K cd15 "worth_in" = true)
    (k15 : PySem.W.keepIn K (.ref f15) = true)
    (a16 : PySem.W.nsIn K mainGlobals "_law_int" = some (some (.ref f16)))
    (l16 : K.lookup f16 = some ⟨oc16, od16, .func (PySem.W.fnOf "_law_int" "_law_int" (defArgs sLInt) (defBody sLInt) (defScope sLInt) (.none) kV16 dc16 pm16 an16 cd16 ct16), sl16⟩)
    (c16 : PySem.W.codeIn K cd16 "_law_int" = true)
    (k16 : PySem.W.keepIn K (.ref f16) = true)
    (a17 : PySem.W.nsIn K mainGlobals "_law_texts" = some (some (.ref f17)))
    (l17 : K.lookup f17 = some ⟨oc17, od17, .func (PySem.W.fnOf "_law_texts" "_law_texts" (defArgs sLTexts) (defBody sLTexts) (defScope sLTexts) (.none) kV17 dc17 pm17 an17 cd17 ct17), sl17⟩)
    (c17 : PySem.W.codeIn K cd17 "_law_texts" = true)
    (k17 : PySem.W.keepIn K (.ref f17) = true)
    (a18 : PySem.W.nsIn K mainGlobals "_law_call" = some (some (.ref f18)))
    (l18 : K.lookup f18 = some ⟨oc18, od18, .func (PySem.W.fnOf "_law_call" "_law_call" (defArgs sLCall) (defBody sLCall) (defScope sLCall) (.none) kV18 dc18 pm18 an18 cd18 ct18), sl18⟩)
    (c18 : PySem.W.codeIn K cd18 "_law_call" = true)
    (k18 : PySem.W.keepIn K (.ref f18) = true)
    (a19 : PySem.W.nsIn K mainGlobals "_law_do" = some (some (.ref f19)))
    (l19 : K.lookup f19 = some ⟨oc19, od19, .func (PySem.W.fnOf "_law_do" "_law_do" (defArgs sLDo) (defBody sLDo) (defScope sLDo) (.none) kV19 dc19 pm19 an19 cd19 ct19), sl19⟩)
    (c19 : PySem.W.codeIn K cd19 "_law_do" = true)
    (k19 : PySem.W.keepIn K (.ref f19) = true)
    (a20 : PySem.W.nsIn K mainGlobals "_law_right" = some (some (.ref f20)))
    (l20 : K.lookup f20 = some ⟨oc20, od20, .func (PySem.W.fnOf "_law_right" "_law_right" (defArgs sLRight) (defBody sLRight) (defScope sLRight) (.none) kV20 dc20 pm20 an20 cd20 ct20), sl20⟩)
    (c20 : PySem.W.codeIn K cd20 "_law_right" = true)
    (k20 : PySem.W.keepIn K (.ref f20) = true)
    (a21 : PySem.W.nsIn K mainGlobals "_law_text" = some (some (.ref f21)))
    (l21 : K.lookup f21 = some ⟨oc21, od21, .func (PySem.W.fnOf "_law_text" "_law_text" (defArgs sLText) (defBody sLText) (defScope sLText) (.none) kV21 dc21 pm21 an21 cd21 ct21), sl21⟩)
    (c21 : PySem.W.codeIn K cd21 "_law_text" = true)
    (k21 : PySem.W.keepIn K (.ref f21) = true)
    (a22 : PySem.W.nsIn K mainGlobals "law" = some (some (.ref f22)))
    (l22 : K.lookup f22 = some ⟨oc22, od22, .func (PySem.W.fnOf "law" "law" (defArgs sLaw) (defBody sLaw) (defScope sLaw) (.none) kV22 dc22 pm22 an22 cd22 ct22), sl22⟩)
    (c22 : PySem.W.codeIn K cd22 "law" = true)
    (k22 : PySem.W.keepIn K (.ref f22) = true)
    (a23 : PySem.W.findIn K (.ref cB) "__init__" = some (some (.ref f23)))
    (i23 : PySem.W.isFn K (.ref f23) = true)
    (l23 : K.lookup f23 = some ⟨oc23, od23, .func (PySem.W.fnOf "__init__" "Book.__init__" (defArgs sBookInit) (defBody sBookInit) (defScope sBookInit) (.none) kV23 dc23 pm23 an23 cd23 ct23), sl23⟩)
    (c23 : PySem.W.codeIn K cd23 "Book.__init__" = true)
    (k23 : PySem.W.keepIn K (.ref f23) = true)
    (a24 : PySem.W.findIn K (.ref cB) "pay" = some (some (.ref f24)))
    (i24 : PySem.W.isFn K (.ref f24) = true)
    (l24 : K.lookup f24 = some ⟨oc24, od24, .func (PySem.W.fnOf "pay" "Book.pay" (defArgs sBookPay) (defBody sBookPay) (defScope sBookPay) (.none) kV24 dc24 pm24 an24 cd24 ct24), sl24⟩)
    (c24 : PySem.W.codeIn K cd24 "Book.pay" = true)
    (k24 : PySem.W.keepIn K (.ref f24) = true)
    (a25 : PySem.W.findIn K (.ref cB) "dun" = some (some (.ref f25)))
    (i25 : PySem.W.isFn K (.ref f25) = true)
    (l25 : K.lookup f25 = some ⟨oc25, od25, .func (PySem.W.fnOf "dun" "Book.dun" (defArgs sBookDun) (defBody sBookDun) (defScope sBookDun) (.none) kV25 dc25 pm25 an25 cd25 ct25), sl25⟩)
    (c25 : PySem.W.codeIn K cd25 "Book.dun" = true)
    (k25 : PySem.W.keepIn K (.ref f25) = true)
    (a26 : PySem.W.findIn K (.ref cB) "write" = some (some (.ref f26)))
    (i26 : PySem.W.isFn K (.ref f26) = true)
    (l26 : K.lookup f26 = some ⟨oc26, od26, .func (PySem.W.fnOf "write" "Book.write" (defArgs sBookWrite) (defBody sBookWrite) (defScope sBookWrite) (.none) kV26 dc26 pm26 an26 cd26 ct26), sl26⟩)
    (c26 : PySem.W.codeIn K cd26 "Book.write" = true)
    (k26 : PySem.W.keepIn K (.ref f26) = true)
    (a27 : PySem.W.findIn K (.ref cB) "undo" = some (some (.ref f27)))
    (i27 : PySem.W.isFn K (.ref f27) = true)
    (l27 : K.lookup f27 = some ⟨oc27, od27, .func (PySem.W.fnOf "undo" "Book.undo" (defArgs sBookUndo) (defBody sBookUndo) (defScope sBookUndo) (.none) kV27 dc27 pm27 an27 cd27 ct27), sl27⟩)
    (c27 : PySem.W.codeIn K cd27 "Book.undo" = true)
    (k27 : PySem.W.keepIn K (.ref f27) = true)
    (a28 : PySem.W.findIn K (.ref cB) "mark" = some (some (.ref f28)))
    (i28 : PySem.W.isFn K (.ref f28) = true)
    (l28 : K.lookup f28 = some ⟨oc28, od28, .func (PySem.W.fnOf "mark" "Book.mark" (defArgs sBookMark) (defBody sBookMark) (defScope sBookMark) (.none) kV28 dc28 pm28 an28 cd28 ct28), sl28⟩)
    (c28 : PySem.W.codeIn K cd28 "Book.mark" = true)
    (k28 : PySem.W.keepIn K (.ref f28) = true)
    (a29 : PySem.W.findIn K (.ref cB) "rows_kept" = some (some (.ref f29)))
    (i29 : PySem.W.isFn K (.ref f29) = true)
    (l29 : K.lookup f29 = some ⟨oc29, od29, .func (PySem.W.fnOf "rows_kept" "Book.rows_kept" (defArgs sBookRowsKept) (defBody sBookRowsKept) (defScope sBookRowsKept) (.ref dT29) kV29 dc29 pm29 an29 cd29 ct29), sl29⟩)
    (c29 : PySem.W.codeIn K cd29 "Book.rows_kept" = true)
    (k29 : PySem.W.keepIn K (.ref f29) = true)
    (d29 : K.lookup dT29 = some ⟨do29, dd29, .seq #[.none] dn29, ds29⟩)
    (a30 : PySem.W.findIn K (.ref cB) "kept" = some (some (.ref f30)))
    (i30 : PySem.W.isFn K (.ref f30) = true)
    (l30 : K.lookup f30 = some ⟨oc30, od30, .func (PySem.W.fnOf "kept" "Book.kept" (defArgs sBookKept) (defBody sBookKept) (defScope sBookKept) (.ref dT30) kV30 dc30 pm30 an30 cd30 ct30), sl30⟩)
    (c30 : PySem.W.codeIn K cd30 "Book.kept" = true)
    (k30 : PySem.W.keepIn K (.ref f30) = true)
    (d30 : K.lookup dT30 = some ⟨do30, dd30, .seq #[.none] dn30, ds30⟩)
    (z_any : PySem.W.nsIn K mainGlobals "any" = some none)
    (z_bool : PySem.W.nsIn K mainGlobals "bool" = some none)
    (z_enumerate : PySem.W.nsIn K mainGlobals "enumerate" = some none)
    (z_int : PySem.W.nsIn K mainGlobals "int" = some none)
    (z_isinstance : PySem.W.nsIn K mainGlobals "isinstance" = some none)
    (z_len : PySem.W.nsIn K mainGlobals "len" = some none)
    (z_list : PySem.W.nsIn K mainGlobals "list" = some none)
    (z_range : PySem.W.nsIn K mainGlobals "range" = some none)
    (z_set : PySem.W.nsIn K mainGlobals "set" = some none)
    (z_str : PySem.W.nsIn K mainGlobals "str" = some none)
    (z_zip : PySem.W.nsIn K mainGlobals "zip" = some none)
    (y_CLAIM : PySem.W.nsIn K mainGlobals "CLAIM" = some (some (.int (3) tk_CLAIM)))
    (y_DAY : PySem.W.nsIn K mainGlobals "DAY" = some (some (.int (2) tk_DAY)))
    (y_MOST_ROWS : PySem.W.nsIn K mainGlobals "MOST_ROWS" = some (some (.int (300) tk_MOST_ROWS)))
    (y_NUMBER : PySem.W.nsIn K mainGlobals "NUMBER" = some (some (.int (0) tk_NUMBER)))
    (y_OFFER_AMOUNT : PySem.W.nsIn K mainGlobals "OFFER_AMOUNT" = some (some (.int (5) tk_OFFER_AMOUNT)))
    (y_OFFER_CLAIM : PySem.W.nsIn K mainGlobals "OFFER_CLAIM" = some (some (.int (4) tk_OFFER_CLAIM)))
    (y_ROUNDS : PySem.W.nsIn K mainGlobals "ROUNDS" = some (some (.int (3) tk_ROUNDS)))
    (y_RULE_WINS : PySem.W.nsIn K mainGlobals "RULE_WINS" = some (some (.int (5) tk_RULE_WINS)))
    (y_TURN : PySem.W.nsIn K mainGlobals "TURN" = some (some (.int (3) tk_TURN)))
    (y_WORD : PySem.W.nsIn K mainGlobals "WORD" = some (some (.int (1) tk_WORD)))
    (y_WORTH : PySem.W.nsIn K mainGlobals "WORTH" = some (some (.int (3) tk_WORTH)))
    (pg : PySem.W.plainGet K cB Str.empty = true)
    (hd : PySem.W.hasDictIn K cB = true)
    (po : PySem.W.plainOver K cB = true)
    (sa : PySem.W.findIn K (.ref cB) "__setattr__" = some (some (.builtin "object.__setattr__")))
    (mk : PySem.W.makesIn K cB = true)
    (kc : PySem.W.keepIn K (.ref cB) = true)
    (nf_people : PySem.W.findIn K (.ref cB) "people" = some none)
    (nf_court : PySem.W.findIn K (.ref cB) "court" = some none)
    (nf_speakers : PySem.W.findIn K (.ref cB) "speakers" = some none)
    (nf_rows : PySem.W.findIn K (.ref cB) "rows" = some none)
    (nf_came : PySem.W.findIn K (.ref cB) "came" = some none)
    (nf_went : PySem.W.findIn K (.ref cB) "went" = some none)
    (nf_done : PySem.W.findIn K (.ref cB) "done" = some none)
    (xd_CostError : PySem.W.hasDictIn K c_CostError = true)
    (xy_CostError : PySem.W.typeIn K (.ref c_CostError) = some (.type "type"))
    (xd_Full : PySem.W.hasDictIn K c_Full = true)
    (xy_Full : PySem.W.typeIn K (.ref c_Full) = some (.type "type"))
    (xd_NoClaim : PySem.W.hasDictIn K c_NoClaim = true)
    (xy_NoClaim : PySem.W.typeIn K (.ref c_NoClaim) = some (.type "type"))
    (xd_RoundOver : PySem.W.hasDictIn K c_RoundOver = true)
    (xy_RoundOver : PySem.W.typeIn K (.ref c_RoundOver) = some (.type "type"))
    (xd_TooLate : PySem.W.hasDictIn K c_TooLate = true)
    (xy_TooLate : PySem.W.typeIn K (.ref c_TooLate) = some (.type "type"))
    (xd_Twice : PySem.W.hasDictIn K c_Twice = true)
    (xy_Twice : PySem.W.typeIn K (.ref c_Twice) = some (.type "type"))
    (xd_TooMuch : PySem.W.hasDictIn K c_TooMuch = true)
    (xy_TooMuch : PySem.W.typeIn K (.ref c_TooMuch) = some (.type "type"))
    (xd_NoRow : PySem.W.hasDictIn K c_NoRow = true)
    (xy_NoRow : PySem.W.typeIn K (.ref c_NoRow) = some (.type "type"))
    (xd_Needed : PySem.W.hasDictIn K c_Needed = true)
    (xy_Needed : PySem.W.typeIn K (.ref c_Needed) = some (.type "type"))
    (xB : PySem.W.subIn K (.ref c_CostError) (.type "BaseException") = some true)
    (xx_Full : ExcCls K c_Full)
    (xg_Full : PySem.W.findIn K (.ref c_Full) "__getattribute__" = some (some (.builtin "BaseException.__getattribute__")))
    (xh_Full : PySem.W.findIn K (.ref c_Full) "__getattr__" = some none)
    (xa_Full : PySem.W.findIn K (.ref c_Full) "__class__" = some (some (.builtin "object.__class__")))
    (xo_Full : PySem.W.mroIn K c_Full (.type "object") = some true)
    (xb_Full : PySem.W.mroIn K c_Full (.type "BaseException") = some true)
    (xk_Full_CostError : PySem.W.subIn K (.ref c_Full) (.ref c_CostError) = some true)
    (xk_Full_NoClaim : PySem.W.subIn K (.ref c_Full) (.ref c_NoClaim) = some false)
    (xn_Full_NoClaim : (Value.ref c_Full == Value.ref c_NoClaim) = false)
    (xk_Full_RoundOver : PySem.W.subIn K (.ref c_Full) (.ref c_RoundOver) = some false)
    (xn_Full_RoundOver : (Value.ref c_Full == Value.ref c_RoundOver) = false)
    (xk_Full_TooLate : PySem.W.subIn K (.ref c_Full) (.ref c_TooLate) = some false)
    (xn_Full_TooLate : (Value.ref c_Full == Value.ref c_TooLate) = false)
    (xk_Full_Twice : PySem.W.subIn K (.ref c_Full) (.ref c_Twice) = some false)
    (xn_Full_Twice : (Value.ref c_Full == Value.ref c_Twice) = false)
    (xk_Full_TooMuch : PySem.W.subIn K (.ref c_Full) (.ref c_TooMuch) = some false)
    (xn_Full_TooMuch : (Value.ref c_Full == Value.ref c_TooMuch) = false)
    (xk_Full_NoRow : PySem.W.subIn K (.ref c_Full) (.ref c_NoRow) = some false)
    (xn_Full_NoRow : (Value.ref c_Full == Value.ref c_NoRow) = false)
    (xk_Full_Needed : PySem.W.subIn K (.ref c_Full) (.ref c_Needed) = some false)
    (xn_Full_Needed : (Value.ref c_Full == Value.ref c_Needed) = false)
    (xx_NoClaim : ExcCls K c_NoClaim)
    (xg_NoClaim : PySem.W.findIn K (.ref c_NoClaim) "__getattribute__" = some (some (.builtin "BaseException.__getattribute__")))
    (xh_NoClaim : PySem.W.findIn K (.ref c_NoClaim) "__getattr__" = some none)
    (xa_NoClaim : PySem.W.findIn K (.ref c_NoClaim) "__class__" = some (some (.builtin "object.__class__")))
    (xo_NoClaim : PySem.W.mroIn K c_NoClaim (.type "object") = some true)
    (xb_NoClaim : PySem.W.mroIn K c_NoClaim (.type "BaseException") = some true)
    (xk_NoClaim_CostError : PySem.W.subIn K (.ref c_NoClaim) (.ref c_CostError) = some true)
    (xk_NoClaim_Full : PySem.W.subIn K (.ref c_NoClaim) (.ref c_Full) = some false)
    (xn_NoClaim_Full : (Value.ref c_NoClaim == Value.ref c_Full) = false)
    (xk_NoClaim_RoundOver : PySem.W.subIn K (.ref c_NoClaim) (.ref c_RoundOver) = some false)
    (xn_NoClaim_RoundOver : (Value.ref c_NoClaim == Value.ref c_RoundOver) = false)
    (xk_NoClaim_TooLate : PySem.W.subIn K (.ref c_NoClaim) (.ref c_TooLate) = some false)
    (xn_NoClaim_TooLate : (Value.ref c_NoClaim == Value.ref c_TooLate) = false)
    (xk_NoClaim_Twice : PySem.W.subIn K (.ref c_NoClaim) (.ref c_Twice) = some false)
    (xn_NoClaim_Twice : (Value.ref c_NoClaim == Value.ref c_Twice) = false)
    (xk_NoClaim_TooMuch : PySem.W.subIn K (.ref c_NoClaim) (.ref c_TooMuch) = some false)
    (xn_NoClaim_TooMuch : (Value.ref c_NoClaim == Value.ref c_TooMuch) = false)
    (xk_NoClaim_NoRow : PySem.W.subIn K (.ref c_NoClaim) (.ref c_NoRow) = some false)
    (xn_NoClaim_NoRow : (Value.ref c_NoClaim == Value.ref c_NoRow) = false)
    (xk_NoClaim_Needed : PySem.W.subIn K (.ref c_NoClaim) (.ref c_Needed) = some false)
    (xn_NoClaim_Needed : (Value.ref c_NoClaim == Value.ref c_Needed) = false)
    (xx_RoundOver : ExcCls K c_RoundOver)
    (xg_RoundOver : PySem.W.findIn K (.ref c_RoundOver) "__getattribute__" = some (some (.builtin "BaseException.__getattribute__")))
    (xh_RoundOver : PySem.W.findIn K (.ref c_RoundOver) "__getattr__" = some none)
    (xa_RoundOver : PySem.W.findIn K (.ref c_RoundOver) "__class__" = some (some (.builtin "object.__class__")))
    (xo_RoundOver : PySem.W.mroIn K c_RoundOver (.type "object") = some true)
    (xb_RoundOver : PySem.W.mroIn K c_RoundOver (.type "BaseException") = some true)
    (xk_RoundOver_CostError : PySem.W.subIn K (.ref c_RoundOver) (.ref c_CostError) = some true)
    (xk_RoundOver_Full : PySem.W.subIn K (.ref c_RoundOver) (.ref c_Full) = some false)
    (xn_RoundOver_Full : (Value.ref c_RoundOver == Value.ref c_Full) = false)
    (xk_RoundOver_NoClaim : PySem.W.subIn K (.ref c_RoundOver) (.ref c_NoClaim) = some false)
    (xn_RoundOver_NoClaim : (Value.ref c_RoundOver == Value.ref c_NoClaim) = false)
    (xk_RoundOver_TooLate : PySem.W.subIn K (.ref c_RoundOver) (.ref c_TooLate) = some false)
    (xn_RoundOver_TooLate : (Value.ref c_RoundOver == Value.ref c_TooLate) = false)
    (xk_RoundOver_Twice : PySem.W.subIn K (.ref c_RoundOver) (.ref c_Twice) = some false)
    (xn_RoundOver_Twice : (Value.ref c_RoundOver == Value.ref c_Twice) = false)
    (xk_RoundOver_TooMuch : PySem.W.subIn K (.ref c_RoundOver) (.ref c_TooMuch) = some false)
    (xn_RoundOver_TooMuch : (Value.ref c_RoundOver == Value.ref c_TooMuch) = false)
    (xk_RoundOver_NoRow : PySem.W.subIn K (.ref c_RoundOver) (.ref c_NoRow) = some false)
    (xn_RoundOver_NoRow : (Value.ref c_RoundOver == Value.ref c_NoRow) = false)
    (xk_RoundOver_Needed : PySem.W.subIn K (.ref c_RoundOver) (.ref c_Needed) = some false)
    (xn_RoundOver_Needed : (Value.ref c_RoundOver == Value.ref c_Needed) = false)
    (xx_TooLate : ExcCls K c_TooLate)
    (xg_TooLate : PySem.W.findIn K (.ref c_TooLate) "__getattribute__" = some (some (.builtin "BaseException.__getattribute__")))
    (xh_TooLate : PySem.W.findIn K (.ref c_TooLate) "__getattr__" = some none)
    (xa_TooLate : PySem.W.findIn K (.ref c_TooLate) "__class__" = some (some (.builtin "object.__class__")))
    (xo_TooLate : PySem.W.mroIn K c_TooLate (.type "object") = some true)
    (xb_TooLate : PySem.W.mroIn K c_TooLate (.type "BaseException") = some true)
    (xk_TooLate_CostError : PySem.W.subIn K (.ref c_TooLate) (.ref c_CostError) = some true)
    (xk_TooLate_Full : PySem.W.subIn K (.ref c_TooLate) (.ref c_Full) = some false)
    (xn_TooLate_Full : (Value.ref c_TooLate == Value.ref c_Full) = false)
    (xk_TooLate_NoClaim : PySem.W.subIn K (.ref c_TooLate) (.ref c_NoClaim) = some false)
    (xn_TooLate_NoClaim : (Value.ref c_TooLate == Value.ref c_NoClaim) = false)
    (xk_TooLate_RoundOver : PySem.W.subIn K (.ref c_TooLate) (.ref c_RoundOver) = some false)
    (xn_TooLate_RoundOver : (Value.ref c_TooLate == Value.ref c_RoundOver) = false)
    (xk_TooLate_Twice : PySem.W.subIn K (.ref c_TooLate) (.ref c_Twice) = some false)
    (xn_TooLate_Twice : (Value.ref c_TooLate == Value.ref c_Twice) = false)
    (xk_TooLate_TooMuch : PySem.W.subIn K (.ref c_TooLate) (.ref c_TooMuch) = some false)
    (xn_TooLate_TooMuch : (Value.ref c_TooLate == Value.ref c_TooMuch) = false)
    (xk_TooLate_NoRow : PySem.W.subIn K (.ref c_TooLate) (.ref c_NoRow) = some false)
    (xn_TooLate_NoRow : (Value.ref c_TooLate == Value.ref c_NoRow) = false)
    (xk_TooLate_Needed : PySem.W.subIn K (.ref c_TooLate) (.ref c_Needed) = some false)
    (xn_TooLate_Needed : (Value.ref c_TooLate == Value.ref c_Needed) = false)
    (xx_Twice : ExcCls K c_Twice)
    (xg_Twice : PySem.W.findIn K (.ref c_Twice) "__getattribute__" = some (some (.builtin "BaseException.__getattribute__")))
    (xh_Twice : PySem.W.findIn K (.ref c_Twice) "__getattr__" = some none)
    (xa_Twice : PySem.W.findIn K (.ref c_Twice) "__class__" = some (some (.builtin "object.__class__")))
    (xo_Twice : PySem.W.mroIn K c_Twice (.type "object") = some true)
    (xb_Twice : PySem.W.mroIn K c_Twice (.type "BaseException") = some true)
    (xk_Twice_CostError : PySem.W.subIn K (.ref c_Twice) (.ref c_CostError) = some true)
    (xk_Twice_Full : PySem.W.subIn K (.ref c_Twice) (.ref c_Full) = some false)
    (xn_Twice_Full : (Value.ref c_Twice == Value.ref c_Full) = false)
    (xk_Twice_NoClaim : PySem.W.subIn K (.ref c_Twice) (.ref c_NoClaim) = some false)
    (xn_Twice_NoClaim : (Value.ref c_Twice == Value.ref c_NoClaim) = false)
    (xk_Twice_RoundOver : PySem.W.subIn K (.ref c_Twice) (.ref c_RoundOver) = some false)
    (xn_Twice_RoundOver : (Value.ref c_Twice == Value.ref c_RoundOver) = false)
    (xk_Twice_TooLate : PySem.W.subIn K (.ref c_Twice) (.ref c_TooLate) = some false)
    (xn_Twice_TooLate : (Value.ref c_Twice == Value.ref c_TooLate) = false)
    (xk_Twice_TooMuch : PySem.W.subIn K (.ref c_Twice) (.ref c_TooMuch) = some false)
    (xn_Twice_TooMuch : (Value.ref c_Twice == Value.ref c_TooMuch) = false)
    (xk_Twice_NoRow : PySem.W.subIn K (.ref c_Twice) (.ref c_NoRow) = some false)
    (xn_Twice_NoRow : (Value.ref c_Twice == Value.ref c_NoRow) = false)
    (xk_Twice_Needed : PySem.W.subIn K (.ref c_Twice) (.ref c_Needed) = some false)
    (xn_Twice_Needed : (Value.ref c_Twice == Value.ref c_Needed) = false)
    (xx_TooMuch : ExcCls K c_TooMuch)
    (xg_TooMuch : PySem.W.findIn K (.ref c_TooMuch) "__getattribute__" = some (some (.builtin "BaseException.__getattribute__")))
    (xh_TooMuch : PySem.W.findIn K (.ref c_TooMuch) "__getattr__" = some none)
    (xa_TooMuch : PySem.W.findIn K (.ref c_TooMuch) "__class__" = some (some (.builtin "object.__class__")))
    (xo_TooMuch : PySem.W.mroIn K c_TooMuch (.type "object") = some true)
    (xb_TooMuch : PySem.W.mroIn K c_TooMuch (.type "BaseException") = some true)
    (xk_TooMuch_CostError : PySem.W.subIn K (.ref c_TooMuch) (.ref c_CostError) = some true)
    (xk_TooMuch_Full : PySem.W.subIn K (.ref c_TooMuch) (.ref c_Full) = some false)
    (xn_TooMuch_Full : (Value.ref c_TooMuch == Value.ref c_Full) = false)
    (xk_TooMuch_NoClaim : PySem.W.subIn K (.ref c_TooMuch) (.ref c_NoClaim) = some false)
    (xn_TooMuch_NoClaim : (Value.ref c_TooMuch == Value.ref c_NoClaim) = false)
    (xk_TooMuch_RoundOver : PySem.W.subIn K (.ref c_TooMuch) (.ref c_RoundOver) = some false)
    (xn_TooMuch_RoundOver : (Value.ref c_TooMuch == Value.ref c_RoundOver) = false)
    (xk_TooMuch_TooLate : PySem.W.subIn K (.ref c_TooMuch) (.ref c_TooLate) = some false)
    (xn_TooMuch_TooLate : (Value.ref c_TooMuch == Value.ref c_TooLate) = false)
    (xk_TooMuch_Twice : PySem.W.subIn K (.ref c_TooMuch) (.ref c_Twice) = some false)
    (xn_TooMuch_Twice : (Value.ref c_TooMuch == Value.ref c_Twice) = false)
    (xk_TooMuch_NoRow : PySem.W.subIn K (.ref c_TooMuch) (.ref c_NoRow) = some false)
    (xn_TooMuch_NoRow : (Value.ref c_TooMuch == Value.ref c_NoRow) = false)
    (xk_TooMuch_Needed : PySem.W.subIn K (.ref c_TooMuch) (.ref c_Needed) = some false)
    (xn_TooMuch_Needed : (Value.ref c_TooMuch == Value.ref c_Needed) = false)
    (xx_NoRow : ExcCls K c_NoRow)
    (xg_NoRow : PySem.W.findIn K (.ref c_NoRow) "__getattribute__" = some (some (.builtin "BaseException.__getattribute__")))
    (xh_NoRow : PySem.W.findIn K (.ref c_NoRow) "__getattr__" = some none)
    (xa_NoRow : PySem.W.findIn K (.ref c_NoRow) "__class__" = some (some (.builtin "object.__class__")))
    (xo_NoRow : PySem.W.mroIn K c_NoRow (.type "object") = some true)
    (xb_NoRow : PySem.W.mroIn K c_NoRow (.type "BaseException") = some true)
    (xk_NoRow_CostError : PySem.W.subIn K (.ref c_NoRow) (.ref c_CostError) = some true)
    (xk_NoRow_Full : PySem.W.subIn K (.ref c_NoRow) (.ref c_Full) = some false)
    (xn_NoRow_Full : (Value.ref c_NoRow == Value.ref c_Full) = false)
    (xk_NoRow_NoClaim : PySem.W.subIn K (.ref c_NoRow) (.ref c_NoClaim) = some false)
    (xn_NoRow_NoClaim : (Value.ref c_NoRow == Value.ref c_NoClaim) = false)
    (xk_NoRow_RoundOver : PySem.W.subIn K (.ref c_NoRow) (.ref c_RoundOver) = some false)
    (xn_NoRow_RoundOver : (Value.ref c_NoRow == Value.ref c_RoundOver) = false)
    (xk_NoRow_TooLate : PySem.W.subIn K (.ref c_NoRow) (.ref c_TooLate) = some false)
    (xn_NoRow_TooLate : (Value.ref c_NoRow == Value.ref c_TooLate) = false)
    (xk_NoRow_Twice : PySem.W.subIn K (.ref c_NoRow) (.ref c_Twice) = some false)
    (xn_NoRow_Twice : (Value.ref c_NoRow == Value.ref c_Twice) = false)
    (xk_NoRow_TooMuch : PySem.W.subIn K (.ref c_NoRow) (.ref c_TooMuch) = some false)
    (xn_NoRow_TooMuch : (Value.ref c_NoRow == Value.ref c_TooMuch) = false)
    (xk_NoRow_Needed : PySem.W.subIn K (.ref c_NoRow) (.ref c_Needed) = some false)
    (xn_NoRow_Needed : (Value.ref c_NoRow == Value.ref c_Needed) = false)
    (xs : PySem.W.specialIn K (.builtin "object.__class__") "__get__" = some (some (.builtin "getset_descriptor.__get__")))
    (xt : PySem.W.takesIn K (.builtin "object.__class__") = some true) :
    ∃ fd : FuncData, (∀ (s : Shared) (v : Value), BindsTo s fd ⟨[v], []⟩ [("_law_script", v)]) ∧ ∀ base : Heap, K.In base → base.Ns mainGlobals mg → FnOk l.prog w K mg base CX0 10 fa fd ["_law_script"] (spLaw K) := by
  have e := hfa.symm.trans (PySem.W.mg_of X G a22)
  cases e
  have T : Txt K mg cB c_CostError c_Full c_NoClaim c_RoundOver c_TooLate c_Twice c_TooMuch c_NoRow c_Needed := ⟨PySem.W.mg_none_of X G z_any,
    PySem.W.mg_none_of X G z_bool,
    PySem.W.mg_none_of X G z_enumerate,
    PySem.W.mg_none_of X G z_int,
    PySem.W.mg_none_of X G z_isinstance,
    PySem.W.mg_none_of X G z_len,
    PySem.W.mg_none_of X G z_list,
    PySem.W.mg_none_of X G z_range,
    PySem.W.mg_none_of X G z_set,
    PySem.W.mg_none_of X G z_str,
    PySem.W.mg_none_of X G z_zip,
    ⟨_, PySem.W.mg_of X G y_CLAIM⟩,
    ⟨_, PySem.W.mg_of X G y_DAY⟩,
    ⟨_, PySem.W.mg_of X G y_MOST_ROWS⟩,
    ⟨_, PySem.W.mg_of X G y_NUMBER⟩,
    ⟨_, PySem.W.mg_of X G y_OFFER_AMOUNT⟩,
    ⟨_, PySem.W.mg_of X G y_OFFER_CLAIM⟩,
    ⟨_, PySem.W.mg_of X G y_ROUNDS⟩,
    ⟨_, PySem.W.mg_of X G y_RULE_WINS⟩,
    ⟨_, PySem.W.mg_of X G y_TURN⟩,
    ⟨_, PySem.W.mg_of X G y_WORD⟩,
    ⟨_, PySem.W.mg_of X G y_WORTH⟩,
    ⟨pg, hd, po, sa⟩,
    PySem.W.mg_of X G aB,
    nf_people,
    nf_court,
    nf_speakers,
    nf_rows,
    nf_came,
    nf_went,
    nf_done,
    PySem.W.mg_of X G e_CostError,
    PySem.W.mg_of X G e_Full,
    PySem.W.mg_of X G e_NoClaim,
    PySem.W.mg_of X G e_RoundOver,
    PySem.W.mg_of X G e_TooLate,
    PySem.W.mg_of X G e_Twice,
    PySem.W.mg_of X G e_TooMuch,
    PySem.W.mg_of X G e_NoRow,
    PySem.W.mg_of X G e_Needed,
    xx_Full,
    xx_NoClaim,
    xx_RoundOver,
    xx_TooLate,
    xx_Twice,
    xx_TooMuch,
    xx_NoRow,
    (fun C hC => by
    simp only [List.mem_cons, List.not_mem_nil, or_false] at hC
    rcases hC with rfl | rfl | rfl | rfl | rfl | rfl | rfl
    · exact ⟨xg_Full, xh_Full, xd_Full, xa_Full, xs, xt, xo_Full, xb_Full⟩
    · exact ⟨xg_NoClaim, xh_NoClaim, xd_NoClaim, xa_NoClaim, xs, xt, xo_NoClaim, xb_NoClaim⟩
    · exact ⟨xg_RoundOver, xh_RoundOver, xd_RoundOver, xa_RoundOver, xs, xt, xo_RoundOver, xb_RoundOver⟩
    · exact ⟨xg_TooLate, xh_TooLate, xd_TooLate, xa_TooLate, xs, xt, xo_TooLate, xb_TooLate⟩
    · exact ⟨xg_Twice, xh_Twice, xd_Twice, xa_Twice, xs, xt, xo_Twice, xb_Twice⟩
    · exact ⟨xg_TooMuch, xh_TooMuch, xd_TooMuch, xa_TooMuch, xs, xt, xo_TooMuch, xb_TooMuch⟩
    · exact ⟨xg_NoRow, xh_NoRow, xd_NoRow, xa_NoRow, xs, xt, xo_NoRow, xb_NoRow⟩
    ),
    (fun C hC => by
    simp only [List.mem_cons, List.not_mem_nil, or_false] at hC
    rcases hC with rfl | rfl | rfl | rfl | rfl | rfl | rfl
    · exact exm_tt xd_CostError xy_CostError xk_Full_CostError xB
    · exact exm_tt xd_CostError xy_CostError xk_NoClaim_CostError xB
    · exact exm_tt xd_CostError xy_CostError xk_RoundOver_CostError xB
    · exact exm_tt xd_CostError xy_CostError xk_TooLate_CostError xB
    · exact exm_tt xd_CostError xy_CostError xk_Twice_CostError xB
    · exact exm_tt xd_CostError xy_CostError xk_TooMuch_CostError xB
    · exact exm_tt xd_CostError xy_CostError xk_NoRow_CostError xB
    ),
    kit_ff xd_NoClaim xy_NoClaim xk_Full_NoClaim xn_Full_NoClaim,
    kit_ff xd_RoundOver xy_RoundOver xk_Full_RoundOver xn_Full_RoundOver,
    kit_ff xd_TooLate xy_TooLate xk_Full_TooLate xn_Full_TooLate,
    kit_ff xd_Twice xy_Twice xk_Full_Twice xn_Full_Twice,
    kit_ff xd_TooMuch xy_TooMuch xk_Full_TooMuch xn_Full_TooMuch,
    kit_ff xd_NoRow xy_NoRow xk_Full_NoRow xn_Full_NoRow,
    kit_ff xd_Needed xy_Needed xk_Full_Needed xn_Full_Needed,
    kit_ff xd_Full xy_Full xk_NoClaim_Full xn_NoClaim_Full,
    kit_ff xd_RoundOver xy_RoundOver xk_NoClaim_RoundOver xn_NoClaim_RoundOver,
    kit_ff xd_TooLate xy_TooLate xk_NoClaim_TooLate xn_NoClaim_TooLate,
    kit_ff xd_Twice xy_Twice xk_NoClaim_Twice xn_NoClaim_Twice,
    kit_ff xd_TooMuch xy_TooMuch xk_NoClaim_TooMuch xn_NoClaim_TooMuch,
    kit_ff xd_NoRow xy_NoRow xk_NoClaim_NoRow xn_NoClaim_NoRow,
    kit_ff xd_Needed xy_Needed xk_NoClaim_Needed xn_NoClaim_Needed,
    kit_ff xd_Full xy_Full xk_RoundOver_Full xn_RoundOver_Full,
    kit_ff xd_NoClaim xy_NoClaim xk_RoundOver_NoClaim xn_RoundOver_NoClaim,
    kit_ff xd_TooLate xy_TooLate xk_RoundOver_TooLate xn_RoundOver_TooLate,
    kit_ff xd_Twice xy_Twice xk_RoundOver_Twice xn_RoundOver_Twice,
    kit_ff xd_TooMuch xy_TooMuch xk_RoundOver_TooMuch xn_RoundOver_TooMuch,
    kit_ff xd_NoRow xy_NoRow xk_RoundOver_NoRow xn_RoundOver_NoRow,
    kit_ff xd_Needed xy_Needed xk_RoundOver_Needed xn_RoundOver_Needed,
    kit_ff xd_Full xy_Full xk_TooLate_Full xn_TooLate_Full,
    kit_ff xd_NoClaim xy_NoClaim xk_TooLate_NoClaim xn_TooLate_NoClaim,
    kit_ff xd_RoundOver xy_RoundOver xk_TooLate_RoundOver xn_TooLate_RoundOver,
    kit_ff xd_Twice xy_Twice xk_TooLate_Twice xn_TooLate_Twice,
    kit_ff xd_TooMuch xy_TooMuch xk_TooLate_TooMuch xn_TooLate_TooMuch,
    kit_ff xd_NoRow xy_NoRow xk_TooLate_NoRow xn_TooLate_NoRow,
    kit_ff xd_Needed xy_Needed xk_TooLate_Needed xn_TooLate_Needed,
    kit_ff xd_Full xy_Full xk_Twice_Full xn_Twice_Full,
    kit_ff xd_NoClaim xy_NoClaim xk_Twice_NoClaim xn_Twice_NoClaim,
    kit_ff xd_RoundOver xy_RoundOver xk_Twice_RoundOver xn_Twice_RoundOver,
    kit_ff xd_TooLate xy_TooLate xk_Twice_TooLate xn_Twice_TooLate,
    kit_ff xd_TooMuch xy_TooMuch xk_Twice_TooMuch xn_Twice_TooMuch,
    kit_ff xd_NoRow xy_NoRow xk_Twice_NoRow xn_Twice_NoRow,
    kit_ff xd_Needed xy_Needed xk_Twice_Needed xn_Twice_Needed,
    kit_ff xd_Full xy_Full xk_TooMuch_Full xn_TooMuch_Full,
    kit_ff xd_NoClaim xy_NoClaim xk_TooMuch_NoClaim xn_TooMuch_NoClaim,
    kit_ff xd_RoundOver xy_RoundOver xk_TooMuch_RoundOver xn_TooMuch_RoundOver,
    kit_ff xd_TooLate xy_TooLate xk_TooMuch_TooLate xn_TooMuch_TooLate,
    kit_ff xd_Twice xy_Twice xk_TooMuch_Twice xn_TooMuch_Twice,
    kit_ff xd_NoRow xy_NoRow xk_TooMuch_NoRow xn_TooMuch_NoRow,
    kit_ff xd_Needed xy_Needed xk_TooMuch_Needed xn_TooMuch_Needed,
    kit_ff xd_Full xy_Full xk_NoRow_Full xn_NoRow_Full,
    kit_ff xd_NoClaim xy_NoClaim xk_NoRow_NoClaim xn_NoRow_NoClaim,
    kit_ff xd_RoundOver xy_RoundOver xk_NoRow_RoundOver xn_NoRow_RoundOver,
    kit_ff xd_TooLate xy_TooLate xk_NoRow_TooLate xn_NoRow_TooLate,
    kit_ff xd_Twice xy_Twice xk_NoRow_Twice xn_NoRow_Twice,
    kit_ff xd_TooMuch xy_TooMuch xk_NoRow_TooMuch xn_NoRow_TooMuch,
    kit_ff xd_Needed xy_Needed xk_NoRow_Needed xn_NoRow_Needed⟩
  have F0 := (fun_mk (st := sPayRow) l0 c0 k0).d
  have F1 := (fun_mk (st := sDunRow) l1 c1 k1).d
  have F2 := (fun_mk (st := sRowText) l2 c2 k2).d
  have F3 := (fun_mk (st := sRoundsOf) l3 c3 k3).d
  have F4 := (fun_mk (st := sPutRow) l4 c4 k4).d
  have F5 := (fun_mk (st := sOverOf) l5 c5 k5).d
  have F6 := (fun_mk (st := sClaimsOf) l6 c6 k6).d
  have F7 := (fun_mk (st := sFindClaim) l7 c7 k7).d
  have F8 := (fun_mk (st := sCheckRow) l8 c8 k8).d
  have F9 := (fun_mk (st := sCheckAnew) l9 c9 k9).d
  have F10 := (fun_mk (st := sCheckNext) l10 c10 k10).d
  have F11 := (fun_mk (st := sLacksClaim) l11 c11 k11).d
  have F12 := (fun_mk (st := sMeetsOver) l12 c12 k12).d
  have F13 := (fun_mk (st := sComesTwice) l13 c13 k13).d
  have F14 := (fun_mk (st := sNamesTooMuch) l14 c14 k14).d
  have F15 := (fun_mk (st := sWorthIn) l15 c15 k15).d
  have F16 := (fun_mk (st := sLInt) l16 c16 k16).d
  have F17 := (fun_mk (st := sLTexts) l17 c17 k17).d
  have F18 := (fun_mk (st := sLCall) l18 c18 k18).d
  have F19 := (fun_mk (st := sLDo) l19 c19 k19).d
  have F20 := (fun_mk (st := sLRight) l20 c20 k20).d
  have F21 := (fun_mk (st := sLText) l21 c21 k21).d
  have F22 := (fun_mk (st := sLaw) l22 c22 k22).d
  have F23 := (fun_mk (st := sBookInit) l23 c23 k23).d
  have F24 := (fun_mk (st := sBookPay) l24 c24 k24).d
  have F25 := (fun_mk (st := sBookDun) l25 c25 k25).d
  have F26 := (fun_mk (st := sBookWrite) l26 c26 k26).d
  have F27 := (fun_mk (st := sBookUndo) l27 c27 k27).d
  have F28 := (fun_mk (st := sBookMark) l28 c28 k28).d
  have F29 : FunD K "rows_kept" "Book.rows_kept" sBookRowsKept f29 _ _ := ⟨_, _, _, _, _, _, _, _, _, rfl, l29, c29⟩
  have F30 : FunD K "kept" "Book.kept" sBookKept f30 _ _ := ⟨_, _, _, _, _, _, _, _, _, rfl, l30, c30⟩
  have b0 := (fun_mk (st := sPayRow) l0 c0 k0).binds (ps := ["number", "day", "side", "person", "coins"]) fun _ _ _ _ _ _ us hl => match us, hl with | [_, _, _, _, _], _ => rfl
  have b1 := (fun_mk (st := sDunRow) l1 c1 k1).binds (ps := ["number", "day", "side"]) fun _ _ _ _ _ _ us hl => match us, hl with | [_, _, _], _ => rfl
  have b2 := (fun_mk (st := sRowText) l2 c2 k2).binds (ps := ["row"]) fun _ _ _ _ _ _ us hl => match us, hl with | [_], _ => rfl
  have b3 := (fun_mk (st := sRoundsOf) l3 c3 k3).binds (ps := ["rows"]) fun _ _ _ _ _ _ us hl => match us, hl with | [_], _ => rfl
  have b4 := (fun_mk (st := sPutRow) l4 c4 k4).binds (ps := ["rounds", "row"]) fun _ _ _ _ _ _ us hl => match us, hl with | [_, _], _ => rfl
  have b5 := (fun_mk (st := sOverOf) l5 c5 k5).binds (ps := ["rounds"]) fun _ _ _ _ _ _ us hl => match us, hl with | [_], _ => rfl
  have b6 := (fun_mk (st := sClaimsOf) l6 c6 k6).binds (ps := ["rounds", "turn"]) fun _ _ _ _ _ _ us hl => match us, hl with | [_, _], _ => rfl
  have b7 := (fun_mk (st := sFindClaim) l7 c7 k7).binds (ps := ["claims", "number"]) fun _ _ _ _ _ _ us hl => match us, hl with | [_, _], _ => rfl
  have b8 := (fun_mk (st := sCheckRow) l8 c8 k8).binds (ps := ["rows", "written", "row"]) fun _ _ _ _ _ _ us hl => match us, hl with | [_, _, _], _ => rfl
  have b9 := (fun_mk (st := sCheckAnew) l9 c9 k9).binds (ps := ["rows"]) fun _ _ _ _ _ _ us hl => match us, hl with | [_], _ => rfl
  have b10 := (fun_mk (st := sCheckNext) l10 c10 k10).binds (ps := ["rounds", "last", "written", "row"]) fun _ _ _ _ _ _ us hl => match us, hl with | [_, _, _, _], _ => rfl
  have b11 := (fun_mk (st := sLacksClaim) l11 c11 k11).binds (ps := ["rounds", "row"]) fun _ _ _ _ _ _ us hl => match us, hl with | [_, _], _ => rfl
  have b12 := (fun_mk (st := sMeetsOver) l12 c12 k12).binds (ps := ["rounds", "row"]) fun _ _ _ _ _ _ us hl => match us, hl with | [_, _], _ => rfl
  have b13 := (fun_mk (st := sComesTwice) l13 c13 k13).binds (ps := ["rounds", "row"]) fun _ _ _ _ _ _ us hl => match us, hl with | [_, _], _ => rfl
  have b14 := (fun_mk (st := sNamesTooMuch) l14 c14 k14).binds (ps := ["rounds", "row"]) fun _ _ _ _ _ _ us hl => match us, hl with | [_, _], _ => rfl
  have b15 := (fun_mk (st := sWorthIn) l15 c15 k15).binds (ps := ["rounds", "row", "claim"]) fun _ _ _ _ _ _ us hl => match us, hl with | [_, _, _], _ => rfl
  have b16 := (fun_mk (st := sLInt) l16 c16 k16).binds (ps := ["_law_got"]) fun _ _ _ _ _ _ us hl => match us, hl with | [_], _ => rfl
  have b17 := (fun_mk (st := sLTexts) l17 c17 k17).binds (ps := ["_law_got", "_law_due"]) fun _ _ _ _ _ _ us hl => match us, hl with | [_, _], _ => rfl
  have b18 := (fun_mk (st := sLCall) l18 c18 k18).binds (ps := ["_law_book", "_law_word", "_law_day", "_law_told"]) fun _ _ _ _ _ _ us hl => match us, hl with | [_, _, _, _], _ => rfl
  have b19 := (fun_mk (st := sLDo) l19 c19 k19).binds (ps := ["_law_book", "_law_word", "_law_day", "_law_told"]) fun _ _ _ _ _ _ us hl => match us, hl with | [_, _, _, _], _ => rfl
  have b20 := (fun_mk (st := sLRight) l20 c20 k20).binds (ps := ["_law_got", "_law_due", "_law_number"]) fun _ _ _ _ _ _ us hl => match us, hl with | [_, _, _], _ => rfl
  have b21 := (fun_mk (st := sLText) l21 c21 k21).binds (ps := ["_law_word", "_law_day", "_law_told"]) fun _ _ _ _ _ _ us hl => match us, hl with | [_, _, _], _ => rfl
  have b23 := (fun_mk (st := sBookInit) l23 c23 k23).binds (ps := ["self", "sides", "court", "speakers"]) fun _ _ _ _ _ _ us hl => match us, hl with | [_, _, _, _], _ => rfl
  have b24 := (fun_mk (st := sBookPay) l24 c24 k24).binds (ps := ["self", "day", "side", "person", "coins"]) fun _ _ _ _ _ _ us hl => match us, hl with | [_, _, _, _, _], _ => rfl
  have b25 := (fun_mk (st := sBookDun) l25 c25 k25).binds (ps := ["self", "day", "side"]) fun _ _ _ _ _ _ us hl => match us, hl with | [_, _, _], _ => rfl
  have b26 := (fun_mk (st := sBookWrite) l26 c26 k26).binds (ps := ["self", "row"]) fun _ _ _ _ _ _ us hl => match us, hl with | [_, _], _ => rfl
  have b27 := (fun_mk (st := sBookUndo) l27 c27 k27).binds (ps := ["self", "row"]) fun _ _ _ _ _ _ us hl => match us, hl with | [_, _], _ => rfl
  have b28 := (fun_mk (st := sBookMark) l28 c28 k28).binds (ps := ["self"]) fun _ _ _ _ _ _ us hl => match us, hl with | [_], _ => rfl
  have b29 : Binds K (PySem.W.fnOf "rows_kept" "Book.rows_kept" (defArgs sBookRowsKept) (defBody sBookRowsKept) (defScope sBookRowsKept) (.ref dT29) kV29 dc29 pm29 an29 cd29 ct29) ["self", "mark"] [] := fun s us KX hl => by
    obtain ⟨u0, u1, rfl⟩ := list2 (us := us) (by simpa using hl)
    exact BindsTo.of_defaults rfl (KX _ _ d29) rfl rfl rfl
  have b29D : Binds K (PySem.W.fnOf "rows_kept" "Book.rows_kept" (defArgs sBookRowsKept) (defBody sBookRowsKept) (defScope sBookRowsKept) (.ref dT29) kV29 dc29 pm29 an29 cd29 ct29) ["self", "mark"] [.none] := fun s us KX hl => by
    obtain ⟨u0, rfl⟩ := list1 (us := us) (by simpa using hl)
    exact BindsTo.of_defaults rfl (KX _ _ d29) rfl rfl rfl
  have b30D : Binds K (PySem.W.fnOf "kept" "Book.kept" (defArgs sBookKept) (defBody sBookKept) (defScope sBookKept) (.ref dT30) kV30 dc30 pm30 an30 cd30 ct30) ["self", "mark"] [.none] := fun s us KX hl => by
    obtain ⟨u0, rfl⟩ := list1 (us := us) (by simpa using hl)
    exact BindsTo.of_defaults rfl (KX _ _ d30) rfl rfl rfl
  refine ⟨PySem.W.fnOf "law" "law" (defArgs sLaw) (defBody sLaw) (defScope sLaw) .none kV22 dc22 pm22 an22 cd22 ct22, fun s v => .of_eq rfl, fun base _ _ => ?_⟩
  have GPayRow : Fn l.prog w K mg base "pay_row" 1 ["number", "day", "side", "person", "coins"] (spPayRow) := ⟨_, _, ok_PayRow F0 T, PySem.W.mg_of X G a0, k0, b0⟩
  have GDunRow : Fn l.prog w K mg base "dun_row" 1 ["number", "day", "side"] (spDunRow) := ⟨_, _, ok_DunRow F1 T, PySem.W.mg_of X G a1, k1, b1⟩
  have GRowText : Fn l.prog w K mg base "row_text" 1 ["row"] (spTextU) := ⟨_, _, ok_RowText F2 T, PySem.W.mg_of X G a2, k2, b2⟩
  have GFindClaim : Fn l.prog w K mg base "find_claim" 1 ["claims", "number"] (spFind K) := ⟨_, _, ok_FindClaim F7 T, PySem.W.mg_of X G a7, k7, b7⟩
  have GPutRow : Fn l.prog w K mg base "put_row" 2 ["rounds", "row"] (spPut) := ⟨_, _, ok_PutRow F4 T GFindClaim, PySem.W.mg_of X G a4, k4, b4⟩
  have GRoundsOf : Fn l.prog w K mg base "rounds_of" 3 ["rows"] (spRounds K) := ⟨_, _, ok_RoundsOf F3 T GPutRow, PySem.W.mg_of X G a3, k3, b3⟩
  have GOverOf : Fn l.prog w K mg base "over_of" 1 ["rounds"] (spOver K) := ⟨_, _, ok_OverOf F5 T, PySem.W.mg_of X G a5, k5, b5⟩
  have GClaimsOf : Fn l.prog w K mg base "claims_of" 1 ["rounds", "turn"] (spClaims) := ⟨_, _, ok_ClaimsOf F6 T, PySem.W.mg_of X G a6, k6, b6⟩
  have GComesTwice : Fn l.prog w K mg base "comes_twice" 2 ["rounds", "row"] (spTwice) := ⟨_, _, ok_ComesTwice F13 T GFindClaim, PySem.W.mg_of X G a13, k13, b13⟩
  have GLacksClaim : Fn l.prog w K mg base "lacks_claim" 2 ["rounds", "row"] (spLacks) := ⟨_, _, ok_LacksClaim F11 T GClaimsOf GFindClaim GOverOf, PySem.W.mg_of X G a11, k11, b11⟩
  have GMeetsOver : Fn l.prog w K mg base "meets_over" 2 ["rounds", "row"] (spMeets) := ⟨_, _, ok_MeetsOver F12 T GOverOf, PySem.W.mg_of X G a12, k12, b12⟩
  have GWorthIn : Fn l.prog w K mg base "worth_in" 2 ["rounds", "row", "claim"] (spWorth) := ⟨_, _, ok_WorthIn F15 T GClaimsOf GFindClaim, PySem.W.mg_of X G a15, k15, b15⟩
  have GNamesTooMuch : Fn l.prog w K mg base "names_too_much" 3 ["rounds", "row"] (spMuch) := ⟨_, _, ok_NamesTooMuch F14 T GWorthIn, PySem.W.mg_of X G a14, k14, b14⟩
  have GCheckNext : FnX l.prog w K mg base "check_next" 4 ["rounds", "last", "written", "row"] (spNext [c_Full, c_NoClaim, c_RoundOver, c_TooLate, c_Twice, c_TooMuch, c_NoRow]) := ⟨_, _, ok_CheckNext F10 T GComesTwice GLacksClaim GMeetsOver GNamesTooMuch, PySem.W.mg_of X G a10, k10, b10⟩
  have GCheckRow : FnX l.prog w K mg base "check_row" 5 ["rows", "written", "row"] (spCheck K [c_Full, c_NoClaim, c_RoundOver, c_TooLate, c_Twice, c_TooMuch, c_NoRow]) := ⟨_, _, ok_CheckRow F8 T GCheckNext GRoundsOf, PySem.W.mg_of X G a8, k8, b8⟩
  have GCheckAnew : Fn l.prog w K mg base "check_anew" 5 ["rows"] (spAnew K) := ⟨_, _, ok_CheckAnew F9 T GCheckNext GPutRow, PySem.W.mg_of X G a9, k9, b9⟩
  have GLInt : Fn l.prog w K mg base "_law_int" 1 ["_law_got"] (spInt) := ⟨_, _, ok_LInt F16 T, PySem.W.mg_of X G a16, k16, b16⟩
  have GLTexts : Fn l.prog w K mg base "_law_texts" 1 ["_law_got", "_law_due"] (spTexts K) := ⟨_, _, ok_LTexts F17 T, PySem.W.mg_of X G a17, k17, b17⟩
  have GBookRowsKept : MtF l.prog w K mg base CX0 cB "rows_kept" 1 ["self", "mark"] [] (spKeptRowsU cB) := ⟨_, _, _, ok_BookRowsKept F29 T, ⟨a29, i29, k29⟩, b29, .nil⟩
  have GBookRowsKeptD : MtF l.prog w K mg base CX0 cB "rows_kept" 1 ["self", "mark"] [.non] (spKeptRowsU cB) := ⟨_, _, _, ok_BookRowsKept F29 T, ⟨a29, i29, k29⟩, b29D, (.cons rfl .nil)⟩
  have GBookWrite : MtF l.prog w K mg base (CX1 l.prog w) cB "write" 6 ["self", "row"] [] (spWriteU cB [c_Full, c_NoClaim, c_RoundOver, c_TooLate, c_Twice, c_TooMuch, c_NoRow]) := ⟨_, _, _, ok_BookWrite F26 T GBookRowsKeptD GCheckRow, ⟨a26, i26, k26⟩, b26, .nil⟩
  have GBookDun : MtF l.prog w K mg base (CX1 l.prog w) cB "dun" 7 ["self", "day", "side"] [] (spDunU cB [c_Full, c_NoClaim, c_RoundOver, c_TooLate, c_Twice, c_TooMuch, c_NoRow]) := ⟨_, _, _, ok_BookDun F25 T GBookWrite GDunRow, ⟨a25, i25, k25⟩, b25, .nil⟩
  have GBookPay : MtF l.prog w K mg base (CX1 l.prog w) cB "pay" 7 ["self", "day", "side", "person", "coins"] [] (spPayU cB [c_Full, c_NoClaim, c_RoundOver, c_TooLate, c_Twice, c_TooMuch, c_NoRow]) := ⟨_, _, _, ok_BookPay F24 T GBookWrite GPayRow, ⟨a24, i24, k24⟩, b24, .nil⟩
  have GBookUndo : MtF l.prog w K mg base (CX1 l.prog w) cB "undo" 6 ["self", "row"] [] (spUndoU cB [c_Full, c_NoClaim, c_RoundOver, c_TooLate, c_Twice, c_TooMuch, c_NoRow]) := ⟨_, _, _, ok_BookUndo F27 T GBookRowsKeptD GCheckAnew, ⟨a27, i27, k27⟩, b27, .nil⟩
  have GLCall : FnX l.prog w K mg base "_law_call" 8 ["_law_book", "_law_word", "_law_day", "_law_told"] (spLCallU cB [c_Full, c_NoClaim, c_RoundOver, c_TooLate, c_Twice, c_TooMuch, c_NoRow]) := ⟨_, _, ok_LCall F18 T GBookDun GBookPay GBookUndo, PySem.W.mg_of X G a18, k18, b18⟩
  have GLDo : Fn l.prog w K mg base "_law_do" 9 ["_law_book", "_law_word", "_law_day", "_law_told"] (spDoU cB) := ⟨_, _, ok_LDo F19 T GLCall, PySem.W.mg_of X G a19, k19, b19⟩
  have GLRight : Fn l.prog w K mg base "_law_right" 2 ["_law_got", "_law_due", "_law_number"] (spRight) := ⟨_, _, ok_LRight F20 T GLInt, PySem.W.mg_of X G a20, k20, b20⟩
  have GLText : Fn l.prog w K mg base "_law_text" 1 ["_law_word", "_law_day", "_law_told"] (spLTextU) := ⟨_, _, ok_LText F21 T, PySem.W.mg_of X G a21, k21, b21⟩
  have GMk : MkF l.prog w K mg base cB 1 ["self", "sides", "court", "speakers"] [] (spInitU K cB) := ⟨_, _, _, ok_BookInit F23 T, ⟨mk, a23, i23, kc⟩, b23, .nil⟩
  have GBookKeptD : MtF l.prog w K mg base CX0 cB "kept" 2 ["self", "mark"] [.non] (spKeptU cB) := ⟨_, _, _, ok_BookKept F30 T GBookRowsKept GRowText, ⟨a30, i30, k30⟩, b30D, (.cons rfl .nil)⟩
  have GBookMark : MtF l.prog w K mg base CX0 cB "mark" 1 ["self"] [] (spMarkU cB) := ⟨_, _, _, ok_BookMark F28 T, ⟨a28, i28, k28⟩, b28, .nil⟩
  exact ok_Law F22 T GMk GBookKeptD GBookMark GLDo GLInt GLRight GLText GLTexts
theorem walk {l : PySem.W.OpenLaw} {q : Program} {loose : List Str} {XP : (Str → Option Value) → Heap → Prop} {YP : World → Heap → Prop} {d : DefRec} {K : Params → PySem.W.Frag} (hn : l.most = some 63) (hdf : d.params.defaults = [])
    (hY : ∀ (w : World) (h : Heap), YP w h → (K w.params).In h)
    (F : ∀ (w : World) (mg : Str → Option Value) (fa : Addr) (h : Heap), (K w.params).In h → h.Ns mainGlobals mg → mg d.name = some (.ref fa) →
      ∃ fd : FuncData, (∀ (s : Shared) (u : Value), BindsTo s fd ⟨[u], []⟩ [("_law_script", u)]) ∧ ∀ base : Heap, (K w.params).In base → base.Ns mainGlobals mg → FnOk l.prog w (K w.params) mg base CX0 10 fa fd ["_law_script"] (spLaw (K w.params))) :
    PySem.W.WalkO q loose XP YP l.row.toRowW d [] (fun f vs => PySem.call f vs) :=
  L2.walk_of (n := 63) (k := 10) (x := "_law_script") (CX := fun _ => CX0) (sp := fun w => spLaw (K w.params)) hn (by decide) hdf ⟨rfl, by decide, by decide⟩ hY F (fun _ _ a ns hl _ hS => ⟨a, ns, rfl, hS, hl, fun _ => rfl⟩) fun _ _ _ _ _ z => z
end My
open PySem PySem.W PyProof.Rows
def PySem.W.Fast.tw9249511042399136694 : Unit := ()
def PySem.W.Fast.tw13383599213332919316 : Unit := ()
def PySem.W.Fast.tw12780030626391988550 : Unit := ()
def PySem.W.Fast.tw1655694147250140801 : Unit := ()
def PySem.W.Fast.tw11872935072613213095 : Unit := ()
def PySem.W.Fast.tw1821213806965268633 : Unit := ()
def PySem.W.Fast.tw6418696784715400797 : Unit := ()
def PySem.W.Fast.tw16358413877855879871 : Unit := ()
def PySem.W.Fast.tw1777061749714500625 : Unit := ()
set_option maxRecDepth 100000 in
set_option maxHeartbeats 0 in
theorem PySem.Challenge.cw_costorder_k19_undone_once_holds : PySem.Challenge.rw_costorder_k19_undone_once.Holds := by
  w_on; o_law; k_head; (case hw => w_witness2)
  k_fill
  refine My.walk (l := PySem.Challenge.rw_costorder_k19_undone_once) rfl rfl (fun w h Y => PySem.W.kIn_of Y) ?F
  case F =>
    intro w mg fa h KX G hmg
    refine' My.all_mk KX G hmg ?aB ?e_CostError ?e_Full ?e_NoClaim ?e_RoundOver ?e_TooLate ?e_Twice ?e_TooMuch ?e_NoRow ?e_Needed ?a0 ?l0 ?c0 ?k0 ?a1 ?l1 ?c1 ?k1 ?a2 ?l2 ?c2 ?k2 ?a3 ?l3 ?c3 ?k3 ?a4 ?l4 ?c4 ?k4 ?a5 ?l5 ?c5 ?k5 ?a6 ?l6 ?c6 ?k6 ?a7 ?l7 ?c7 ?k7 ?a8 ?l8 ?c8 ?k8 ?a9 ?l9 ?c9 ?k9 ?a10 ?l10 ?c10 ?k10 ?a11 ?l11 ?c11 ?k11 ?a12 ?l12 ?c12 ?k12 ?a13 ?l13 ?c13 ?k13 ?a14 ?l14 ?c14 ?k14 ?a15 ?l15 ?c15 ?k15 ?a16 ?l16 ?c16 ?k16 ?a17 ?l17 ?c17 ?k17 ?a18 ?l18 ?c18 ?k18 ?a19 ?l19 ?c19 ?k19 ?a20 ?l20 ?c20 ?k20 ?a21 ?l21 ?c21 ?k21 ?a22 ?l22 ?c22 ?k22 ?a23 ?i23 ?l23 ?c23 ?k23 ?a24 ?i24 ?l24 ?c24 ?k24 ?a25 ?i25 ?l25 ?c25 ?k25 ?a26 ?i26 ?l26 ?c26 ?k26 ?a27 ?i27 ?l27 ?c27 ?k27 ?a28 ?i28 ?l28 ?c28 ?k28 ?a29 ?i29 ?l29 ?c29 ?k29 ?d29 ?a30 ?i30 ?l30 ?c30 ?k30 ?d30 ?z_any ?z_bool ?z_enumerate ?z_int ?z_isinstance ?z_len ?z_list ?z_range ?z_set ?z_str ?z_zip ?y_CLAIM ?y_DAY ?y_MOST_ROWS ?y_NUMBER ?y_OFFER_AMOUNT ?y_OFFER_CLAIM ?y_ROUNDS ?y_RULE_WINS ?y_TURN ?y_WORD ?y_WORTH ?pg ?hd ?po ?sa ?mk ?kc ?nf_people ?nf_court ?nf_speakers ?nf_rows ?nf_came ?nf_went ?nf_done ?xd_CostError ?xy_CostError ?xd_Full ?xy_Full ?xd_NoClaim ?xy_NoClaim ?xd_RoundOver ?xy_RoundOver ?xd_TooLate ?xy_TooLate ?xd_Twice ?xy_Twice ?xd_TooMuch ?xy_TooMuch ?xd_NoRow ?xy_NoRow ?xd_Needed ?xy_Needed ?xB ?xx_Full ?xg_Full ?xh_Full ?xa_Full ?xo_Full ?xb_Full ?xk_Full_CostError ?xk_Full_NoClaim ?xn_Full_NoClaim ?xk_Full_RoundOver ?xn_Full_RoundOver ?xk_Full_TooLate ?xn_Full_TooLate ?xk_Full_Twice ?xn_Full_Twice ?xk_Full_TooMuch ?xn_Full_TooMuch ?xk_Full_NoRow ?xn_Full_NoRow ?xk_Full_Needed ?xn_Full_Needed ?xx_NoClaim ?xg_NoClaim ?xh_NoClaim ?xa_NoClaim ?xo_NoClaim ?xb_NoClaim ?xk_NoClaim_CostError ?xk_NoClaim_Full ?xn_NoClaim_Full ?xk_NoClaim_RoundOver ?xn_NoClaim_RoundOver ?xk_NoClaim_TooLate ?xn_NoClaim_TooLate ?xk_NoClaim_Twice ?xn_NoClaim_Twice ?xk_NoClaim_TooMuch ?xn_NoClaim_TooMuch ?xk_NoClaim_NoRow ?xn_NoClaim_NoRow ?xk_NoClaim_Needed ?xn_NoClaim_Needed ?xx_RoundOver ?xg_RoundOver ?xh_RoundOver ?xa_RoundOver ?xo_RoundOver ?xb_RoundOver ?xk_RoundOver_CostError ?xk_RoundOver_Full ?xn_RoundOver_Full ?xk_RoundOver_NoClaim ?xn_RoundOver_NoClaim ?xk_RoundOver_TooLate ?xn_RoundOver_TooLate ?xk_RoundOver_Twice ?xn_RoundOver_Twice ?xk_RoundOver_TooMuch ?xn_RoundOver_TooMuch ?xk_RoundOver_NoRow ?xn_RoundOver_NoRow ?xk_RoundOver_Needed ?xn_RoundOver_Needed ?xx_TooLate ?xg_TooLate ?xh_TooLate ?xa_TooLate ?xo_TooLate ?xb_TooLate ?xk_TooLate_CostError ?xk_TooLate_Full ?xn_TooLate_Full ?xk_TooLate_NoClaim ?xn_TooLate_NoClaim ?xk_TooLate_RoundOver ?xn_TooLate_RoundOver ?xk_TooLate_Twice ?xn_TooLate_Twice ?xk_TooLate_TooMuch ?xn_TooLate_TooMuch ?xk_TooLate_NoRow ?xn_TooLate_NoRow ?xk_TooLate_Needed ?xn_TooLate_Needed ?xx_Twice ?xg_Twice ?xh_Twice ?xa_Twice ?xo_Twice ?xb_Twice ?xk_Twice_CostError ?xk_Twice_Full ?xn_Twice_Full ?xk_Twice_NoClaim ?xn_Twice_NoClaim ?xk_Twice_RoundOver ?xn_Twice_RoundOver ?xk_Twice_TooLate ?xn_Twice_TooLate ?xk_Twice_TooMuch ?xn_Twice_TooMuch ?xk_Twice_NoRow ?xn_Twice_NoRow ?xk_Twice_Needed ?xn_Twice_Needed ?xx_TooMuch ?xg_TooMuch ?xh_TooMuch ?xa_TooMuch ?xo_TooMuch ?xb_TooMuch ?xk_TooMuch_CostError ?xk_TooMuch_Full ?xn_TooMuch_Full ?xk_TooMuch_NoClaim ?xn_TooMuch_NoClaim ?xk_TooMuch_RoundOver ?xn_TooMuch_RoundOver ?xk_TooMuch_TooLate ?xn_TooMuch_TooLate ?xk_TooMuch_Twice ?xn_TooMuch_Twice ?xk_TooMuch_NoRow ?xn_TooMuch_NoRow ?xk_TooMuch_Needed ?xn_TooMuch_Needed ?xx_NoRow ?xg_NoRow ?xh_NoRow ?xa_NoRow ?xo_NoRow ?xb_NoRow ?xk_NoRow_CostError ?xk_NoRow_Full ?xn_NoRow_Full ?xk_NoRow_NoClaim ?xn_NoRow_NoClaim ?xk_NoRow_RoundOver ?xn_NoRow_RoundOver ?xk_NoRow_TooLate ?xn_NoRow_TooLate ?xk_NoRow_Twice ?xn_NoRow_Twice ?xk_NoRow_TooMuch ?xn_NoRow_TooMuch ?xk_NoRow_Needed ?xn_NoRow_Needed ?xs ?xt
    (case aB => k_is)
    (case e_CostError => k_is)
    (case e_Full => k_is)
    (case e_NoClaim => k_is)
    (case e_RoundOver => k_is)
    (case e_TooLate => k_is)
    (case e_Twice => k_is)
    (case e_TooMuch => k_is)
    (case e_NoRow => k_is)
    (case e_Needed => k_is)
    (case a0 => k_is)
    (case l0 => k_is)
    (case c0 => k_is)
    (case k0 => k_is)
    (case a1 => k_is)
    (case l1 => k_is)
    (case c1 => k_is)
    (case k1 => k_is)
    (case a2 => k_is)
    (case l2 => k_is)
    (case c2 => k_is)
    (case k2 => k_is)
    (case a3 => k_is)
    (case l3 => k_is)
    (case c3 => k_is)
    (case k3 => k_is)
    (case a4 => k_is)
    (case l4 => k_is)
    (case c4 => k_is)
    (case k4 => k_is)
    (case a5 => k_is)
    (case l5 => k_is)
    (case c5 => k_is)
    (case k5 => k_is)
    (case a6 => k_is)
    (case l6 => k_is)
    (case c6 => k_is)
    (case k6 => k_is)
    (case a7 => k_is)
    (case l7 => k_is)
    (case c7 => k_is)
    (case k7 => k_is)
    (case a8 => k_is)
    (case l8 => k_is)
    (case c8 => k_is)
    (case k8 => k_is)
    (case a9 => k_is)
    (case l9 => k_is)
    (case c9 => k_is)
    (case k9 => k_is)
    (case a10 => k_is)
    (case l10 => k_is)
    (case c10 => k_is)
    (case k10 => k_is)
    (case a11 => k_is)
    (case l11 => k_is)
    (case c11 => k_is)
    (case k11 => k_is)
    (case a12 => k_is)
    (case l12 => k_is)
    (case c12 => k_is)
    (case k12 => k_is)
    (case a13 => k_is)
    (case l13 => k_is)
    (case c13 => k_is)
    (case k13 => k_is)
    (case a14 => k_is)
    (case l14 => k_is)
    (case c14 => k_is)
    (case k14 => k_is)
    (case a15 => k_is)
    (case l15 => k_is)
    (case c15 => k_is)
    (case k15 => k_is)
    (case a16 => k_is)
    (case l16 => k_is)
    (case c16 => k_is)
    (case k16 => k_is)
    (case a17 => k_is)
    (case l17 => k_is)
    (case c17 => k_is)
    (case k17 => k_is)
    (case a18 => k_is)
    (case l18 => k_is)
    (case c18 => k_is)
    (case k18 => k_is)
    (case a19 => k_is)
    (case l19 => k_is)
    (case c19 => k_is)
    (case k19 => k_is)
    (case a20 => k_is)
    (case l20 => k_is)
    (case c20 => k_is)
    (case k20 => k_is)
    (case a21 => k_is)
    (case l21 => k_is)
    (case c21 => k_is)
    (case k21 => k_is)
    (case a22 => k_is)
    (case l22 => k_is)
    (case c22 => k_is)
    (case k22 => k_is)
    (case a23 => k_is)
    (case i23 => k_is)
    (case l23 => k_is)
    (case c23 => k_is)
    (case k23 => k_is)
    (case a24 => k_is)
    (case i24 => k_is)
    (case l24 => k_is)
    (case c24 => k_is)
    (case k24 => k_is)
    (case a25 => k_is)
    (case i25 => k_is)
    (case l25 => k_is)
    (case c25 => k_is)
    (case k25 => k_is)
    (case a26 => k_is)
    (case i26 => k_is)
    (case l26 => k_is)
    (case c26 => k_is)
    (case k26 => k_is)
    (case a27 => k_is)
    (case i27 => k_is)
    (case l27 => k_is)
    (case c27 => k_is)
    (case k27 => k_is)
    (case a28 => k_is)
    (case i28 => k_is)
    (case l28 => k_is)
    (case c28 => k_is)
    (case k28 => k_is)
    (case a29 => k_is)
    (case i29 => k_is)
    (case l29 => k_is)
    (case c29 => k_is)
    (case k29 => k_is)
    (case d29 => k_is)
    (case a30 => k_is)
    (case i30 => k_is)
    (case l30 => k_is)
    (case c30 => k_is)
    (case k30 => k_is)
    (case d30 => k_is)
    (case z_any => k_is)
    (case z_bool => k_is)
    (case z_enumerate => k_is)
    (case z_int => k_is)
    (case z_isinstance => k_is)
    (case z_len => k_is)
    (case z_list => k_is)
    (case z_range => k_is)
    (case z_set => k_is)
    (case z_str => k_is)
    (case z_zip => k_is)
    (case y_CLAIM => k_is)
    (case y_DAY => k_is)
    (case y_MOST_ROWS => k_is)
    (case y_NUMBER => k_is)
    (case y_OFFER_AMOUNT => k_is)
    (case y_OFFER_CLAIM => k_is)
    (case y_ROUNDS => k_is)
    (case y_RULE_WINS => k_is)
    (case y_TURN => k_is)
    (case y_WORD => k_is)
    (case y_WORTH => k_is)
    (case pg => k_is)
    (case hd => k_is)
    (case po => k_is)
    (case sa => k_is)
    (case mk => k_is)
    (case kc => k_is)
    (case nf_people => k_is)
    (case nf_court => k_is)
    (case nf_speakers => k_is)
    (case nf_rows => k_is)
    (case nf_came => k_is)
    (case nf_went => k_is)
    (case nf_done => k_is)
    (case xd_CostError => k_is)
    (case xy_CostError => k_is)
    (case xd_Full => k_is)
    (case xy_Full => k_is)
    (case xd_NoClaim => k_is)
    (case xy_NoClaim => k_is)
    (case xd_RoundOver => k_is)
    (case xy_RoundOver => k_is)
    (case xd_TooLate => k_is)
    (case xy_TooLate => k_is)
    (case xd_Twice => k_is)
    (case xy_Twice => k_is)
    (case xd_TooMuch => k_is)
    (case xy_TooMuch => k_is)
    (case xd_NoRow => k_is)
    (case xy_NoRow => k_is)
    (case xd_Needed => k_is)
    (case xy_Needed => k_is)
    (case xB => k_is)
    (case xx_Full => first | k_is | (unfold ExcCls; k_is) | kernel_rfl)
    (case xg_Full => k_is)
    (case xh_Full => k_is)
    (case xa_Full => k_is)
    (case xo_Full => k_is)
    (case xb_Full => k_is)
    (case xk_Full_CostError => k_is)
    (case xk_Full_NoClaim => k_is)
    (case xn_Full_NoClaim => rfl)
    (case xk_Full_RoundOver => k_is)
    (case xn_Full_RoundOver => rfl)
    (case xk_Full_TooLate => k_is)
    (case xn_Full_TooLate => rfl)
    (case xk_Full_Twice => k_is)
    (case xn_Full_Twice => rfl)
    (case xk_Full_TooMuch => k_is)
    (case xn_Full_TooMuch => rfl)
    (case xk_Full_NoRow => k_is)
    (case xn_Full_NoRow => rfl)
    (case xk_Full_Needed => k_is)
    (case xn_Full_Needed => rfl)
    (case xx_NoClaim => first | k_is | (unfold ExcCls; k_is) | kernel_rfl)
    (case xg_NoClaim => k_is)
    (case xh_NoClaim => k_is)
    (case xa_NoClaim => k_is)
    (case xo_NoClaim => k_is)
    (case xb_NoClaim => k_is)
    (case xk_NoClaim_CostError => k_is)
    (case xk_NoClaim_Full => k_is)
    (case xn_NoClaim_Full => rfl)
    (case xk_NoClaim_RoundOver => k_is)
    (case xn_NoClaim_RoundOver => rfl)
    (case xk_NoClaim_TooLate => k_is)
    (case xn_NoClaim_TooLate => rfl)
    (case xk_NoClaim_Twice => k_is)
    (case xn_NoClaim_Twice => rfl)
    (case xk_NoClaim_TooMuch => k_is)
    (case xn_NoClaim_TooMuch => rfl)
    (case xk_NoClaim_NoRow => k_is)
    (case xn_NoClaim_NoRow => rfl)
    (case xk_NoClaim_Needed => k_is)
    (case xn_NoClaim_Needed => rfl)
    (case xx_RoundOver => first | k_is | (unfold ExcCls; k_is) | kernel_rfl)
    (case xg_RoundOver => k_is)
    (case xh_RoundOver => k_is)
    (case xa_RoundOver => k_is)
    (case xo_RoundOver => k_is)
    (case xb_RoundOver => k_is)
    (case xk_RoundOver_CostError => k_is)
    (case xk_RoundOver_Full => k_is)
    (case xn_RoundOver_Full => rfl)
    (case xk_RoundOver_NoClaim => k_is)
    (case xn_RoundOver_NoClaim => rfl)
    (case xk_RoundOver_TooLate => k_is)
    (case xn_RoundOver_TooLate => rfl)
    (case xk_RoundOver_Twice => k_is)
    (case xn_RoundOver_Twice => rfl)
    (case xk_RoundOver_TooMuch => k_is)
    (case xn_RoundOver_TooMuch => rfl)
    (case xk_RoundOver_NoRow => k_is)
    (case xn_RoundOver_NoRow => rfl)
    (case xk_RoundOver_Needed => k_is)
    (case xn_RoundOver_Needed => rfl)
    (case xx_TooLate => first | k_is | (unfold ExcCls; k_is) | kernel_rfl)
    (case xg_TooLate => k_is)
    (case xh_TooLate => k_is)
    (case xa_TooLate => k_is)
    (case xo_TooLate => k_is)
    (case xb_TooLate => k_is)
    (case xk_TooLate_CostError => k_is)
    (case xk_TooLate_Full => k_is)
    (case xn_TooLate_Full => rfl)
    (case xk_TooLate_NoClaim => k_is)
    (case xn_TooLate_NoClaim => rfl)
    (case xk_TooLate_RoundOver => k_is)
    (case xn_TooLate_RoundOver => rfl)
    (case xk_TooLate_Twice => k_is)
    (case xn_TooLate_Twice => rfl)
    (case xk_TooLate_TooMuch => k_is)
    (case xn_TooLate_TooMuch => rfl)
    (case xk_TooLate_NoRow => k_is)
    (case xn_TooLate_NoRow => rfl)
    (case xk_TooLate_Needed => k_is)
    (case xn_TooLate_Needed => rfl)
    (case xx_Twice => first | k_is | (unfold ExcCls; k_is) | kernel_rfl)
    (case xg_Twice => k_is)
    (case xh_Twice => k_is)
    (case xa_Twice => k_is)
    (case xo_Twice => k_is)
    (case xb_Twice => k_is)
    (case xk_Twice_CostError => k_is)
    (case xk_Twice_Full => k_is)
    (case xn_Twice_Full => rfl)
    (case xk_Twice_NoClaim => k_is)
    (case xn_Twice_NoClaim => rfl)
    (case xk_Twice_RoundOver => k_is)
    (case xn_Twice_RoundOver => rfl)
    (case xk_Twice_TooLate => k_is)
    (case xn_Twice_TooLate => rfl)
    (case xk_Twice_TooMuch => k_is)
    (case xn_Twice_TooMuch => rfl)
    (case xk_Twice_NoRow => k_is)
    (case xn_Twice_NoRow => rfl)
    (case xk_Twice_Needed => k_is)
    (case xn_Twice_Needed => rfl)
    (case xx_TooMuch => first | k_is | (unfold ExcCls; k_is) | kernel_rfl)
    (case xg_TooMuch => k_is)
    (case xh_TooMuch => k_is)
    (case xa_TooMuch => k_is)
    (case xo_TooMuch => k_is)
    (case xb_TooMuch => k_is)
    (case xk_TooMuch_CostError => k_is)
    (case xk_TooMuch_Full => k_is)
    (case xn_TooMuch_Full => rfl)
    (case xk_TooMuch_NoClaim => k_is)
    (case xn_TooMuch_NoClaim => rfl)
    (case xk_TooMuch_RoundOver => k_is)
    (case xn_TooMuch_RoundOver => rfl)
    (case xk_TooMuch_TooLate => k_is)
    (case xn_TooMuch_TooLate => rfl)
    (case xk_TooMuch_Twice => k_is)
    (case xn_TooMuch_Twice => rfl)
    (case xk_TooMuch_NoRow => k_is)
    (case xn_TooMuch_NoRow => rfl)
    (case xk_TooMuch_Needed => k_is)
    (case xn_TooMuch_Needed => rfl)
    (case xx_NoRow => first | k_is | (unfold ExcCls; k_is) | kernel_rfl)
    (case xg_NoRow => k_is)
    (case xh_NoRow => k_is)
    (case xa_NoRow => k_is)
    (case xo_NoRow => k_is)
    (case xb_NoRow => k_is)
    (case xk_NoRow_CostError => k_is)
    (case xk_NoRow_Full => k_is)
    (case xn_NoRow_Full => rfl)
    (case xk_NoRow_NoClaim => k_is)
    (case xn_NoRow_NoClaim => rfl)
    (case xk_NoRow_RoundOver => k_is)
    (case xn_NoRow_RoundOver => rfl)
    (case xk_NoRow_TooLate => k_is)
    (case xn_NoRow_TooLate => rfl)
    (case xk_NoRow_Twice => k_is)
    (case xn_NoRow_Twice => rfl)
    (case xk_NoRow_TooMuch => k_is)
    (case xn_NoRow_TooMuch => rfl)
    (case xk_NoRow_Needed => k_is)
    (case xn_NoRow_Needed => rfl)
    (case xs => k_is)
    (case xt => k_is)
