import PyProof.Rows.All
import Wide.All
import OpenK.AllK
import Wide.FinOn
import Lean
import PyProof.EqAt
import PyProof.EqKinds
import PyProof.TupleCall
import PySem.Challenge.RW_costorder_k29_interest_of_one_debt
-- CHANGE: your row's module here, as the last of these rows
set_option Elab.async false
set_option linter.all false
set_option maxRecDepth 100000
/-! THE HAND LAYER, for ints, bools, texts, own classes, LISTS and tuples (index, slices, in, append, pop ..), calls, loops. Paste it whole ahead of your own text; what your proof does not reach may be deleted. -/
namespace L2
open PySem PySem.Spec PyProof.Rows

/-- a key: an int or a str -/
abbrev Key := Sum Int Str
def keyIs : Key → Value → Bool
  | .inl k, v => Value.isInt k v
  | .inr x, v => Value.isStrOf x v
def keyH (w : World) : Key → Int
  | .inl k => hashInt k
  | .inr x => hashStr w x
theorem keyIs_shape : ∀ {k : Key} {v : Value}, keyIs k v = true → (∃ i t, k = Sum.inl i ∧ v = Value.int i t) ∨ (∃ x t, k = Sum.inr x ∧ v = Value.str x t)
  | .inl i, v, h => by
    obtain ⟨t, e⟩ := Value.isInt_shape (k := i) (v := v) h
    exact .inl ⟨i, t, rfl, e⟩
  | .inr x, v, h => by
    obtain ⟨t, e⟩ := Value.isStrOf_shape (x := x) (v := v) h
    exact .inr ⟨x, t, rfl, e⟩
theorem keyIs_int (i : Int) (t : Tok) : keyIs (.inl i) (.int i t) = true := by simp [keyIs, Value.isInt]
theorem keyIs_str (x : Str) (t : Tok) : keyIs (.inr x) (.str x t) = true := by simp [keyIs, Value.isStrOf]
theorem key_ll (a b : Int) : decide ((Sum.inl a : Key) = Sum.inl b) = (a == b) := by
  by_cases e : a = b
  · subst e; simp
  · have h : ¬ (Sum.inl a : Key) = Sum.inl b := fun q => e (Sum.inl.inj q)
    rw [decide_eq_false h]
    exact (beq_eq_false_iff_ne.mpr e).symm
theorem key_rr (a b : Str) : decide ((Sum.inr a : Key) = Sum.inr b) = decide (a = b) := by
  by_cases e : a = b
  · subst e; simp
  · have h : ¬ (Sum.inr a : Key) = Sum.inr b := fun q => e (Sum.inr.inj q)
    rw [decide_eq_false h, decide_eq_false e]
theorem key_lr (a : Int) (b : Str) : decide ((Sum.inl a : Key) = Sum.inr b) = false := decide_eq_false (fun q => nomatch q)
theorem key_rl (a : Str) (b : Int) : decide ((Sum.inr a : Key) = Sum.inl b) = false := decide_eq_false (fun q => nomatch q)

def mixKind (prog : Program) (w : World) : PySem.KeyKind prog w Key where
  is := keyIs
  hash := keyH w
  inj := fun v a b ha hb => by
    rcases keyIs_shape ha with ⟨i, t, rfl, rfl⟩ | ⟨x, t, rfl, rfl⟩
    · rcases keyIs_shape hb with ⟨j, u, rfl, e⟩ | ⟨y, u, rfl, e⟩
      · injection e with e1 _; rw [e1]
      · exact nomatch e
    · rcases keyIs_shape hb with ⟨j, u, rfl, e⟩ | ⟨y, u, rfl, e⟩
      · exact nomatch e
      · injection e with e1 _; rw [e1]
  byValue := fun k v h => by
    rcases keyIs_shape h with ⟨i, t, rfl, rfl⟩ | ⟨x, t, rfl, rfl⟩ <;> rfl
  pyHash := fun hv h => by
    rcases keyIs_shape hv with ⟨i, t, rfl, rfl⟩ | ⟨x, t, rfl, rfl⟩
    · exact wpAny_pyHash_int h
    · exact wpAny_pyHash_str h
  eqBool := fun hu hv h => by
    rcases keyIs_shape hu with ⟨i, t, rfl, rfl⟩ | ⟨x, t, rfl, rfl⟩
    · rcases keyIs_shape hv with ⟨j, u, rfl, rfl⟩ | ⟨y, u, rfl, rfl⟩
      · rw [key_ll] at h; exact wpAny_eqBool_int h
      · rw [key_lr] at h; exact SeqAt.EqAt.int_str i t y u _ _ _ _ h
    · rcases keyIs_shape hv with ⟨j, u, rfl, rfl⟩ | ⟨y, u, rfl, rfl⟩
      · rw [key_rl] at h; exact SeqAt.EqAt.str_int x t j u _ _ _ _ h
      · rw [key_rr] at h; exact wpAny_eqBool_str h
  «strs» := fun k x t v h => by
    rcases keyIs_shape h with ⟨i, u, rfl, e⟩ | ⟨y, u, rfl, e⟩
    · exact nomatch e
    · injection e with e1 _
      subst e1
      cases v <;> rfl

theorem mixKind_int (prog : Program) (w : World) (i : Int) (t : Tok) : (mixKind prog w).is (.inl i) (.int i t) = true := keyIs_int i t
theorem mixKind_str (prog : Program) (w : World) (x : Str) (t : Tok) : (mixKind prog w).is (.inr x) (.str x t) = true := keyIs_str x t
end L2

namespace L2
open PySem PySem.Spec PyProof.Rows

/-- a value, without the heap -/
inductive V where
  | non | bl (b : Bool) | int (i : Int) | str (x : Str) | byt (b : Array UInt8) | flt (b : UInt64) | ref (a : Addr) | ty (n : String)
  deriving DecidableEq

def RelV : V → Value → Prop
  | .non, u => u = Value.none
  | .bl b, u => u = Value.bool b
  | .int i, u => ∃ t, u = Value.int i t
  | .str x, u => ∃ t, u = Value.str x t
  | .byt b, u => ∃ t, u = Value.bytes b t
  | .flt b, u => ∃ t, u = Value.float b t
  | .ref a, u => u = Value.ref a
  | .ty n, u => u = Value.type n

abbrev Vals : List V → List Value → Prop := Paired RelV
theorem Vals.length {xs : List V} {us : List Value} (r : Vals xs us) : xs.length = us.length := Paired.length r
theorem Vals.get : ∀ {xs : List V} {us : List Value} {i : Nat} {x : V}, Vals xs us → xs[i]? = some x → ∃ u, us[i]? = some u ∧ RelV x u
  | _, _, _, _, .nil, e => by simp at e
  | _, _, 0, _, .cons r _, e => by simp at e; subst e; exact ⟨_, rfl, r⟩
  | _, _, i + 1, x, .cons _ t, e => by
    obtain ⟨u, h1, h2⟩ := Vals.get (i := i) (x := x) t (by simpa using e)
    exact ⟨u, by simpa using h1, h2⟩
theorem Vals.set {x : V} {u : Value} (r : RelV x u) : ∀ {xs : List V} {us : List Value} (i : Nat), Vals xs us → Vals (xs.set i x) (us.set i u)
  | _, _, _, .nil => .nil
  | _, _, 0, .cons _ t => .cons r t
  | _, _, i + 1, .cons q t => .cons q (Vals.set r i t)
theorem Vals.append : ∀ {xs ys : List V} {us ws : List Value}, Vals xs us → Vals ys ws → Vals (xs ++ ys) (us ++ ws)
  | _, _, _, _, .nil, s => s
  | _, _, _, _, .cons r t, s => .cons r (Vals.append t s)
theorem Vals.take : ∀ {xs : List V} {us : List Value} (n : Nat), Vals xs us → Vals (xs.take n) (us.take n)
  | _, _, 0, _ => .nil
  | _, _, _ + 1, .nil => .nil
  | _, _, n + 1, .cons r t => .cons r (Vals.take n t)
theorem Vals.drop : ∀ {xs : List V} {us : List Value} (n : Nat), Vals xs us → Vals (xs.drop n) (us.drop n)
  | _, _, 0, r => r
  | _, _, _ + 1, .nil => .nil
  | _, _, n + 1, .cons _ t => Vals.drop n t
theorem Vals.none_of : ∀ {xs : List V} {us : List Value} {i : Nat}, Vals xs us → xs[i]? = none → us[i]? = none := fun {xs us i} r e => by
  have h1 := r.length
  have h2 : xs.length ≤ i := List.getElem?_eq_none_iff.mp e
  exact List.getElem?_eq_none_iff.mpr (by omega)

def RelO : Option V → Option Value → Prop
  | some v, some u => RelV v u
  | none, none => True
  | _, _ => False
def KV {κ : Type} : List (κ × V) → List (κ × Value) → Prop := Paired fun (p : κ × V) (q : κ × Value) => p.1 = q.1 ∧ RelV p.2 q.2

/-- a key of a dict (00_mix): an int or a text -/
def kV : Key → V
  | .inl i => .int i
  | .inr x => .str x

/-- what stands at a tracked address -/
inductive HO where
  /-- a list -/
  | lst (xs : List V)
  /-- a tuple (never changes) -/
  | tup (xs : List V)
  /-- a dict whose keys are ints and texts; one whose keys are tuples of ints and texts (the empty one is both) -/
  | dK (kvs : List (Key × V)) | dT (kvs : List (List Key × V))
  /-- a set of ints: its members, its size -/
  | set (S : Int → Bool) (n : Nat)
  /-- an instance of the class at C, its dict at dx, its attributes -/
  | ins (C dx : Addr) (fs : List (Str × V))
  /-- the dict of the instance at x -/
  | own (x : Addr)
  /-- the dict of an exception -/
  | xd (fs : List (Str × V))
  /-- a bound method, f of x -/
  | met (f x : Addr)
  /-- a range object lo, lo + 1, .. below hi -/
  | rng (lo hi : Int)
  /-- a thing that is known to the object (the script; a dict while a loop walks it): read, never written while it is so -/
  | frz (o : Obj) (u : HO)
  /-- a code object's table -/
  | tbl (ps : Array Value)
  /-- any other thing, by what is true of its one object (a def of one's own: SetO a S n := HO.ext fun h => ..) -/
  | ext (φ : Heap → Prop)

abbrev Hp := Addr → Option HO
def upd (H : Hp) (a : Addr) (o : HO) : Hp := fun b => if b = a then some o else H b
theorem upd_same {H : Hp} {a : Addr} {o : HO} : upd H a o a = some o := by unfold upd; rw [if_pos rfl]
theorem upd_ne {H : Hp} {a b : Addr} {o : HO} (h : b ≠ a) : upd H a o b = H b := by unfold upd; rw [if_neg h]
/-- two objects of different content stand apart -/
theorem ne_of {H : Hp} {a b : Addr} {o u : HO} (h : H a = some o) (h' : H b = some u) (d : o ≠ u) : a ≠ b := by
  intro e; subst e; rw [h] at h'; exact d (Option.some.inj h')
theorem ne_of_none {H : Hp} {a b : Addr} {o : HO} (h : H a = some o) (h' : H b = none) : a ≠ b := by
  intro e; subst e; rw [h] at h'; cases h'

section
variable (P : Program) (w : World)
def ObjOk (H : Hp) (h : Heap) (a : Addr) : HO → Prop
  | .lst xs => xs.length ≤ sizeLine ∧ ∃ (its : List Value) (n : Nat), Vals xs its ∧ h.get? a = some { cls := .type "list", data := .seq its.toArray n }
  | .tup xs => xs.length ≤ sizeLine ∧ ∃ its : List Value, Vals xs its ∧ IsTup h a its.toArray
  | .dK kvs => kvs.length ≤ sizeLine ∧ (a == sysModules) = false ∧ ∃ vs, KV kvs vs ∧ h.DictOf (mixKind P w) a vs
  | .dT kvs => kvs.length ≤ sizeLine ∧ (a == sysModules) = false ∧ ∃ xs : List (List Key × Addr × Value),
      Paired (fun (p : List Key × V) (q : List Key × Addr × Value) => p.1 = q.1 ∧ H q.2.1 = some (.tup (p.1.map kV)) ∧ RelV p.2 q.2.2) kvs xs ∧
      ∃ o es ep, h.get? a = some o ∧ o.ExactDict ∧ o.data = .dict es ep ∧ es.toList = xs.map (entryOfKey (tupleKind (mixKind P w))) ∧ (xs.map (·.1)).Nodup
  | .set S n => h.SetOf (intKind P w) a S n
  | .ins C dx fs => H dx = some (.own a) ∧ fs.length ≤ 1000 ∧ dx ≠ a ∧ h.get? a = some (PySem.W.instObj C dx) ∧
      ∃ mA, h.Ns1 dx mA ∧ (∀ f, RelO (fs.lookup f) (mA f)) ∧ PySem.Within mA (fs.map (·.1))
  | .own _ => ∃ o, h.get? a = some o
  | .xd fs => ∃ mA, h.Ns1 a mA ∧ ∀ f, RelO (fs.lookup f) (mA f)
  | .rng lo hi => ∃ t u v, h.get? a = some { cls := .type "range", data := .fields #[.int lo t, .int hi u, .int 1 v] }
  | .frz o u => h.get? a = some o ∧ ObjOk H h a u
  | .tbl ps => h.get? a = some { cls := .none, data := .fields ps }
  | .met f x => h.get? a = some (PySem.W.methodObj (.ref f) (.ref x))
  | .ext φ => φ h ∧ (∃ o, h.get? a = some o) ∧ ∀ h1 h2 : Heap, φ h1 → (∀ o, h1.get? a = some o → h2.get? a = some o) → φ h2
/-- the abstract heap is held -/
def HOk (H : Hp) (h : Heap) : Prop := ∀ a o, H a = some o → ObjOk P w H h a o
end

section
variable {P : Program} {w : World} {H H' : Hp} {h h' : Heap} {a : Addr} {o : HO}
theorem ObjOk.lt (x : ObjOk P w H h a o) : a < h.objs.size := by
  cases o with
  | lst xs => obtain ⟨_, _, _, _, e⟩ := x; exact Heap.lt_size e
  | tup xs => obtain ⟨_, _, _, p⟩ := x; exact p.lt
  | dK kvs => obtain ⟨_, _, _, _, o, _, _, e, _⟩ := x; exact Heap.lt_size e
  | dT kvs => obtain ⟨_, _, _, _, o, _, _, e, _⟩ := x; exact Heap.lt_size e
  | set S n => obtain ⟨o, _, _, _, e, _⟩ := x; exact Heap.lt_size e
  | ins C dx fs => obtain ⟨_, _, _, e, _⟩ := x; exact Heap.lt_size e
  | own y => obtain ⟨_, e⟩ := x; exact Heap.lt_size e
  | xd fs => obtain ⟨_, ⟨_, _, _, e, _⟩, _⟩ := x; exact Heap.lt_size e
  | rng lo hi => obtain ⟨_, _, _, e⟩ := x; exact Heap.lt_size e
  | frz ob u => obtain ⟨e, _⟩ := x; exact Heap.lt_size e
  | tbl ps => exact Heap.lt_size (show h.get? a = some _ from x)
  | met f y => exact Heap.lt_size (show h.get? a = some _ from x)
  | ext φ => obtain ⟨_, ⟨_, e⟩, _⟩ := x; exact Heap.lt_size e
theorem Paired.mapP {α β : Type} {F G : α → β → Prop} : ∀ {l₁ : List α} {l₂ : List β}, Paired F l₁ l₂ → (∀ a b, F a b → G a b) → Paired G l₁ l₂
  | _, _, .nil, _ => .nil
  | _, _, .cons r t, f => .cons (f _ _ r) (Paired.mapP t f)
/-- what an object's description leans on: its own object, its own dict, the tuples -/
theorem ObjOk.stay (x : ObjOk P w H h a o) (k : ∀ b u, (b = a ∨ H b = some (.own a)) → h.get? b = some u → h'.get? b = some u)
    (ho : ∀ b, H b = some (.own a) → H' b = some (.own a)) (ht : ∀ b xs, H b = some (.tup xs) → H' b = some (.tup xs)) : ObjOk P w H' h' a o := by
  induction o with
  | lst xs => obtain ⟨z, its, n, r, e⟩ := x; exact ⟨z, its, n, r, k _ _ (.inl rfl) e⟩
  | tup xs => obtain ⟨z, its, r, ob, e, c⟩ := x; exact ⟨z, its, r, ob, k _ _ (.inl rfl) e, c⟩
  | dK kvs => obtain ⟨z, y, vs, r, ob, es, ep, e, c⟩ := x; exact ⟨z, y, vs, r, ob, es, ep, k _ _ (.inl rfl) e, c⟩
  | dT kvs =>
    obtain ⟨z, y, xs, r, ob, es, ep, e, c⟩ := x
    exact ⟨z, y, xs, Paired.mapP r fun p q z => ⟨z.1, ht _ _ z.2.1, z.2.2⟩, ob, es, ep, k _ _ (.inl rfl) e, c⟩
  | set S n => obtain ⟨ob, es, ep, t, e, c⟩ := x; exact ⟨ob, es, ep, t, k _ _ (.inl rfl) e, c⟩
  | ins C dx fs =>
    obtain ⟨d, z, ne, e, mA, ⟨od, es, ep, e2, c⟩, r⟩ := x
    exact ⟨ho _ d, z, ne, k _ _ (.inl rfl) e, mA, ⟨od, es, ep, k _ _ (.inr d) e2, c⟩, r⟩
  | own y => obtain ⟨ob, e⟩ := x; exact ⟨ob, k _ _ (.inl rfl) e⟩
  | xd fs => obtain ⟨mA, ⟨od, es, ep, e, c⟩, r⟩ := x; exact ⟨mA, ⟨od, es, ep, k _ _ (.inl rfl) e, c⟩, r⟩
  | rng lo hi => obtain ⟨t, u, v, e⟩ := x; exact ⟨t, u, v, k _ _ (.inl rfl) e⟩
  | frz ob u ih => obtain ⟨e, q⟩ := x; exact ⟨k _ _ (.inl rfl) e, ih q⟩
  | tbl ps =>
    have e : h.get? a = some { cls := .none, data := .fields ps } := x
    show h'.get? a = some { cls := .none, data := .fields ps }
    exact k a _ (.inl rfl) e
  | met f y =>
    have e : h.get? a = some (PySem.W.methodObj (.ref f) (.ref y)) := x
    show h'.get? a = some (PySem.W.methodObj (.ref f) (.ref y))
    exact k a _ (.inl rfl) e
  | ext φ => obtain ⟨p, ⟨o, e⟩, st⟩ := x; exact ⟨st _ _ p fun o q => k _ _ (.inl rfl) q, ⟨o, k _ _ (.inl rfl) e⟩, st⟩
theorem HOk.lt (x : HOk P w H h) (e : H a = some o) : a < h.objs.size := (x a o e).lt
theorem HOk.fresh (x : HOk P w H h) (e : h.objs.size ≤ a) : H a = none := by
  cases q : H a with
  | none => rfl
  | some u => exact absurd (Nat.lt_of_lt_of_le (x.lt q) e) (Nat.lt_irrefl _)
/-- every object of the heap is kept -/
theorem HOk.kept (x : HOk P w H h) (k : ∀ b u, h.get? b = some u → h'.get? b = some u) : HOk P w H h' := fun a o e =>
  (x a o e).stay (fun b u _ q => k b u q) (fun _ q => q) fun _ _ q => q
/-- a new object is laid and tracked -/
theorem HOk.laid (x : HOk P w H h) (k : ∀ b u, h.get? b = some u → h'.get? b = some u) (hp : h.objs.size ≤ a) (new : ObjOk P w (upd H a o) h' a o) : HOk P w (upd H a o) h' := fun b u e => by
  have hn := x.fresh hp
  by_cases hb : b = a
  · subst hb; rw [upd_same] at e; cases e; exact new
  · rw [upd_ne hb] at e
    exact (x b u e).stay (fun c v _ q => k c v q) (fun c q => by rw [upd_ne (ne_of_none q hn)]; exact q) fun c xs q => by rw [upd_ne (ne_of_none q hn)]; exact q
end

/-- what may be read as u: it is u, or a known u -/
def Rd (H : Hp) (a : Addr) (u : HO) : Prop := H a = some u ∨ ∃ o, H a = some (.frz o u)
theorem Rd.of {H : Hp} {a : Addr} {u : HO} (h : H a = some u) : Rd H a u := .inl h
theorem Rd.ok {P : Program} {w : World} {H : Hp} {h : Heap} {a : Addr} {u : HO} (r : Rd H a u) (x : HOk P w H h) : ObjOk P w H h a u := by
  rcases r with r | ⟨o, r⟩
  · exact x a u r
  · obtain ⟨_, q⟩ := x a _ r
    exact q
/-- what may be written -/
def Mut : Option HO → Prop
  | some (.lst _) => True
  | some (.dK _) => True
  | some (.dT _) => True
  | some (.set _ _) => True
  | some (.ins _ _ _) => True
  | some (.ext _) => True
  | _ => False
section
variable {P : Program} {w : World} {H : Hp} {h h' : Heap} {x e : Addr} {o' : HO}
/-- the object at e is changed: x itself, or the dict of the instance x -/
theorem HOk.write (ok : HOk P w H h) (mu : Mut (H x)) (he : e = x ∨ H e = some (.own x)) (k : ∀ b u, b ≠ e → h.get? b = some u → h'.get? b = some u) (heo : ∃ u, h'.get? e = some u)
    (new : ObjOk P w (upd H x o') h' x o') : HOk P w (upd H x o') h' := fun b u q => by
  have nown : ∀ c y, H c = some (.own y) → c ≠ x := fun c y r z => by subst z; rw [r] at mu; exact mu
  have ntup : ∀ c xs, H c = some (.tup xs) → c ≠ x := fun c xs r z => by subst z; rw [r] at mu; exact mu
  by_cases hb : b = x
  · subst hb; rw [upd_same] at q; cases q; exact new
  · rw [upd_ne hb] at q
    by_cases hbe : b = e
    · have q' : H b = some (.own x) := by
        rcases he with z | z
        · exact absurd (hbe.trans z) hb
        · rw [hbe]; exact z
      rw [q] at q'; cases q'
      obtain ⟨v, hv⟩ := heo
      exact ⟨v, by rw [hbe]; exact hv⟩
    · refine (ok b u q).stay (fun c v hc r => k c v ?_ r) (fun c r => by rw [upd_ne (nown c b r)]; exact r) fun c xs r => by rw [upd_ne (ntup c xs r)]; exact r
      rcases hc with rfl | hc
      · exact hbe
      · rintro rfl
        rcases he with z | z
        · exact nown c b hc z
        · rw [hc] at z; cases z; exact hb rfl
end

/-! ### kept unless tracked; of the frames at fs (the callers') the slots may change (an exception that passes writes there); of the records at ex (iterators) nothing is said -/
structure Un (fs ex : List Addr) (H H' : Hp) (h h' : Heap) : Prop where
  keep : ∀ b o, h.get? b = some o → H b = none → b ∉ fs → b ∉ ex → h'.get? b = some o
  slot : ∀ b o, h.get? b = some o → H b = none → b ∈ fs → b ∉ ex → ∃ sl, h'.get? b = some { o with slots := sl }
  free : ∀ b o, h.get? b = some o → H b = none → b ∉ ex → H' b = none
  there : ∀ b o, h.get? b = some o → b ∉ ex → ∃ o', h'.get? b = some o'
  tups : ∀ b xs, H b = some (.tup xs) → H' b = some (.tup xs)
  frzs : ∀ b o u, H b = some (.frz o u) → H' b = some (.frz o u)
  tbls : ∀ b ps, H b = some (.tbl ps) → ∃ more, H' b = some (.tbl (ps ++ more))
section
variable {fs fs' ex ex' : List Addr} {H H1 H2 : Hp} {h h1 h2 h' : Heap} {a x e : Addr} {o : HO}
theorem Un.any (u : Un fs ex H H1 h h1) {b : Addr} {ob : Obj} (q : h.get? b = some ob) (n : H b = none) (hx : b ∉ ex) : ∃ sl, h1.get? b = some { ob with slots := sl } := by
  by_cases hb : b ∈ fs
  · exact u.slot b ob q n hb hx
  · exact ⟨ob.slots, u.keep b ob q n hb hx⟩
theorem Un.trans (a : Un fs ex H H1 h h1) (b : Un fs ex H1 H2 h1 h2) : Un fs ex H H2 h h2 where
  keep := fun c ob q n hc hx => b.keep c ob (a.keep c ob q n hc hx) (a.free c ob q n hx) hc hx
  slot := fun c ob q n hc hx => by
    obtain ⟨sl, e1⟩ := a.slot c ob q n hc hx
    obtain ⟨sl', e2⟩ := b.slot c _ e1 (a.free c ob q n hx) hc hx
    exact ⟨sl', e2⟩
  free := fun c ob q n hx => by
    obtain ⟨o', e1⟩ := a.there c ob q hx
    exact b.free c o' e1 (a.free c ob q n hx) hx
  there := fun c ob q hx => by
    obtain ⟨o', e1⟩ := a.there c ob q hx
    exact b.there c o' e1 hx
  tups := fun c xs q => b.tups c xs (a.tups c xs q)
  frzs := fun c ob xs q => b.frzs c ob xs (a.frzs c ob xs q)
  tbls := fun c ps q => by
    obtain ⟨m1, e1⟩ := a.tbls c ps q
    obtain ⟨m2, e2⟩ := b.tbls c _ e1
    exact ⟨m1 ++ m2, by rw [e2, Array.append_assoc]⟩
theorem Un.kept (k : ∀ b u, h.get? b = some u → h'.get? b = some u) : Un fs ex H H h h' :=
  ⟨fun b ob q _ _ _ => k b ob q, fun b ob q _ _ _ => ⟨ob.slots, k b ob q⟩, fun _ _ _ n _ => n, fun b ob q _ => ⟨ob, k b ob q⟩, fun _ _ q => q, fun _ _ _ q => q, fun _ ps q => ⟨#[], by rw [q]; simp⟩⟩
theorem Un.refl : Un fs ex H H h h := Un.kept fun _ _ q => q
theorem Un.laid (k : ∀ b u, h.get? b = some u → h'.get? b = some u) (hp : h.objs.size ≤ a) (hn : H a = none) : Un fs ex H (upd H a o) h h' where
  keep := fun b u q _ _ _ => k b u q
  slot := fun b u q _ _ _ => ⟨u.slots, k b u q⟩
  free := fun b u q n _ => by rw [upd_ne (Nat.ne_of_lt (Nat.lt_of_lt_of_le (Heap.lt_size q) hp))]; exact n
  there := fun b u q _ => ⟨u, k b u q⟩
  tups := fun b xs q => by rw [upd_ne (ne_of_none q hn)]; exact q
  frzs := fun b u xs q => by rw [upd_ne (ne_of_none q hn)]; exact q
  tbls := fun b ps q => ⟨#[], by rw [upd_ne (ne_of_none q hn), q]; simp⟩
theorem Un.write (mu : Mut (H x)) (he : e = x ∨ H e = some (.own x)) (k : ∀ b u, b ≠ e → h.get? b = some u → h'.get? b = some u) (heo : ∃ u, h'.get? e = some u) : Un fs ex H (upd H x o) h h' := by
  have hx : ∀ b, H b = none → b ≠ x := fun b n z => by subst z; rw [n] at mu; exact mu
  have hb : ∀ b, H b = none → b ≠ e := fun b n z => by
    subst z
    rcases he with r | r
    · exact hx b n r
    · rw [n] at r; cases r
  have hm : ∀ b u, H b = some u → ¬ Mut (some u) → b ≠ x := fun b u q nm z => by subst z; rw [q] at mu; exact nm mu
  refine ⟨fun b u q n _ _ => k b u (hb b n) q, fun b u q n _ _ => ⟨u.slots, k b u (hb b n) q⟩, fun b u q n _ => by rw [upd_ne (hx b n)]; exact n, fun b u q _ => ?_,
    fun b xs q => by rw [upd_ne (hm b _ q fun z => z)]; exact q, fun b u xs q => by rw [upd_ne (hm b _ q fun z => z)]; exact q, fun b ps q => ⟨#[], by rw [upd_ne (hm b _ q fun z => z), q]; simp⟩⟩
  by_cases hbe : b = e
  · subst hbe; exact heo
  · exact ⟨u, k b u hbe q⟩
theorem Un.mono (u : Un fs ex H H1 h h1) (hs : ∀ b ∈ fs, b ∈ fs') (hx : ∀ b ∈ ex, b ∈ ex') : Un fs' ex' H H1 h h1 :=
  ⟨fun b ob q n hb he => u.keep b ob q n (fun z => hb (hs b z)) fun z => he (hx b z), fun _ _ q n _ he => u.any q n fun z => he (hx _ z), fun b ob q n he => u.free b ob q n fun z => he (hx b z), fun b ob q he => u.there b ob q fun z => he (hx b z), u.tups, u.frzs, u.tbls⟩
end

/-! ### the heap without what is tracked -/
def trk (h : Heap) (H : Hp) : List Addr := (List.range h.objs.size).filter fun a => (H a).isSome
def hidT (h : Heap) (H : Hp) : Heap := PySem.W.hideAll h (trk h H)
theorem hidT_size (h : Heap) (H : Hp) : (hidT h H).objs.size = h.objs.size := PySem.W.hideAll_size _ _
theorem hidT_get {h : Heap} {H : Hp} {b : Addr} {o : Obj} (e : h.get? b = some o) (n : H b = none) : (hidT h H).get? b = some o :=
  PySem.W.hideAll_get _ e fun hm => by
    have q : (H b).isSome = true := (List.mem_filter.mp hm).2
    rw [n] at q; simp at q
theorem of_hidT {h : Heap} {H : Hp} {b : Addr} {o : Obj} (e : (hidT h H).get? b = some o) : h.get? b = some o ∧ H b = none := by
  have e' : h.get? b = some o := PySem.W.of_hideAll (trk h H) e
  refine ⟨e', ?_⟩
  cases q : H b with
  | none => rfl
  | some x =>
    have hm : b ∈ trk h H := List.mem_filter.mpr ⟨List.mem_range.mpr (Heap.lt_size e'), by simp [q]⟩
    have z : (hidT h H).get? b = none := PySem.W.hideAll_none (trk h H) hm
    rw [z] at e; cases e

/-! ### OpenK's ledger, filled with every new object but one -/
def allNews (g h : Heap) (L : Addr) : List (Addr × Obj) := (List.range h.objs.size).filterMap fun a => if a = L ∨ (g.get? a).isSome = true then none else (h.get? a).map fun o => (a, o)
def rest (g h : Heap) (L d : Addr) : List (Addr × Obj) := (allNews g h L).filter fun p => decide (p.1 ≠ d)
end L2

namespace L2
open PySem PySem.Spec PyProof.Rows

/-- the module's facts, over the base: the heap at the law's entry without what is tracked there -/
structure Mod (K : PySem.W.Frag) (mg : Str → Option Value) (base : Heap) : Prop where
  kin : K.In base
  glob : base.Ns mainGlobals mg
  blt : ∃ mb, base.Ns builtinsNs mb ∧ ∀ x : Str, x ≠ "__name__" → mb x = bootBuiltins x
  nolimit : base.NoLimit

/-- the context: a def's body (or a comprehension's block) running. base: fixed through the whole law; s₀, H₀: the entry; outer: the frames whose slots others may change (a def's callers); stack: all frames that run;
   ex: iterators that were made ahead of the entry and are walked here (a comprehension's); fn: the names whose cells were made at the entry (a def: all; a comprehension's block: its own); calm: not within an except suite; pn: pins that every state bears; xe: what is wanted of an exception that leaves the code -/
structure Cx where
  prog : Program
  w : World
  K : PySem.W.Frag
  mg : Str → Option Value
  base : Heap
  A : Around
  N : List Str
  s₀ : Shared
  H₀ : Hp
  env : Env
  outer : List Env
  stack : List Env
  ex : List Addr
  fn : Str → Bool
  calm : Bool
  pn : List (Addr × Obj)
  xe : Value → Shared → Prop
/-- the callers' frames -/
def frs (l : List Env) : List Addr := l.filterMap (·.frame)
abbrev Cx.fs (X : Cx) : List Addr := frs X.outer

def Vis (sc : Scope) (x : Str) : Prop := sc.names.lookup x = some .local ∨ sc.names.lookup x = some .cell ∨ sc.names.lookup x = some .free
def Loc (sc : Scope) (x : Str) : Prop := sc.names.lookup x = some .local ∨ sc.names.lookup x = some .cell
def Look (env : Env) (h : Heap) (m : Str → Option Value) (x : Str) (u : Value) : Prop :=
  (env.kindOf x = some .local ∧ m x = some u) ∨ ((env.kindOf x = some .cell ∨ env.kindOf x = some .free) ∧ ∃ c, env.cells.lookup x = some c ∧ h.IsCell c (some u))

structure Cx.Ok (X : Cx) : Prop where
  mod : Mod X.K X.mg X.base
  kind : X.env.scope.kind = .function
  glob : X.env.globals = mainGlobals
  blt : X.env.builtins = builtinsNs
  above : X.s₀.heap.objs.size ≤ X.env.locals
  inj : ∀ x y c, X.env.cells.lookup x = some c → X.env.cells.lookup y = some c → x = y
  has : ∀ x, (X.env.kindOf x = some .cell ∨ X.env.kindOf x = some .free) → ∃ c, X.env.cells.lookup x = some c
  cab : ∀ x c, X.fn x = true → X.env.cells.lookup x = some c → X.s₀.heap.objs.size ≤ c
  hd : X.calm = true → X.A.handled = none
  frames : X.A.frames = some X.stack
  stk : X.stack = X.outer ∨ (X.stack = X.env :: X.outer ∧ X.env.frame = some X.env.locals)
  exf : ∀ b ∈ X.ex, b ≠ X.env.locals ∧ ∀ x c, X.env.cells.lookup x = some c → c ≠ b
  bs : ∀ b o, X.base.get? b = some o → X.s₀.heap.get? b = some o ∧ X.H₀ b = none
  bsz : X.base.objs.size ≤ X.s₀.heap.objs.size
  noex : ∀ b o, X.base.get? b = some o → b ∉ X.ex
  exfs : ∀ b ∈ X.ex, b ∉ X.fs
  funs : X.s₀.heap.FunFrames X.base X.outer
  frf : ∀ b ∈ X.fs, X.H₀ b = none

structure Inv (X : Cx) (pins : List (Addr × Obj)) (σ : List (Option V)) (H : Hp) (s : Shared) : Prop where
  ok : X.Ok
  os : s.os = X.s₀.os
  bare : AllBare s.gens
  base : Un X.fs X.ex X.H₀ H X.s₀.heap s.heap
  loc : ∃ m, s.heap.Ns X.env.locals m ∧ ∀ (i : Nat) (x : Str) (v : V), X.N[i]? = some x → σ[i]? = some (some v) → Vis X.env.scope x → ∃ u, RelV v u ∧ Look X.env s.heap m x u
  cell : ∀ x c, X.env.cells.lookup x = some c → ∃ v, s.heap.IsCell c v
  free : H X.env.locals = none
  freeC : ∀ x c, X.env.cells.lookup x = some c → H c = none
  pin : ∀ p ∈ X.pn ++ pins, s.heap.get? p.1 = some p.2 ∧ H p.1 = none ∧ p.1 ≠ X.env.locals ∧ p.1 ∉ X.fs ∧ ∀ v, p.2.data ≠ .cell v
  hok : HOk X.prog X.w H s.heap
  len : σ.length = X.N.length

section
variable {X : Cx} {pins : List (Addr × Obj)} {σ : List (Option V)} {H H' : Hp} {s : Shared} {h' : Heap}

theorem Cx.Ok.nofr (ok : X.Ok) {b : Addr} {o : Obj} (e : X.base.get? b = some o) : b ∉ X.fs := fun hb => by
  have := (ok.funs.mem hb).1
  rw [e] at this; cases this
theorem Inv.bs (I : Inv X pins σ H s) : ∀ b o, X.base.get? b = some o → s.heap.get? b = some o ∧ H b = none := fun b o e =>
  ⟨I.base.keep b o (I.ok.bs b o e).1 (I.ok.bs b o e).2 (I.ok.nofr e) (I.ok.noex b o e), I.base.free b o (I.ok.bs b o e).1 (I.ok.bs b o e).2 (I.ok.noex b o e)⟩
theorem Inv.bk (I : Inv X pins σ H s) : ∀ b o, X.base.get? b = some o → s.heap.get? b = some o := fun b o e => (I.bs b o e).1
theorem Inv.mod (I : Inv X pins σ H s) : Mod X.K X.mg X.base := I.ok.mod
theorem Inv.kIn (I : Inv X pins σ H s) : X.K.In s.heap := I.ok.mod.kin.keeps I.bk
theorem Inv.nolimit (I : Inv X pins σ H s) : s.heap.NoLimit := I.ok.mod.nolimit.keeps I.bk
/-- the frame over the base: for OpenK's rules (K.In X.base is I.mod.kin) -/
theorem Inv.fr (I : Inv X pins σ H s) : ∃ m, Fr X.base X.env.locals s.heap m :=
  let ⟨m, hn, _⟩ := I.loc
  ⟨m, hn, I.bk, Nat.le_trans I.ok.bsz I.ok.above⟩
theorem Inv.lt (I : Inv X pins σ H s) : X.env.locals < s.heap.objs.size := let ⟨_, hn, _⟩ := I.loc; hn.lt
theorem Inv.sz (I : Inv X pins σ H s) : X.s₀.heap.objs.size ≤ s.heap.objs.size := Nat.le_trans I.ok.above (Nat.le_of_lt I.lt)
theorem Inv.nofs (I : Inv X pins σ H s) {a : Addr} (h : s.heap.objs.size ≤ a) : a ∉ X.fs := fun hb => by
  obtain ⟨_, o, ho, _⟩ := I.ok.funs.mem hb
  exact absurd (Nat.lt_of_lt_of_le (Heap.lt_size ho) (Nat.le_trans I.sz h)) (Nat.lt_irrefl _)
theorem Inv.cne (I : Inv X pins σ H s) : ∀ x c, X.env.cells.lookup x = some c → c ≠ X.env.locals := fun x c e z => by
  obtain ⟨v, o, ho, hd⟩ := I.cell x c e
  obtain ⟨m, ⟨o', es, ep, ho', hd', _⟩, _⟩ := I.loc
  rw [z, ho'] at ho; cases ho; rw [hd'] at hd; cases hd
theorem Inv.funs (I : Inv X pins σ H s) : s.heap.FunFrames X.base X.outer := by
  have all : ∀ (l : List Env), (∀ b ∈ frs l, b ∈ X.fs) → X.s₀.heap.FunFrames X.base l → s.heap.FunFrames X.base l := by
    intro l
    induction l with
    | nil => intro _ _; trivial
    | cons env r ih =>
      intro hs hl
      obtain ⟨hk, ⟨L, o, hf, hn, ho, hd⟩, hr⟩ := hl
      have hL : L ∈ X.fs := hs L (by unfold frs; rw [List.filterMap_cons, hf]; exact List.mem_cons_self)
      obtain ⟨sl, e⟩ := I.base.slot L o ho (I.ok.frf L hL) hL fun z => I.ok.exfs L z hL
      exact ⟨hk, ⟨L, _, hf, hn, e, hd⟩, ih (fun b hb => hs b (by unfold frs; rw [List.filterMap_cons, hf]; exact List.mem_cons_of_mem _ hb)) hr⟩
  exact all X.outer (fun _ hb => hb) I.ok.funs

/-- the frames that run, for a call -/
theorem Inv.stack (I : Inv X pins σ H s) : s.heap.FunFrames X.base X.stack := by
  rcases I.ok.stk with e | ⟨e, hf⟩
  · rw [e]; exact I.funs
  · rw [e]
    obtain ⟨m, hn, _⟩ := I.loc
    refine .cons (by rw [I.ok.kind]; decide) hf hn ?_ I.funs
    exact Heap.get?_none_of_le (Nat.le_trans I.ok.bsz I.ok.above)
theorem Inv.stkSub (I : Inv X pins σ H s) : ∀ b ∈ frs X.stack, b ∈ X.env.locals :: X.fs := fun b hb => by
  rcases I.ok.stk with e | ⟨e, hf⟩
  · rw [e] at hb; exact List.mem_cons_of_mem _ hb
  · rw [e] at hb
    unfold frs at hb
    rw [List.filterMap_cons, hf] at hb
    exact hb
theorem Inv.stkFree (I : Inv X pins σ H s) : ∀ b ∈ frs X.stack, H b = none := fun b hb => by
  rcases List.mem_cons.mp (I.stkSub b hb) with e | hb
  · rw [e]; exact I.free
  · obtain ⟨_, o, ho, _⟩ := I.ok.funs.mem hb
    exact I.base.free b o ho (I.ok.frf b hb) fun z => I.ok.exfs b z hb

/-- THE STEP: the untracked objects but the frame and the records at ch are kept (the callers' frames up to slots), the frame's map is kept, the new abstract heap is held -/
theorem Inv.step {g' : Array GenState} {t' : Nat} {d' : Drawn} {ch : List Addr} (I : Inv X pins σ H s)
    (hch : ∀ b ∈ ch, (b ∈ X.ex ∨ X.s₀.heap.objs.size ≤ b) ∧ b ≠ X.env.locals ∧ (∀ x c, X.env.cells.lookup x = some c → c ≠ b) ∧ ∀ p ∈ X.pn ++ pins, p.1 ≠ b)
    (keep : ∀ b o, b ≠ X.env.locals → b ∉ X.fs → b ∉ ch → s.heap.get? b = some o → H b = none → h'.get? b = some o)
    (slot : ∀ b o, b ≠ X.env.locals → b ∈ X.fs → b ∉ ch → s.heap.get? b = some o → H b = none → ∃ sl, h'.get? b = some { o with slots := sl }) (free : ∀ b o, b ∉ ch → s.heap.get? b = some o → H b = none → H' b = none)
    (there : ∀ b o, b ∉ ch → s.heap.get? b = some o → ∃ o', h'.get? b = some o')
    (tups : ∀ b xs, H b = some (.tup xs) → H' b = some (.tup xs)) (frzs : ∀ b o u, H b = some (.frz o u) → H' b = some (.frz o u)) (tbls : ∀ b ps, H b = some (.tbl ps) → ∃ more, H' b = some (.tbl (ps ++ more)))
    (ns : ∀ m, s.heap.Ns X.env.locals m → h'.Ns X.env.locals m) (hok : HOk X.prog X.w H' h') (hg : AllBare g') :
    Inv X pins σ H' { s with heap := h', gens := g', drawn := d', toks := t' } := by
  have neL : ∀ b o, X.s₀.heap.get? b = some o → b ≠ X.env.locals := fun b o e => Nat.ne_of_lt (Nat.lt_of_lt_of_le (Heap.lt_size e) I.ok.above)
  have neC : ∀ b o, X.s₀.heap.get? b = some o → b ∉ X.ex → b ∉ ch := fun b o e hx hb => by
    rcases (hch b hb).1 with z | z
    · exact hx z
    · exact absurd (Nat.lt_of_lt_of_le (Heap.lt_size e) z) (Nat.lt_irrefl _)
  have cellK : ∀ x c, X.env.cells.lookup x = some c → ∀ v, s.heap.IsCell c v → h'.IsCell c v := fun x c e v ⟨o, ho, hd⟩ => by
    have nch : c ∉ ch := fun z => (hch c z).2.2.1 x c e rfl
    by_cases hc : c ∈ X.fs
    · obtain ⟨sl, q⟩ := slot c o (I.cne x c e) hc nch ho (I.freeC x c e)
      exact ⟨_, q, hd⟩
    · exact ⟨o, keep c o (I.cne x c e) hc nch ho (I.freeC x c e), hd⟩
  refine ⟨I.ok, I.os, hg, ⟨fun b o e n hb hx => ?_, fun b o e n hb hx => ?_, fun b o e n hx => ?_, fun b o e hx => ?_, fun b xs e => tups b xs (I.base.tups b xs e), fun b o xs e => frzs b o xs (I.base.frzs b o xs e), fun b ps e => ?_⟩, ?_, fun x c e => ?_, ?_, fun x c e => ?_, fun p hp => ?_, hok, I.len⟩
  · exact keep b o (neL b o e) hb (neC b o e hx) (I.base.keep b o e n hb hx) (I.base.free b o e n hx)
  · obtain ⟨sl, e1⟩ := I.base.slot b o e n hb hx
    obtain ⟨sl', e2⟩ := slot b _ (neL b o e) hb (neC b o e hx) e1 (I.base.free b o e n hx)
    exact ⟨sl', e2⟩
  · obtain ⟨o', e1⟩ := I.base.there b o e hx
    exact free b o' (neC b o e hx) e1 (I.base.free b o e n hx)
  · obtain ⟨o', e1⟩ := I.base.there b o e hx
    exact there b o' (neC b o e hx) e1
  · obtain ⟨m1, e1⟩ := I.base.tbls b ps e
    obtain ⟨m2, e2⟩ := tbls b _ e1
    exact ⟨m1 ++ m2, by rw [e2, Array.append_assoc]⟩
  · obtain ⟨m, hn, hl⟩ := I.loc
    refine ⟨m, ns m hn, fun i x v e1 e2 e3 => ?_⟩
    obtain ⟨u, r, l⟩ := hl i x v e1 e2 e3
    refine ⟨u, r, ?_⟩
    rcases l with l | ⟨k, c, e, z⟩
    · exact .inl l
    · exact .inr ⟨k, c, e, cellK x c e _ z⟩
  · obtain ⟨v, z⟩ := I.cell x c e
    exact ⟨v, cellK x c e v z⟩
  · obtain ⟨m, ⟨o, _, _, ho, _⟩, _⟩ := I.loc
    exact free _ o (fun z => (hch _ z).2.1 rfl) ho I.free
  · obtain ⟨v, o, ho, hd⟩ := I.cell x c e
    exact free c o (fun z => (hch c z).2.2.1 x c e rfl) ho (I.freeC x c e)
  · obtain ⟨e, n, ne, nf, d⟩ := I.pin p hp
    have nch : p.1 ∉ ch := fun z => (hch p.1 z).2.2.2 p hp rfl
    exact ⟨keep p.1 p.2 ne nf nch e n, free p.1 p.2 nch e n, ne, nf, d⟩
/-- .. where the frame's own object is kept too -/
theorem Inv.un {t' : Nat} (I : Inv X pins σ H s) (u : Un X.fs [] H H' s.heap h') (hok : HOk X.prog X.w H' h') : Inv X pins σ H' { s with heap := h', toks := t' } := by
  obtain ⟨m, ⟨o, es, ep, ho, r⟩, _⟩ := id I.loc
  obtain ⟨sl, hL⟩ := u.any ho I.free (by simp)
  exact I.step (g' := s.gens) (d' := s.drawn) (ch := []) (fun _ z => nomatch z) (fun b o _ hb _ e n => u.keep b o e n hb (by simp)) (fun b o _ hb _ e n => u.slot b o e n hb (by simp)) (fun b o _ e n => u.free b o e n (by simp)) (fun b o _ e => u.there b o e (by simp)) u.tups u.frzs u.tbls (fun m' hm => by
    obtain ⟨o', es', ep', ho', r'⟩ := hm
    rw [ho] at ho'; cases ho'
    exact ⟨_, es', ep', hL, r'⟩) hok I.bare
/-- behind a call (or a comprehension's block): the slots of this frame may have changed too, the records at ch may have turned -/
theorem Inv.call {g' : Array GenState} {t' : Nat} {d' : Drawn} {ch : List Addr} (I : Inv X pins σ H s) (u : Un (frs X.stack) ch H H' s.heap h') (hok : HOk X.prog X.w H' h') (hg : AllBare g')
    (hch : ∀ b ∈ ch, (b ∈ X.ex ∨ X.s₀.heap.objs.size ≤ b) ∧ b ≠ X.env.locals ∧ (∀ x c, X.env.cells.lookup x = some c → c ≠ b) ∧ ∀ p ∈ X.pn ++ pins, p.1 ≠ b) :
    Inv X pins σ H' { s with heap := h', gens := g', drawn := d', toks := t' } := by
  obtain ⟨m, ⟨o, es, ep, ho, r⟩, _⟩ := id I.loc
  obtain ⟨sl, hL⟩ := u.any ho I.free fun z => (hch _ z).2.1 rfl
  exact I.step (ch := ch) hch (fun b o hL hb hc e n => u.keep b o e n (fun z => (List.mem_cons.mp (I.stkSub b z)).elim hL hb) hc) (fun b o _ _ hc e n => u.any e n hc) (fun b o hc e n => u.free b o e n hc) (fun b o hc e => u.there b o e hc) u.tups u.frzs u.tbls (fun m' hm => by
    obtain ⟨o', es', ep', ho', r'⟩ := hm
    rw [ho] at ho'; cases ho'
    exact ⟨_, es', ep', hL, r'⟩) hok hg
/-- an untracked record of ours (an iterator) has turned -/
theorem Inv.turned {t' : Nat} {it : Addr} (I : Inv X pins σ H s) (k : ∀ b o, b ≠ it → s.heap.get? b = some o → h'.get? b = some o) (hn : H it = none) (hL : it ≠ X.env.locals)
    (h1 : it ∈ X.ex ∨ X.s₀.heap.objs.size ≤ it) (h2 : ∀ x c, X.env.cells.lookup x = some c → c ≠ it) (h3 : ∀ p ∈ X.pn ++ pins, p.1 ≠ it) : Inv X pins σ H { s with heap := h', toks := t' } := by
  have nit : ∀ b u, H b = some u → b ≠ it := fun b u e z => by rw [z, hn] at e; cases e
  refine I.step (g' := s.gens) (d' := s.drawn) (ch := [it]) (fun b hb => ?_) (fun b o _ _ hc e _ => k b o (fun z => hc (by simp [z])) e) (fun b o _ _ hc e _ => ⟨o.slots, k b o (fun z => hc (by simp [z])) e⟩) (fun _ _ _ _ n => n)
    (fun b o hc e => ⟨o, k b o (fun z => hc (by simp [z])) e⟩) (fun _ _ e => e) (fun _ _ _ e => e) (fun b ps e => ⟨#[], by rw [e]; simp⟩) (fun m hm => ?_) (fun b u e => ?_) I.bare
  · have e : b = it := by simpa using hb
    subst e
    exact ⟨h1, hL, h2, h3⟩
  · obtain ⟨o, es, ep, ho, r⟩ := hm
    exact ⟨o, es, ep, k _ o (Ne.symm hL) ho, r⟩
  · refine (I.hok b u e).stay (fun c v hc q => k c v ?_ q) (fun _ q => q) fun _ _ q => q
    rcases hc with z | z
    · rw [z]; exact nit b u e
    · exact nit c _ z
theorem Inv.tok (I : Inv X pins σ H s) (t : Nat) : Inv X pins σ H { s with toks := t } := I.un (h' := s.heap) (t' := t) Un.refl I.hok
/-- all objects kept -/
theorem Inv.kept {t' : Nat} (I : Inv X pins σ H s) (k : ∀ b u, s.heap.get? b = some u → h'.get? b = some u) : Inv X pins σ H { s with heap := h', toks := t' } := I.un (Un.kept k) (I.hok.kept k)
/-- a new object laid and tracked -/
theorem Inv.laid {a : Addr} {o : HO} {t' : Nat} (I : Inv X pins σ H s) (k : ∀ b u, s.heap.get? b = some u → h'.get? b = some u) (hp : s.heap.objs.size ≤ a) (new : ObjOk X.prog X.w (upd H a o) h' a o) :
    Inv X pins σ (upd H a o) { s with heap := h', toks := t' } := I.un (Un.laid k hp (I.hok.fresh hp)) (I.hok.laid k hp new)
/-- an object written -/
theorem Inv.write {x e : Addr} {o : HO} {t' : Nat} (I : Inv X pins σ H s) (mu : Mut (H x)) (he : e = x ∨ H e = some (.own x)) (k : ∀ b u, b ≠ e → s.heap.get? b = some u → h'.get? b = some u) (heo : ∃ u, h'.get? e = some u)
    (new : ObjOk X.prog X.w (upd H x o) h' x o) : Inv X pins σ (upd H x o) { s with heap := h', toks := t' } := I.un (Un.write mu he k heo) (I.hok.write mu he k heo new)
/-- forgetting slots, pins -/
theorem Inv.weak {σ' : List (Option V)} (I : Inv X pins σ H s) (hl : σ'.length = σ.length) (w : ∀ (i : Nat) v, σ'[i]? = some (some v) → σ[i]? = some (some v)) : Inv X pins σ' H s :=
  ⟨I.ok, I.os, I.bare, I.base, let ⟨m, hn, hl'⟩ := I.loc; ⟨m, hn, fun i x v e1 e2 e3 => hl' i x v e1 (w i v e2) e3⟩, I.cell, I.free, I.freeC, I.pin, I.hok, hl.trans I.len⟩
theorem Inv.pins_of {pins' : List (Addr × Obj)} (I : Inv X pins σ H s) (h : ∀ p ∈ pins', s.heap.get? p.1 = some p.2 ∧ H p.1 = none ∧ p.1 ≠ X.env.locals ∧ p.1 ∉ X.fs ∧ ∀ v, p.2.data ≠ .cell v) : Inv X pins' σ H s :=
  ⟨I.ok, I.os, I.bare, I.base, I.loc, I.cell, I.free, I.freeC, fun p hp => (List.mem_append.mp hp).elim (fun z => I.pin p (List.mem_append_left _ z)) (h p), I.hok, I.len⟩

theorem nodup_ix {N : List Str} (hN : N.Nodup) {i j : Nat} {x : Str} (a : N[i]? = some x) (b : N[j]? = some x) : i = j := by
  obtain ⟨h1, e1⟩ := List.getElem?_eq_some_iff.mp a
  obtain ⟨h2, e2⟩ := List.getElem?_eq_some_iff.mp b
  exact (List.getElem_inj hN).mp (e1.trans e2.symm)

/-- a name is stored; what changed -/
theorem store_ok2 {M : Model} {A : Around} {E : Value → Shared → Prop} {i : Nat} {x : Str} {v : V} {u : Value} {Q : Unit → Shared → Prop} (I : Inv X pins σ H s) (hN : X.N.Nodup) (hi : X.N[i]? = some x) (hx : Loc X.env.scope x) (r : RelV v u)
    (h : ∀ s', Inv X pins (σ.set i (some v)) H s' → (∃ a, Heap.SameBut a s.heap s'.heap ∧ (a = X.env.locals ∨ X.env.cells.lookup x = some a)) → Q () s') (hf : X.fn x = true ∨ X.env.scope.names.lookup x = some .local := by first | exact .inl rfl | exact .inr rfl | assumption) : wpAny M A (storeName X.env x u) Q E s := by
  obtain ⟨m, hn, hl⟩ := id I.loc
  have hcls : (X.env.scope.kind == .class || (X.env.scope.kind == .module && X.env.locals != X.env.globals)) = false := by rw [I.ok.kind]; rfl
  have hiσ : i < σ.length := by rw [I.len]; exact (List.getElem?_eq_some_iff.mp hi).1
  have cne := I.cne
  have tracked : ∀ {a : Addr} {h' : Heap}, (∃ o, s.heap.get? a = some o ∧ H a = none) → Heap.SameBut a s.heap h' → HOk X.prog X.w H h' := fun {a h'} ha hs b ob e => by
    obtain ⟨_, _, hfree⟩ := ha
    refine (I.hok b ob e).stay (fun c w' hc q => (hs.2 c ?_).trans q) (fun _ q => q) fun _ _ q => q
    rintro rfl
    rcases hc with rfl | hc
    · rw [hfree] at e; cases e
    · rw [hfree] at hc; cases hc
  rcases hx with hk | hk
  · refine wpAny_storeName_local hk hn (fun h' hn' hs => ?_) hcls
    obtain ⟨oL, _, _, hoL, _⟩ := id hn
    refine h _ ⟨I.ok, I.os, I.bare, ⟨fun b o e n hb hx => ?_, fun b o e n hb hx => ?_, I.base.free, fun b o e hx => ?_, I.base.tups, I.base.frzs, I.base.tbls⟩, ⟨_, hn', fun j y v' e1 e2 e3 => ?_⟩, fun y c e => ?_, I.free, I.freeC, fun p hp => ?_, tracked ⟨oL, hoL, I.free⟩ hs, by simpa using I.len⟩ ⟨_, hs, .inl rfl⟩
    · exact (hs.2 b (Nat.ne_of_lt (Nat.lt_of_lt_of_le (Heap.lt_size e) I.ok.above))).trans (I.base.keep b o e n hb hx)
    · obtain ⟨sl, e1⟩ := I.base.slot b o e n hb hx
      exact ⟨sl, (hs.2 b (Nat.ne_of_lt (Nat.lt_of_lt_of_le (Heap.lt_size e) I.ok.above))).trans e1⟩
    · obtain ⟨o', e1⟩ := I.base.there b o e hx
      exact ⟨o', (hs.2 b (Nat.ne_of_lt (Nat.lt_of_lt_of_le (Heap.lt_size e) I.ok.above))).trans e1⟩
    · by_cases hj : j = i
      · subst hj
        rw [hi] at e1; cases e1
        rw [List.getElem?_set_self hiσ] at e2
        cases e2
        exact ⟨u, r, .inl ⟨hk, by simp⟩⟩
      · rw [List.getElem?_set_ne (Ne.symm hj)] at e2
        obtain ⟨u', r', q⟩ := hl j y v' e1 e2 e3
        refine ⟨u', r', ?_⟩
        rcases q with ⟨k, e⟩ | ⟨k, c, e, z⟩
        · refine .inl ⟨k, ?_⟩
          have : y ≠ x := fun e => hj (nodup_ix hN e1 (e ▸ hi))
          simp [this, e]
        · exact .inr ⟨k, c, e, z.sameBut hs (cne y c e)⟩
    · obtain ⟨w', z⟩ := I.cell y c e
      exact ⟨w', z.sameBut hs (cne y c e)⟩
    · obtain ⟨e, n, ne, nf, d⟩ := I.pin p hp
      exact ⟨(hs.2 p.1 ne).trans e, n, ne, nf, d⟩
  · have hfn : X.fn x = true := by
      rcases hf with z | z
      · exact z
      · rw [z] at hk; cases hk
    obtain ⟨c, hc⟩ := I.ok.has x (.inl hk)
    obtain ⟨w', z⟩ := I.cell x c hc
    refine wpAny_storeName_cell I.ok.kind hk hc z (fun h' hc' hs => ?_)
    obtain ⟨oc, hoc, hocd⟩ := id z
    refine h { s with heap := h' } ⟨I.ok, I.os, I.bare, ⟨fun b o e n hb hx => ?_, fun b o e n hb hx => ?_, I.base.free, fun b o e hx => ?_, I.base.tups, I.base.frzs, I.base.tbls⟩, ⟨m, hn.sameBut hs (Ne.symm (cne x c hc)), fun j y v' e1 e2 e3 => ?_⟩, fun y c' e => ?_, I.free, I.freeC, fun p hp => ?_, tracked ⟨oc, hoc, I.freeC x c hc⟩ hs, by simpa using I.len⟩ ⟨c, hs, .inr hc⟩
    · exact (hs.2 b (Nat.ne_of_lt (Nat.lt_of_lt_of_le (Heap.lt_size e) (I.ok.cab x c hfn hc)))).trans (I.base.keep b o e n hb hx)
    · obtain ⟨sl, e1⟩ := I.base.slot b o e n hb hx
      exact ⟨sl, (hs.2 b (Nat.ne_of_lt (Nat.lt_of_lt_of_le (Heap.lt_size e) (I.ok.cab x c hfn hc)))).trans e1⟩
    · obtain ⟨o', e1⟩ := I.base.there b o e hx
      exact ⟨o', (hs.2 b (Nat.ne_of_lt (Nat.lt_of_lt_of_le (Heap.lt_size e) (I.ok.cab x c hfn hc)))).trans e1⟩
    · by_cases hj : j = i
      · subst hj
        rw [hi] at e1; cases e1
        rw [List.getElem?_set_self hiσ] at e2
        cases e2
        exact ⟨u, r, .inr ⟨.inl hk, c, hc, hc'⟩⟩
      · rw [List.getElem?_set_ne (Ne.symm hj)] at e2
        obtain ⟨u', r', q⟩ := hl j y v' e1 e2 e3
        refine ⟨u', r', ?_⟩
        rcases q with q | ⟨k, c', e, z'⟩
        · exact .inl q
        · refine .inr ⟨k, c', e, z'.sameBut hs ?_⟩
          rintro rfl
          exact hj (nodup_ix hN e1 (I.ok.inj _ _ _ e hc ▸ hi))
    · by_cases hcc : c' = c
      · subst hcc; exact ⟨_, hc'⟩
      · obtain ⟨w2, z2⟩ := I.cell y c' e
        exact ⟨w2, z2.sameBut hs hcc⟩
    · obtain ⟨e, n, ne, nf, d⟩ := I.pin p hp
      refine ⟨(hs.2 p.1 ?_).trans e, n, ne, nf, d⟩
      intro q
      rw [q, hoc] at e
      have q' : oc = p.2 := Option.some.inj e
      exact d w' (by rw [← q']; exact hocd)
theorem store_ok {M : Model} {A : Around} {E : Value → Shared → Prop} {i : Nat} {x : Str} {v : V} {u : Value} {Q : Unit → Shared → Prop} (I : Inv X pins σ H s) (hN : X.N.Nodup) (hi : X.N[i]? = some x) (hx : Loc X.env.scope x) (r : RelV v u)
    (h : ∀ s', Inv X pins (σ.set i (some v)) H s' → Q () s') (hf : X.fn x = true ∨ X.env.scope.names.lookup x = some .local := by first | exact .inl rfl | exact .inr rfl | assumption) : wpAny M A (storeName X.env x u) Q E s :=
  store_ok2 I hN hi hx r (fun s' I' _ => h s' I') hf
/-- behind a call or a block, the state as it is -/
theorem Inv.call' {s' : Shared} {ch : List Addr} (I : Inv X pins σ H s) (ho : s'.os = s.os) (u : Un (frs X.stack) ch H H' s.heap s'.heap) (hok : HOk X.prog X.w H' s'.heap) (hg : AllBare s'.gens)
    (hch : ∀ b ∈ ch, (b ∈ X.ex ∨ X.s₀.heap.objs.size ≤ b) ∧ b ≠ X.env.locals ∧ (∀ x c, X.env.cells.lookup x = some c → c ≠ b) ∧ ∀ p ∈ X.pn ++ pins, p.1 ≠ b) : Inv X pins σ H' s' := by
  obtain ⟨h', g', d', t', o'⟩ := s'
  have e : o' = s.os := ho
  subst e
  exact I.call (g' := g') (t' := t') (d' := d') u hok hg hch
end

/-! ### the judgements -/
/-- an exception: its class, its own dict's address (where it has one), the abstract heap behind it -/
abbrev XK := Value → Option Addr → Hp → Prop
abbrev St := List (Option V)
abbrev VK := V → Hp → Prop
/-- an expression's reading; a test's; an argument list's -/
abbrev TE := St → Hp → VK → Prop
abbrev TT := St → Hp → (Bool → Hp → Prop) → Prop
abbrev TA := St → Hp → (List V → Hp → Prop) → Prop
/-- what is wanted behind a statement -/
structure Ends where
  nx : St → Hp → Prop
  rt : VK
  bk : St → Hp → Prop := fun _ _ => False
  ct : St → Hp → Prop := fun _ _ => False
abbrev TS := Ends → St → Hp → Prop

def EP (X : Cx) (pins : List (Addr × Obj)) (σ : St) (Q : VK) (u : Value) (s' : Shared) : Prop := ∃ v H', Inv X pins σ H' s' ∧ RelV v u ∧ Q v H'
def TP (X : Cx) (pins : List (Addr × Obj)) (σ : St) (Q : Bool → Hp → Prop) (b : Bool) (s' : Shared) : Prop := ∃ H', Inv X pins σ H' s' ∧ Q b H'
def AP (X : Cx) (pins : List (Addr × Obj)) (σ : St) (Q : List V → Hp → Prop) (us : List Value) (s' : Shared) : Prop := ∃ vs H', Inv X pins σ H' s' ∧ Vals vs us ∧ Q vs H'
def SP (X : Cx) (pins : List (Addr × Obj)) (D : Ends) (f : Flow) (s' : Shared) : Prop :=
  match f with
  | .next => ∃ σ' H', Inv X pins σ' H' s' ∧ D.nx σ' H'
  | .brk => ∃ σ' H', Inv X pins σ' H' s' ∧ D.bk σ' H'
  | .cont => ∃ σ' H', Inv X pins σ' H' s' ∧ D.ct σ' H'
  | .ret u => ∃ v σ' H', Inv X pins σ' H' s' ∧ RelV v u ∧ D.rt v H'

def PE (X : Cx) (e : Expr) (t : TE) : Prop :=
  ∀ (pins : List (Addr × Obj)) (s : Shared) (σ : St) (H : Hp) (Q : VK), Inv X pins σ H s → t σ H Q → wpAny (model X.prog X.w) X.A (eval e X.env) (EP X pins σ Q) X.xe s
def PT (X : Cx) (e : Expr) (t : TT) : Prop :=
  ∀ (pins : List (Addr × Obj)) (s : Shared) (σ : St) (H : Hp) (Q : Bool → Hp → Prop), Inv X pins σ H s → t σ H Q → wpAny (model X.prog X.w) X.A (isTrue e X.env (eval e X.env)) (TP X pins σ Q) X.xe s
/-- a test whatever its 'whole' is (and, or) -/
def PW (X : Cx) (e : Expr) (t : TT) : Prop :=
  ∀ (whole : Sem Value) (pins : List (Addr × Obj)) (s : Shared) (σ : St) (H : Hp) (Q : Bool → Hp → Prop), Inv X pins σ H s → t σ H Q → wpAny (model X.prog X.w) X.A (isTrue e X.env whole) (TP X pins σ Q) X.xe s
theorem PW.pt {X : Cx} {e : Expr} {t : TT} (h : PW X e t) : PT X e t := h _
/-- an argument list (no star), from the left -/
def PA (X : Cx) (es : List Expr) (t : TA) : Prop :=
  ∀ (pos : Pos) (pins : List (Addr × Obj)) (s : Shared) (σ : St) (H : Hp) (Q : List V → Hp → Prop), Inv X pins σ H s → t σ H Q → wpAny (model X.prog X.w) X.A (spliced (backTo pos (starEach es X.env))) (AP X pins σ Q) X.xe s
def PS (X : Cx) (st : Stmt) (t : TS) : Prop :=
  ∀ (pins : List (Addr × Obj)) (s : Shared) (σ : St) (H : Hp) (D : Ends), Inv X pins σ H s → t D σ H → wpAny (model X.prog X.w) X.A (exec st X.env) (SP X pins D) X.xe s
def PSs (X : Cx) (st : List Stmt) (t : TS) : Prop :=
  ∀ (pins : List (Addr × Obj)) (s : Shared) (σ : St) (H : Hp) (D : Ends), Inv X pins σ H s → t D σ H → wpAny (model X.prog X.w) X.A (execs st X.env) (SP X pins D) X.xe s
/-- weaken the end -/
theorem thn {α : Type} {t : Sem α} {Q Q' : α → Shared → Prop} {M : Model} {A : Around} {E : Value → Shared → Prop} {s : Shared} (h : wpAny M A t Q E s) (hQ : ∀ a s, Q a s → Q' a s) : wpAny M A t Q' E s := wpAny_mono h hQ fun _ _ x => x
end L2

namespace L2
open PySem PySem.Spec PyProof.Rows
section
variable {X : Cx}

/-! ### names and constants -/
def tVar (i : Nat) : TE := fun σ H Q => ∃ v, σ[i]? = some (some v) ∧ Q v H
def tC (v : V) : TE := fun _ H Q => Q v H
theorem pe_var {i : Nat} {x : Str} {pos : Pos} (hN : X.N[i]? = some x) (hv : Vis X.env.scope x) (hd : (x == ("__debug__" : Str)) = false := by decide) (hcd : (x == ("__classdict__" : Str)) = false := by decide) : PE X (.Name x pos) (tVar i) := by
  intro pins s σ H Q I h
  obtain ⟨v, e, h⟩ := h
  obtain ⟨m, hn, hl⟩ := I.loc
  obtain ⟨u, r, l⟩ := hl i x v hN e hv
  have fin : EP X pins σ Q u s := ⟨v, H, I, r, h⟩
  rcases l with ⟨hk, hm⟩ | ⟨hk, c, hc, hcell⟩
  · exact wpAny_Name (wpAny_loadName_local I.ok.kind hk hn hm fin) hd
  · rcases hk with hk | hk
    · exact wpAny_Name (wpAny_loadName_cell I.ok.kind hk hc hcell fin) hd
    · exact wpAny_Name (wpAny_loadName_free I.ok.kind hk hc hcell fin hcd) hd
theorem pe_int {i j pos} : PE X (.Constant (.int i) j pos) (tC (.int i)) := fun _ _ _ H _ I h => wpAny_Constant_int ⟨.int i, H, I.tok _, ⟨_, rfl⟩, h⟩
theorem pe_bl {b j pos} : PE X (.Constant (.bool b) j pos) (tC (.bl b)) := fun _ _ _ H _ I h => Constant_bool ⟨.bl b, H, I, rfl, h⟩
theorem pe_non {j pos} : PE X (.Constant .none j pos) (tC .non) := fun _ _ _ H _ I h => Constant_none ⟨.non, H, I, rfl, h⟩
theorem pe_str {x j pos} : PE X (.Constant (.str x) j pos) (tC (.str x)) := fun _ _ _ H _ I h => Calls.Constant_str ⟨.str x, H, I.tok _, ⟨_, rfl⟩, h⟩

/-- a global name of the def -/
def Gl (X : Cx) (x : Str) : Prop := X.env.kindOf x = some .globalImplicit
theorem ld_glob {E : Value → Shared → Prop} {pins : List (Addr × Obj)} {s : Shared} {σ : St} {H : Hp} {x : Str} {u : Value} {pos : Pos} {Q : Value → Shared → Prop} (I : Inv X pins σ H s) (hg : Gl X x) (hm : X.mg x = some u) (h : Q u s)
    (hd : (x == ("__debug__" : Str)) = false := by decide) : wpAny (model X.prog X.w) X.A (eval (.Name x pos) X.env) Q E s :=
  Calls.Name_function_global I.ok.kind hg (Calls.loadGlobal_global (by rw [I.ok.glob]; exact I.mod.glob.keeps I.bk) hm h) hd
theorem ld_blt {E : Value → Shared → Prop} {pins : List (Addr × Obj)} {s : Shared} {σ : St} {H : Hp} {x : Str} {u : Value} {pos : Pos} {Q : Value → Shared → Prop} (I : Inv X pins σ H s) (hg : Gl X x) (hm : X.mg x = none) (hv : bootBuiltins x = some u) (h : Q u s)
    (hn : x ≠ "__name__" := by decide) (hd : (x == ("__debug__" : Str)) = false := by decide) : wpAny (model X.prog X.w) X.A (eval (.Name x pos) X.env) Q E s := by
  obtain ⟨mb, h1, h2⟩ := I.mod.blt
  exact Calls.Name_function_global I.ok.kind hg (Calls.loadGlobal_builtin (by rw [I.ok.glob]; exact I.mod.glob.keeps I.bk) hm (by rw [I.ok.blt]; exact h1.keeps I.bk) ((h2 x hn).trans hv) h) hd
/-- a module's constant, a class, a function, as a value -/
theorem pe_glob {x : Str} {v : V} {u : Value} {pos : Pos} (hg : Gl X x) (hm : X.mg x = some u) (r : RelV v u) (hd : (x == ("__debug__" : Str)) = false := by decide) : PE X (.Name x pos) (tC v) :=
  fun _ _ _ H _ I h => ld_glob I hg hm ⟨v, H, I, r, h⟩ hd
theorem pe_bltn {x : Str} {v : V} {u : Value} {pos : Pos} (hg : Gl X x) (hm : X.mg x = none) (hv : bootBuiltins x = some u) (r : RelV v u) (hn : x ≠ "__name__" := by decide) (hd : (x == ("__debug__" : Str)) = false := by decide) : PE X (.Name x pos) (tC v) :=
  fun _ _ _ H _ I h => ld_blt I hg hm hv ⟨v, H, I, r, h⟩ hn hd

/-! ### arithmetic -/
variable {a b : Expr} {ta tb : TE} {pos : Pos}
/-! ### comparisons -/
/-- a comparison as a value, as a test -/
def tB (t : TE) : TT := fun σ H Q => t σ H fun x H1 => ∃ c, x = .bl c ∧ Q c H1
/-- an expression whose value is a bool, as a test -/
theorem pt_val {e : Expr} {t : TE} (h : PE X e t) (he : ∀ whole, isTrue e X.env whole = (do let v ← whole; standAt e.pos; holding [v] (truthy v)) := by intro _; rfl) : PT X e (tB t) := by
  intro pins s σ H Q I hw
  refine isTrue_plain (thn (h pins s σ H _ I hw) fun v s1 ⟨x, H1, I1, r1, q1⟩ => ?_) (he _)
  obtain ⟨d, rfl, q⟩ := q1
  cases r1
  exact wpAny_truthy_bool ⟨H1, I1, q⟩

/-! ### and, or, not -/
variable {tA tB' : TT} {rest : List Expr}
def tAnd (t u : TT) : TT := fun σ H Q => t σ H fun c H1 => if c = true then u σ H1 Q else Q false H1
def tOr (t u : TT) : TT := fun σ H Q => t σ H fun c H1 => if c = true then Q true H1 else u σ H1 Q
def tNot (t : TT) : TT := fun σ H Q => t σ H fun c H1 => Q (!c) H1
theorem pw_and1 (ha : PT X a tA) : PW X (.BoolOp .And [a] pos) tA := by
  intro wh pins s σ H Q I h
  refine isTrue_and (thn (ha pins s σ H Q I h) fun c s1 e => ?_)
  cases c with
  | true => exact isTrue_and_nil e
  | false => exact e
theorem pw_or1 (ha : PT X a tA) : PW X (.BoolOp .Or [a] pos) tA := by
  intro wh pins s σ H Q I h
  refine isTrue_or (thn (ha pins s σ H Q I h) fun c s1 e => ?_)
  cases c with
  | false => exact isTrue_or_nil e
  | true => exact e
theorem pw_and (ha : PT X a tA) (hb : PW X (.BoolOp .And (b :: rest) pos) tB') : PW X (.BoolOp .And (a :: b :: rest) pos) (tAnd tA tB') := by
  intro wh pins s σ H Q I h
  refine isTrue_and (thn (ha pins s σ H _ I h) fun c s1 ⟨H1, I1, q1⟩ => ?_)
  cases c with
  | true => exact hb wh pins s1 σ H1 Q I1 q1
  | false => exact ⟨H1, I1, q1⟩
theorem pw_or (ha : PT X a tA) (hb : PW X (.BoolOp .Or (b :: rest) pos) tB') : PW X (.BoolOp .Or (a :: b :: rest) pos) (tOr tA tB') := by
  intro wh pins s σ H Q I h
  refine isTrue_or (thn (ha pins s σ H _ I h) fun c s1 ⟨H1, I1, q1⟩ => ?_)
  cases c with
  | true => exact ⟨H1, I1, q1⟩
  | false => exact hb wh pins s1 σ H1 Q I1 q1
theorem pt_not (ha : PT X a tA) : PT X (.UnaryOp .Not a pos) (tNot tA) := by
  intro pins s σ H Q I h
  exact isTrue_not (ha pins s σ H (fun c H1 => Q (!c) H1) I h)
/-- .. as values (bools) -/
def tAndV (ta tb : TE) : TE := fun σ H Q => ta σ H fun x H1 => ∃ c, x = .bl c ∧ if c = true then tb σ H1 Q else Q (.bl false) H1
def tOrV (ta tb : TE) : TE := fun σ H Q => ta σ H fun x H1 => ∃ c, x = .bl c ∧ if c = true then Q (.bl true) H1 else tb σ H1 Q
def tNotV (ta : TE) : TE := fun σ H Q => ta σ H fun x H1 => ∃ c, x = .bl c ∧ Q (.bl (!c)) H1
theorem pe_one {op} {t : TE} (h : PE X a t) : PE X (.BoolOp op [a] pos) t := fun pins s σ H Q I hw => BoolOp_one (h pins s σ H Q I hw)
theorem pe_and (ha : PE X a ta) (hb : PE X (.BoolOp .And (b :: rest) pos) tb) : PE X (.BoolOp .And (a :: b :: rest) pos) (tAndV ta tb) := by
  intro pins s σ H Q I h
  refine BoolOp_and (thn (ha pins s σ H _ I h) fun v s1 ⟨x, H1, I1, r1, q1⟩ => ?_)
  obtain ⟨c, rfl, q1⟩ := q1
  cases r1
  refine wpAny_truthy_bool ?_
  cases c with
  | true => exact hb pins s1 σ H1 Q I1 q1
  | false => exact ⟨.bl false, H1, I1, rfl, q1⟩
theorem pe_or (ha : PE X a ta) (hb : PE X (.BoolOp .Or (b :: rest) pos) tb) : PE X (.BoolOp .Or (a :: b :: rest) pos) (tOrV ta tb) := by
  intro pins s σ H Q I h
  refine BoolOp_or (thn (ha pins s σ H _ I h) fun v s1 ⟨x, H1, I1, r1, q1⟩ => ?_)
  obtain ⟨c, rfl, q1⟩ := q1
  cases r1
  refine wpAny_truthy_bool ?_
  cases c with
  | false => exact hb pins s1 σ H1 Q I1 q1
  | true => exact ⟨.bl true, H1, I1, rfl, q1⟩
theorem pe_not (ha : PE X a ta) : PE X (.UnaryOp .Not a pos) (tNotV ta) := by
  intro pins s σ H Q I h
  refine UnaryOp_ (thn (ha pins s σ H _ I h) fun v s1 ⟨x, H1, I1, r1, q1⟩ => ?_)
  obtain ⟨c, rfl, q1⟩ := q1
  cases r1
  exact not_of (wpAny_truthy_bool ⟨.bl (!c), H1, I1, rfl, q1⟩)
/-- a if t else b -/
def tIf (t : TT) (ta tb : TE) : TE := fun σ H Q => t σ H fun c H1 => if c = true then ta σ H1 Q else tb σ H1 Q
theorem pe_ifExp {c : Expr} (hc : PT X c tA) (ha : PE X a ta) (hb : PE X b tb) : PE X (.IfExp c a b pos) (tIf tA ta tb) := by
  intro pins s σ H Q I h
  refine wpAny_IfExp (thn (hc pins s σ H _ I h) fun d s1 ⟨H1, I1, q1⟩ => ?_)
  cases d with
  | true => exact ha pins s1 σ H1 Q I1 q1
  | false => exact hb pins s1 σ H1 Q I1 q1
end
end L2

namespace L2
open PySem PySem.Spec PyProof.Rows

/-! ### a list, a tuple that is read: tracked, frozen, or an object of the module -/
def SqL (K : PySem.W.Frag) (H : Hp) (a : Addr) (xs : List V) : Prop :=
  Rd H a (.lst xs) ∨
    ∃ (o : Obj) (its : Array Value) (n : Nat), K.lookup a = some o ∧ o.cls = .type "list" ∧ o.dict = none ∧ o.data = .seq its n ∧ its.size ≤ sizeLine ∧ Vals xs its.toList
def SqT (K : PySem.W.Frag) (H : Hp) (a : Addr) (xs : List V) : Prop :=
  Rd H a (.tup xs) ∨
    ∃ (o : Obj) (its : Array Value) (n : Nat), K.lookup a = some o ∧ o.cls = .type "tuple" ∧ o.data = .seq its n ∧ its.size ≤ sizeLine ∧ Vals xs its.toList
def absV : Value → Option V
  | .none => some .non
  | .bool b => some (.bl b)
  | .int i _ => some (.int i)
  | .str x _ => some (.str x)
  | .bytes b _ => some (.byt b)
  | .float b _ => some (.flt b)
  | .ref a => some (.ref a)
  | .type n => some (.ty n)
  | _ => none
theorem RelV.abs {x : V} {u : Value} (r : RelV x u) : absV u = some x := by
  cases x with
  | non => cases r; rfl
  | bl _ => cases r; rfl
  | int _ => obtain ⟨t, rfl⟩ := r; rfl
  | str _ => obtain ⟨t, rfl⟩ := r; rfl
  | byt _ => obtain ⟨t, rfl⟩ := r; rfl
  | flt _ => obtain ⟨t, rfl⟩ := r; rfl
  | ref _ => cases r; rfl
  | ty _ => cases r; rfl
theorem RelV.inj {x y : V} {u : Value} (r : RelV x u) (q : RelV y u) : x = y := Option.some.inj (r.abs.symm.trans q.abs)
theorem Vals.inj : ∀ {xs ys : List V} {us : List Value}, Vals xs us → Vals ys us → xs = ys
  | _, _, _, .nil, .nil => rfl
  | _, _, _, .cons r t, .cons r' t' => by rw [r.inj r', Vals.inj t t']
section
variable {X : Cx} {pins : List (Addr × Obj)} {σ : St} {H : Hp} {s : Shared} {a : Addr} {xs ys : List V}
theorem SqL.of {K : PySem.W.Frag} (h : H a = some (.lst xs)) : SqL K H a xs := .inl (.inl h)
theorem SqT.of {K : PySem.W.Frag} (h : H a = some (.tup xs)) : SqT K H a xs := .inl (.inl h)
theorem Inv.list (I : Inv X pins σ H s) (h : SqL X.K H a xs) : ∃ its : List Value, Vals xs its ∧ PlainL s.heap a its.toArray ∧ xs.length ≤ sizeLine := by
  rcases h with h | ⟨o, its, n, hk, hc, hd, hs, hz, r⟩
  · obtain ⟨z, its, n, r, e⟩ := h.ok I.hok
    exact ⟨its, r, ⟨_, n, e, rfl, rfl, rfl⟩, z⟩
  · refine ⟨its.toList, r, ⟨o, n, I.kIn a o hk, hc, hd, by simpa using hs⟩, ?_⟩
    have e := r.length
    simp only [Array.length_toList] at e
    omega
theorem Inv.tuple (I : Inv X pins σ H s) (h : SqT X.K H a xs) : ∃ its : List Value, Vals xs its ∧ IsTup s.heap a its.toArray ∧ xs.length ≤ sizeLine := by
  rcases h with h | ⟨o, its, n, hk, hc, hs, hz, r⟩
  · obtain ⟨z, its, r, p⟩ := h.ok I.hok
    exact ⟨its, r, p, z⟩
  · refine ⟨its.toList, r, ⟨o, I.kIn a o hk, hc, n, by simpa using hs⟩, ?_⟩
    have e := r.length
    simp only [Array.length_toList] at e
    omega
theorem Inv.list_inj (I : Inv X pins σ H s) (h : SqL X.K H a xs) (h' : SqL X.K H a ys) : xs = ys := by
  obtain ⟨its, r, ⟨o, n, e, _, _, d⟩, _⟩ := I.list h
  obtain ⟨its', r', ⟨o', n', e', _, _, d'⟩, _⟩ := I.list h'
  rw [e] at e'; cases e'
  rw [d] at d'
  injection d' with d1 _
  have : its = its' := by simpa using congrArg Array.toList d1
  subst this
  exact r.inj r'
theorem Inv.tuple_inj (I : Inv X pins σ H s) (h : SqT X.K H a xs) (h' : SqT X.K H a ys) : xs = ys := by
  obtain ⟨its, r, ⟨o, e, _, n, d⟩, _⟩ := I.tuple h
  obtain ⟨its', r', ⟨o', e', _, n', d'⟩, _⟩ := I.tuple h'
  rw [e] at e'; cases e'
  rw [d] at d'
  injection d' with d1 _
  have : its = its' := by simpa using congrArg Array.toList d1
  subst this
  exact r.inj r'
end

/-! ### another wish about exceptions -/
abbrev Cx.wish (X : Cx) (E : Value → Shared → Prop) : Cx := { X with xe := E }
/-- no exception leaves -/
abbrev Cx.nox (X : Cx) : Cx := X.wish fun _ _ => False
theorem Cx.Ok.wish {X : Cx} (ok : X.Ok) (E : Value → Shared → Prop) : (X.wish E).Ok :=
  ⟨ok.mod, ok.kind, ok.glob, ok.blt, ok.above, ok.inj, ok.has, ok.cab, ok.hd, ok.frames, ok.stk, ok.exf, ok.bs, ok.bsz, ok.noex, ok.exfs, ok.funs, ok.frf⟩
theorem Cx.Ok.unwish {X : Cx} {E : Value → Shared → Prop} (ok : (X.wish E).Ok) : X.Ok :=
  ⟨ok.mod, ok.kind, ok.glob, ok.blt, ok.above, ok.inj, ok.has, ok.cab, ok.hd, ok.frames, ok.stk, ok.exf, ok.bs, ok.bsz, ok.noex, ok.exfs, ok.funs, ok.frf⟩
section
variable {X : Cx} {pins : List (Addr × Obj)} {σ : St} {H : Hp} {s : Shared} {E : Value → Shared → Prop}
theorem Inv.wish (I : Inv X pins σ H s) (E : Value → Shared → Prop) : Inv (X.wish E) pins σ H s := ⟨I.ok.wish E, I.os, I.bare, I.base, I.loc, I.cell, I.free, I.freeC, I.pin, I.hok, I.len⟩
theorem Inv.unwish (I : Inv (X.wish E) pins σ H s) : Inv X pins σ H s := ⟨I.ok.unwish, I.os, I.bare, I.base, I.loc, I.cell, I.free, I.freeC, I.pin, I.hok, I.len⟩
theorem SP.unwish {D : Ends} {f : Flow} {s' : Shared} (h : SP (X.wish E) pins D f s') : SP X pins D f s' := by
  cases f with
  | next => obtain ⟨σ', H', I, q⟩ := h; exact ⟨σ', H', I.unwish, q⟩
  | brk => obtain ⟨σ', H', I, q⟩ := h; exact ⟨σ', H', I.unwish, q⟩
  | cont => obtain ⟨σ', H', I, q⟩ := h; exact ⟨σ', H', I.unwish, q⟩
  | ret u => obtain ⟨v, σ', H', I, r, q⟩ := h; exact ⟨v, σ', H', I.unwish, r, q⟩
theorem PE.nox {e : Expr} {t : TE} (h : PE X.nox e t) : PE X e t := fun pins s σ H Q I hw =>
  wpAny_mono (h pins s σ H Q (I.wish _) hw) (fun _ _ ⟨v, H', I', r, q⟩ => ⟨v, H', I'.unwish, r, q⟩) fun _ _ z => False.elim z
theorem PT.nox {e : Expr} {t : TT} (h : PT X.nox e t) : PT X e t := fun pins s σ H Q I hw =>
  wpAny_mono (h pins s σ H Q (I.wish _) hw) (fun _ _ ⟨H', I', q⟩ => ⟨H', I'.unwish, q⟩) fun _ _ z => False.elim z
theorem PSs.nox {st : List Stmt} {t : TS} (h : PSs X.nox st t) : PSs X st t := fun pins s σ H D I hw =>
  wpAny_mono (h pins s σ H D (I.wish _) hw) (fun _ _ q => q.unwish) fun _ _ z => False.elim z
end

/-! ### blocks and small statements -/
section
variable {X : Cx} {st : Stmt} {rest : List Stmt} {t u : TS} {e : Expr} {te : TE} {pos : Pos}
def tNext : TS := fun D σ H => D.nx σ H
def tSeq (t u : TS) : TS := fun D σ H => t { D with nx := u D } σ H
theorem pss_nil : PSs X [] tNext := fun _ _ σ H _ I h => wpAny_execs_nil ⟨σ, H, I, h⟩
theorem pss_cons (h1 : PS X st t) (h2 : PSs X rest u) : PSs X (st :: rest) (tSeq t u) := by
  intro pins s σ H D I h
  refine wpAny_execs_cons (thn (h1 pins s σ H { D with nx := u D } I h) fun f s1 q => ?_)
  cases f with
  | next =>
    obtain ⟨σ', H', I', q⟩ := q
    exact h2 pins s1 σ' H' D I' q
  | ret v => exact q
  | brk => exact q
  | cont => exact q
theorem pss_one (h1 : PS X st t) : PSs X [st] t := by
  intro pins s σ H D I h
  refine wpAny_execs_cons (thn (h1 pins s σ H D I h) fun f s1 q => ?_)
  cases f with
  | next => exact wpAny_execs_nil q
  | ret v => exact q
  | brk => exact q
  | cont => exact q
/-- in a def's body nothing is shown -/
theorem Inv.quiet {pins : List (Addr × Obj)} {σ : St} {H : Hp} {s : Shared} (I : Inv X pins σ H s) : interactive X.env = false := by simp [interactive, I.ok.kind]
/-- an expression whose value is dropped -/
def tDrop (te : TE) : TS := fun D σ H => te σ H fun _ H1 => D.nx σ H1
theorem ps_expr (he : PE X e te) (hs : swapsWith e none pos.line X.env = pure false := by rfl) : PS X (.Expr e pos) (tDrop te) := by
  intro pins s σ H D I h
  exact wpAny_Expr_any (thn (he pins s σ H _ I h) fun v s1 ⟨x, H1, I1, r1, q1⟩ => ⟨σ, H1, I1, q1⟩) I.quiet hs
def tRet (te : TE) : TS := fun D σ H => te σ H D.rt
theorem ps_ret (he : PE X e te) : PS X (.Return (some e) pos) (tRet te) := by
  intro pins s σ H D I h
  exact wpAny_Return_some (thn (he pins s σ H _ I h) fun v s1 ⟨x, H1, I1, r1, q1⟩ => ⟨x, σ, H1, I1, r1, q1⟩)
def tIfS (c : TT) (t u : TS) : TS := fun D σ H => c σ H fun b H1 => if b = true then t D σ H1 else u D σ H1
theorem ps_if {c : Expr} {a b : List Stmt} {tc : TT} (hc : PT X c tc) (ha : PSs X a t) (hb : PSs X b u) : PS X (.If c a b pos) (tIfS tc t u) := by
  intro pins s σ H D I h
  refine wpAny_If (thn (hc pins s σ H _ I h) fun d s1 ⟨H1, I1, q1⟩ => ?_)
  cases d with
  | true => exact ha pins s1 σ H1 D I1 q1
  | false => exact hb pins s1 σ H1 D I1 q1
/-- code that the proof never comes to -/
def tNever : TS := fun _ _ _ => False
theorem ps_never : PS X st tNever := fun _ _ _ _ _ _ h => h.elim
end

/-! ### targets -/
abbrev TG := V → St → Hp → (St → Hp → Prop) → Prop
abbrev TGs := List V → St → Hp → (St → Hp → Prop) → Prop
def PG (X : Cx) (target : Expr) (t : TG) : Prop :=
  ∀ (pins : List (Addr × Obj)) (s : Shared) (σ : St) (H : Hp) (v : V) (u : Value) (Q : St → Hp → Prop), Inv X pins σ H s → RelV v u → t v σ H Q →
    wpAny (model X.prog X.w) X.A (assign target X.env u) (fun _ s' => ∃ σ' H', Inv X pins σ' H' s' ∧ Q σ' H') X.xe s
/-- several targets, one after another -/
def PGs (X : Cx) (ts : List Expr) (t : TGs) : Prop :=
  ∀ (pins : List (Addr × Obj)) (s : Shared) (σ : St) (H : Hp) (vs : List V) (us : List Value) (Q : St → Hp → Prop), Inv X pins σ H s → Vals vs us → t vs σ H Q →
    wpAny (model X.prog X.w) X.A (assignInOrder ((assignEach ts X.env).map (·.2)) us) (fun _ s' => ∃ σ' H', Inv X pins σ' H' s' ∧ Q σ' H') X.xe s
/-- o[i] = v, by values -/
abbrev TSet := V → V → V → Hp → (Hp → Prop) → Prop
def PSet (X : Cx) (t : TSet) : Prop :=
  ∀ (pins : List (Addr × Obj)) (s : Shared) (σ : St) (H : Hp) (o i v : V) (ov iv u : Value) (Q : Hp → Prop), Inv X pins σ H s → RelV o ov → RelV i iv → RelV v u → t o i v H Q →
    wpAny (model X.prog X.w) X.A (setItem ov iv u) (fun _ s' => ∃ H', Inv X pins σ H' s' ∧ Q H') X.xe s
/-- a op= b, by values -/
abbrev TIp := V → V → Hp → VK → Prop
def PIp (X : Cx) (op : Operator) (t : TIp) : Prop :=
  ∀ (pins : List (Addr × Obj)) (s : Shared) (σ : St) (H : Hp) (x y : V) (v u : Value) (Q : VK), Inv X pins σ H s → RelV x v → RelV y u → t x y H Q →
    wpAny (model X.prog X.w) X.A (inplaceOp op v u) (EP X pins σ Q) X.xe s
section
variable {X : Cx} {pos : Pos}
def gName (i : Nat) : TG := fun v σ H Q => Q (σ.set i (some v)) H
theorem pg_name {i : Nat} {x : Str} (hN : X.N.Nodup) (hi : X.N[i]? = some x) (hx : Loc X.env.scope x) (hf : X.fn x = true ∨ X.env.scope.names.lookup x = some .local := by first | exact .inl rfl | exact .inr rfl | assumption) : PG X (.Name x pos) (gName i) := by
  intro pins s σ H v u Q I r h
  exact wpAny_assign_Name (store_ok I hN hi hx r (fun s' I' => ⟨_, H, I', h⟩) hf)
def gNil : TGs := fun vs σ H Q => vs = [] ∧ Q σ H
def gCons (t : TG) (u : TGs) : TGs := fun vs σ H Q => ∃ v r, vs = v :: r ∧ t v σ H fun σ' H' => u r σ' H' Q
theorem pgs_nil : PGs X [] gNil := by
  intro pins s σ H vs us Q I r h
  obtain ⟨e, h⟩ := h
  subst e
  cases r
  exact assignInOrder_nil ⟨σ, H, I, h⟩
theorem pgs_cons {e : Expr} {es : List Expr} {t : TG} {u : TGs} (h1 : PG X e t) (h2 : PGs X es u)
    (hs : (assignEach (e :: es) X.env).map (·.2) = assign e X.env :: (assignEach es X.env).map (·.2) := by rfl) : PGs X (e :: es) (gCons t u) := by
  intro pins s σ H vs us Q I r h
  obtain ⟨v, vr, e1, h⟩ := h
  subst e1
  cases r with
  | cons r rr =>
    rw [hs]
    refine assignInOrder_cons (thn (h1 pins s σ H _ _ _ I r h) fun _ s1 ⟨σ1, H1, I1, q1⟩ => ?_)
    exact h2 pins s1 σ1 H1 _ _ Q I1 rr q1
/-- (a, b, ..) = a tuple of that length -/
def gTup (K : PySem.W.Frag) (n : Nat) (t : TGs) : TG := fun v σ H Q => ∃ a xs, v = .ref a ∧ SqT K H a xs ∧ xs.length = n ∧ t xs σ H Q
theorem pg_tup {es : List Expr} {k : Nat} {t : TGs} {n : Nat} (hc : X.calm = true) (h : PGs X es t)
    (hn : (assignEach es X.env).length = n := by rfl) (hst : (assignEach es X.env).findIdx? (·.1) = none := by rfl) : PG X (.Tuple es k pos) (gTup X.K n t) := by
  intro pins s σ H v u Q I r hw
  obtain ⟨a, xs, e1, hq, hl, hw⟩ := hw
  subst e1
  cases r
  obtain ⟨its, rv, ht, hz⟩ := I.tuple hq
  refine assign_Tuple_tuple (I.ok.hd hc) ht (by simp [hn, ← hl, rv.length]) hst fun h' hx => ?_
  have I1 : Inv X pins σ H { s with heap := h' } := I.kept (t' := s.toks) fun b o e => hx b o (Nat.ne_of_lt (Heap.lt_size e)) e
  exact h pins _ σ H xs _ Q I1 (by simpa using rv) hw
/-- o[i] = .. -/
def gSub (to ti : TE) (t : TSet) : TG := fun v σ H Q => to σ H fun o H1 => ti σ H1 fun i H2 => t o i v H2 fun H3 => Q σ H3
/-- target = value -/
def tAsg (te : TE) (g : TG) : TS := fun D σ H => te σ H fun x H1 => g x σ H1 D.nx
/-- name = value -/
theorem ps_set {i : Nat} {x : Str} {e : Expr} {te : TE} {pos' : Pos} (hN : X.N.Nodup) (hi : X.N[i]? = some x) (hx : Loc X.env.scope x) (he : PE X e te) (hs : swapsWith e (some (.Name x pos')) pos.line X.env = pure false := by rfl) (hf : X.fn x = true ∨ X.env.scope.names.lookup x = some .local := by first | exact .inl rfl | exact .inr rfl | assumption) :
    PS X (.Assign [.Name x pos'] e pos) (tAsg te (gName i)) := by
  intro pins s σ H D I h
  refine wpAny_Assign_Name (thn (he pins s σ H _ I h) fun v s1 ⟨y, H1, I1, r1, q1⟩ => ?_) hs
  exact store_ok I1 hN hi hx r1 (fun s2 I2 => ⟨_, H1, I2, q1⟩) hf
/-- name op= e -/
def tAug (i : Nat) (te : TE) (ti : TIp) : TS := fun D σ H => ∃ x, σ[i]? = some (some x) ∧ te σ H fun y H1 => ti x y H1 fun z H2 => D.nx (σ.set i (some z)) H2
theorem ps_aug {i : Nat} {x : Str} {e : Expr} {te : TE} {op : Operator} {ti : TIp} {pos' : Pos} (hN : X.N.Nodup) (hi : X.N[i]? = some x) (hx : Loc X.env.scope x) (he : PE X e te) (ho : PIp X op ti) (hf : X.fn x = true ∨ X.env.scope.names.lookup x = some .local := by first | exact .inl rfl | exact .inr rfl | assumption) :
    PS X (.AugAssign (.Name x pos') op e pos) (tAug i te ti) := by
  intro pins s σ H D I h
  obtain ⟨v, e1, h⟩ := h
  obtain ⟨m, hn, hl⟩ := I.loc
  have vis : Vis X.env.scope x := by rcases hx with k | k; exact .inl k; exact .inr (.inl k)
  obtain ⟨u, r, l⟩ := hl i x v hi e1 vis
  refine wpAny_AugAssign_Name ?_
  have go : wpAny (model X.prog X.w) X.A (eval e X.env) (fun w s₂ => wpAny (model X.prog X.w) X.A (inplaceOp op u w) (fun r s₃ => wpAny (model X.prog X.w) X.A (storeName X.env x r) (fun _ => SP X pins D .next) X.xe s₃) X.xe s₂) X.xe s := by
    refine thn (he pins s σ H _ I h) fun w s1 ⟨y, H1, I1, r1, q1⟩ => ?_
    refine thn (ho pins s1 σ H1 v y u w _ I1 r r1 q1) fun z s2 ⟨zv, H2, I2, r2, q2⟩ => ?_
    exact store_ok I2 hN hi hx r2 (fun s3 I3 => ⟨_, H2, I3, q2⟩) hf
  rcases l with ⟨hk, hm⟩ | ⟨hk, c, hc, hcell⟩
  · exact wpAny_loadName_local I.ok.kind hk hn hm go
  · rcases hk with hk | hk
    · exact wpAny_loadName_cell I.ok.kind hk hc hcell go
    · rcases hx with k | k
      · have : X.env.scope.names.lookup x = some .free := hk
        rw [k] at this; cases this
      · have : X.env.scope.names.lookup x = some .free := hk
        rw [k] at this; cases this
/-- o[i] op= e -/
def tAugS (to ti te : TE) (tget : V → V → Hp → VK → Prop) (tip : TIp) (tset : TSet) : TS := fun D σ H => to σ H fun o H1 => ti σ H1 fun i H2 => tget o i H2 fun x H3 => te σ H3 fun y H4 => tip x y H4 fun z H5 => tset o i z H5 fun H6 => D.nx σ H6
/-- o[i], by values -/
def PGet (X : Cx) (t : V → V → Hp → VK → Prop) : Prop :=
  ∀ (pins : List (Addr × Obj)) (s : Shared) (σ : St) (H : Hp) (o i : V) (ov iv : Value) (Q : VK), Inv X pins σ H s → RelV o ov → RelV i iv → t o i H Q →
    wpAny (model X.prog X.w) X.A (getItem ov iv) (EP X pins σ Q) X.xe s
theorem ps_augS {o i e : Expr} {to ti te : TE} {tget : V → V → Hp → VK → Prop} {tip : TIp} {tset : TSet} {op : Operator} {tpos : Pos} (ho : PE X o to) (hi : PE X i ti) (hg : PGet X tget) (he : PE X e te) (hp : PIp X op tip) (hs : PSet X tset)
    (ha : ∀ ov iv new, augStore i ov iv new = (do holding [new, ov, iv] (setItem ov iv new); release [new, ov, iv] []; pure .next) := by intros; rfl) : PS X (.AugAssign (.Subscript o i tpos) op e pos) (tAugS to ti te tget tip tset) := by
  intro pins s σ H D I h
  refine wpAny_AugAssign_SubscriptAny (thn (ho pins s σ H _ I h) fun ov s1 ⟨x1, H1, I1, r1, q1⟩ => ?_) ha
  refine thn (hi pins s1 σ H1 _ I1 q1) fun iv s2 ⟨x2, H2, I2, r2, q2⟩ => ?_
  refine thn (hg pins s2 σ H2 x1 x2 ov iv _ I2 r1 r2 q2) fun old s3 ⟨x3, H3, I3, r3, q3⟩ => ?_
  refine thn (he pins s3 σ H3 _ I3 q3) fun v s4 ⟨x4, H4, I4, r4, q4⟩ => ?_
  refine thn (hp pins s4 σ H4 x3 x4 old v _ I4 r3 r4 q4) fun new s5 ⟨x5, H5, I5, r5, q5⟩ => ?_
  exact thn (hs pins s5 σ H5 x1 x2 x5 ov iv new _ I5 r1 r2 r5 q5) fun _ s6 ⟨H6, I6, q6⟩ => ⟨σ, H6, I6, q6⟩
end

/-! ### while -/
section
variable {X : Cx} {pos : Pos}
end

/-! ### what a loop or a comprehension walks -/
/-- at turn i: it yields x (the heap may grow), or it stops -/
structure It where
  go : Nat → Hp → Prop
  yld : Nat → Hp → V → Hp → Prop
  stop : Nat → Hp → Prop
/-- the iterator's own objects may turn: they are not the frame's, not pinned, younger than the entry (or a comprehension's own) -/
def FpOk (X : Cx) (pins : List (Addr × Obj)) (H : Hp) (b : Addr) : Prop :=
  H b = none ∧ b ≠ X.env.locals ∧ b ∉ X.fs ∧ (b ∈ X.ex ∨ X.s₀.heap.objs.size ≤ b) ∧ (∀ x c, X.env.cells.lookup x = some c → c ≠ b) ∧ ∀ p ∈ X.pn ++ pins, p.1 ≠ b
theorem Inv.fpOk {X : Cx} {pins : List (Addr × Obj)} {σ : St} {H H' : Hp} {s : Shared} {b : Addr} (I : Inv X pins σ H s) (hb : s.heap.objs.size ≤ b) (hn : H' b = none) : FpOk X pins H' b := by
  refine ⟨hn, Nat.ne_of_gt (Nat.lt_of_lt_of_le I.lt hb), I.nofs hb, .inr (Nat.le_trans I.sz hb), fun x c e z => ?_, fun p hp z => ?_⟩
  · obtain ⟨v, q⟩ := I.cell x c e
    exact absurd (Nat.lt_of_lt_of_le q.lt (by rw [z]; exact hb)) (Nat.lt_irrefl _)
  · exact absurd (Nat.lt_of_lt_of_le (Heap.lt_size (I.pin p hp).1) (by rw [z]; exact hb)) (Nat.lt_irrefl _)
structure Turn (P : Program) (w : World) (K : PySem.W.Frag) (tg : Expr) (J : It) (fp : List Addr) (it : Addr) (tn : Nat → Heap → Prop) : Prop where
  mem : it ∈ fp
  obj : ∀ i h, tn i h → ∀ b ∈ fp, ∃ o, h.get? b = some o ∧ ∀ v, o.data ≠ .cell v
  keep : ∀ i h h', tn i h → (∀ b ∈ fp, ∀ o, h.get? b = some o → h'.get? b = some o) → tn i h'
  item : ∀ (X : Cx), X.prog = P → X.w = w → X.K = K → X.calm = true → ∀ (i : Nat) (pins : List (Addr × Obj)) (s : Shared) (σ : St) (H : Hp) (E : Value → Shared → Prop), Inv X pins σ H s → (∀ b ∈ fp, FpOk X pins H b) → tn i s.heap → J.go i H →
    wpAny (model P w) X.A (pyNext (.ref it)) (fun r s1 => ∃ u, r = some u ∧
      wpAny (model P w) X.A (letOwnedTupleGo tg (.ref it) u) (fun _ s2 => ∃ x H', Inv X pins σ H' s2 ∧ RelV x u ∧ J.yld i H x H' ∧ tn (i + 1) s2.heap ∧ ∀ b ∈ fp, H' b = none) E s1) E s
  done : ∀ (X : Cx), X.prog = P → X.w = w → X.K = K → X.calm = true → ∀ (i : Nat) (pins : List (Addr × Obj)) (s : Shared) (σ : St) (H : Hp) (E : Value → Shared → Prop), Inv X pins σ H s → (∀ b ∈ fp, FpOk X pins H b) → tn i s.heap → J.stop i H →
    wpAny (model P w) X.A (pyNext (.ref it)) (fun r s1 => r = none ∧ Inv X pins σ H s1) E s
  self : ∀ (A : Around) (i : Nat) (s : Shared) (Q : Value → Shared → Prop) (E : Value → Shared → Prop), tn i s.heap → Q (.ref it) s → wpAny (model P w) A (pyIter (.ref it)) Q E s
abbrev TI := St → Hp → (It → Hp → Prop) → Prop
/-- an iterator has come -/
def PIE (X : Cx) (pins : List (Addr × Obj)) (σ : St) (tg : Expr) (R : It → Hp → Prop) (itv : Value) (s2 : Shared) : Prop :=
  ∃ (it : Addr) (fp : List Addr) (tn : Nat → Heap → Prop) (J : It) (H' : Hp), itv = .ref it ∧ Inv X pins σ H' s2 ∧ Turn X.prog X.w X.K tg J fp it tn ∧ tn 0 s2.heap ∧ (∀ b ∈ fp, FpOk X pins H' b) ∧ R J H'
def PI (X : Cx) (tg iter : Expr) (wi : TI) : Prop :=
  ∀ (pins : List (Addr × Obj)) (s : Shared) (σ : St) (H : Hp) (R : It → Hp → Prop), Inv X pins σ H s → wi σ H R →
    wpAny (model X.prog X.w) X.A (eval iter X.env) (fun v s1 => wpAny (model X.prog X.w) X.A (pyIter v) (PIE X pins σ tg R) X.xe s1) X.xe s

/-- the step ahead of the store is nothing for an iterator that keeps no tuple -/
theorem go_of {M : Model} {A : Around} {E : Value → Shared → Prop} {s : Shared} {tg : Expr} {it : Addr} {u : Value} {o : Obj} {n : String} {vs : Array Value} {Q : Unit → Shared → Prop} (ho : s.heap.get? it = some o) (hc : o.cls = .type n) (hd : o.data = .fields vs)
    (hn : ["enumerate", "zip", "dict_itemiterator", "dict_reverseitemiterator", "odict_iterator", "itertools.zip_longest", "itertools.pairwise"].contains n = false) (hQ : Q () s) : wpAny M A (letOwnedTupleGo tg (.ref it) u) Q E s := by
  unfold letOwnedTupleGo
  cases tg <;> first
    | exact wpAny_pure hQ
    | (cases u <;> first
        | exact wpAny_pure hQ
        | (refine wpAny_bind (wpAny_load ho ?_)
           rw [hc, hd]
           show wpAny M A (if (["enumerate", "zip", "dict_itemiterator", "dict_reverseitemiterator", "odict_iterator", "itertools.zip_longest", "itertools.pairwise"].contains n && vs[0]? == some (rawInt _)) = true then _ else _) Q E s
           rw [if_neg (by intro h; rw [hn, Bool.false_and] at h; cases h)]
           exact wpAny_pure hQ))

/-- the list at a, as it stands at each turn (a loop may append to it) -/
def Itl (K : PySem.W.Frag) (a : Addr) : It :=
  ⟨fun i H => ∃ xs x, SqL K H a xs ∧ xs[i]? = some x, fun i H x H' => H' = H ∧ ∀ xs, SqL K H a xs → xs[i]? = some x, fun i H => ∃ xs, SqL K H a xs ∧ xs.length ≤ i⟩
def Itt (K : PySem.W.Frag) (a : Addr) : It :=
  ⟨fun i H => ∃ xs x, SqT K H a xs ∧ xs[i]? = some x, fun i H x H' => H' = H ∧ ∀ xs, SqT K H a xs → xs[i]? = some x, fun i H => ∃ xs, SqT K H a xs ∧ xs.length ≤ i⟩
/-- lo, lo + 1, .. (n of them) -/
def Itr (lo : Int) (n : Nat) : It := ⟨fun i _ => i < n, fun i H x H' => H' = H ∧ x = .int (lo + i), fun i _ => n ≤ i⟩
theorem turn_list {P : Program} {w : World} {K : PySem.W.Frag} {tg : Expr} (a it : Addr) : Turn P w K tg (Itl K a) [it] it (fun i h => h.IsListIter it a i) where
  mem := by simp
  obj := fun i h st b hb => by
    have e : b = it := by simpa using hb
    subst e
    obtain ⟨o, e, c, d⟩ := st
    exact ⟨o, e, fun v z => by rw [d] at z; cases z⟩
  keep := fun i h h' st k => st.at fun o e => k it (by simp) o e
  item := by
    intro X hP hw hK hc i pins s σ H E I hf st hg
    subst hP hw hK
    obtain ⟨xs, x, hq, hx⟩ := hg
    obtain ⟨its, rv, p, hz⟩ := I.list hq
    obtain ⟨u, hu, ru⟩ := rv.get hx
    obtain ⟨f0, f1, f2, f3, f4, f5⟩ := hf it (by simp)
    refine wpAny_pyNext_list_item st p.isList (x := u) (by simpa using hu) fun h' st' sb => ?_
    have I1 : Inv X pins σ H { s with heap := h' } := I.turned (t' := s.toks) (fun b o hb e => (sb.2 b hb).trans e) f0 f1 f3 f4 f5
    obtain ⟨o, e, c, d⟩ := id st'
    exact ⟨u, rfl, go_of (s := { s with heap := h' }) e c d (by decide) ⟨x, H, I1, ru, ⟨rfl, fun ys hy => by rw [I.list_inj hy hq]; exact hx⟩, st', fun b hb => (hf b hb).1⟩⟩
  done := by
    intro X hP hw hK hc i pins s σ H E I hf st hg
    subst hP hw hK
    obtain ⟨xs, hq, hx⟩ := hg
    obtain ⟨its, rv, p, hz⟩ := I.list hq
    obtain ⟨f0, f1, f2, f3, f4, f5⟩ := hf it (by simp)
    have hl := rv.length
    exact wpAny_pyNext_list_end (I.ok.hd hc) st p.isList (by simp; omega) fun h' eb => ⟨rfl, I.turned (t' := s.toks) (fun b o hb e => eb b o hb e) f0 f1 f3 f4 f5⟩
  self := fun _ _ _ _ _ st h => wpAny_pyIter_listiter st h
theorem turn_tuple {P : Program} {w : World} {K : PySem.W.Frag} {tg : Expr} (a it : Addr) : Turn P w K tg (Itt K a) [it] it (fun i h => h.IsTupleIter it a i) where
  mem := by simp
  obj := fun i h st b hb => by
    have e : b = it := by simpa using hb
    subst e
    obtain ⟨o, e, c, d⟩ := st
    exact ⟨o, e, fun v z => by rw [d] at z; cases z⟩
  keep := fun i h h' st k => st.at fun o e => k it (by simp) o e
  item := by
    intro X hP hw hK hc i pins s σ H E I hf st hg
    subst hP hw hK
    obtain ⟨xs, x, hq, hx⟩ := hg
    obtain ⟨its, rv, p, hz⟩ := I.tuple hq
    obtain ⟨u, hu, ru⟩ := rv.get hx
    obtain ⟨f0, f1, f2, f3, f4, f5⟩ := hf it (by simp)
    refine wpAny_pyNext_tuple_item st (show s.heap.IsTuple a its.toArray from p) (x := u) (by simpa using hu) fun h' st' sb => ?_
    have I1 : Inv X pins σ H { s with heap := h' } := I.turned (t' := s.toks) (fun b o hb e => (sb.2 b hb).trans e) f0 f1 f3 f4 f5
    obtain ⟨o, e, c, d⟩ := id st'
    exact ⟨u, rfl, go_of (s := { s with heap := h' }) e c d (by decide) ⟨x, H, I1, ru, ⟨rfl, fun ys hy => by rw [I.tuple_inj hy hq]; exact hx⟩, st', fun b hb => (hf b hb).1⟩⟩
  done := by
    intro X hP hw hK hc i pins s σ H E I hf st hg
    subst hP hw hK
    obtain ⟨xs, hq, hx⟩ := hg
    obtain ⟨its, rv, p, hz⟩ := I.tuple hq
    obtain ⟨f0, f1, f2, f3, f4, f5⟩ := hf it (by simp)
    have hl := rv.length
    exact wpAny_pyNext_tuple_end (I.ok.hd hc) st (show s.heap.IsTuple a its.toArray from p) (by simp; omega) fun h' eb => ⟨rfl, I.turned (t' := s.toks) (fun b o hb e => eb b o hb e) f0 f1 f3 f4 f5⟩
  self := fun _ _ _ _ _ st h => wpAny_pyIter_tupleiter st h
theorem turn_range {P : Program} {w : World} {K : PySem.W.Frag} {tg : Expr} (it : Addr) (lo : Int) (n : Nat) : Turn P w K tg (Itr lo n) [it] it (fun i h => IsRangeIter h it (lo + (i : Nat) * 1) ((n : Int) - (i : Nat)) 1) where
  mem := by simp
  obj := fun i h st b hb => by
    have e : b = it := by simpa using hb
    subst e
    exact ⟨_, st, fun v z => by
      have z' : Data.fields _ = Data.cell v := z
      cases z'⟩
  keep := fun i h h' st k => k it (by simp) _ st
  item := by
    intro X hP hw hK hc i pins s σ H E I hf st hg
    subst hP hw hK
    obtain ⟨f0, f1, f2, f3, f4, f5⟩ := hf it (by simp)
    have W := Walks.range (prog := X.prog) (w := X.w) (I.ok.hd hc) it lo 1 n
    refine W.item i s _ _ hg st fun v h' tk hv st' kk => ?_
    obtain ⟨t, rfl⟩ := hv
    have I1 : Inv X pins σ H { s with heap := h', toks := tk } := I.turned (fun b o hb e => kk b o (by simpa using hb) e) f0 f1 f3 f4 f5
    refine ⟨_, rfl, go_of (s := { s with heap := h', toks := tk }) (n := "range_iterator") st' rfl rfl (by decide) ⟨.int (lo + i), H, I1, ⟨t, ?_⟩, ⟨rfl, rfl⟩, st', fun b hb => (hf b hb).1⟩⟩
    rw [Int.mul_one]
  done := by
    intro X hP hw hK hc i pins s σ H E I hf st hg
    subst hP hw hK
    obtain ⟨f0, f1, f2, f3, f4, f5⟩ := hf it (by simp)
    exact wpAny_pyNext_range_end (I.ok.hd hc) st (by have : n ≤ i := hg; omega) fun h' eb => ⟨rfl, I.turned (t' := s.toks) (fun b o hb e => eb b o hb e) f0 f1 f3 f4 f5⟩
  self := fun _ _ _ _ _ st h => wpAny_pyIter_rangeiter st h
end L2

namespace L2
open PySem PySem.Spec PyProof.Rows
section
variable {X : Cx} {tg : Expr}
def iList (K : PySem.W.Frag) (tl : TE) : TI := fun σ H R => tl σ H fun x H1 => ∃ a, x = .ref a ∧ (∃ xs, SqL K H1 a xs) ∧ R (Itl K a) H1
def iTup (K : PySem.W.Frag) (tl : TE) : TI := fun σ H R => tl σ H fun x H1 => ∃ a, x = .ref a ∧ (∃ xs, SqT K H1 a xs) ∧ R (Itt K a) H1
theorem pi_list {l : Expr} {tl : TE} (hl : PE X l tl) : PI X tg l (iList X.K tl) := by
  intro pins s σ H R I h
  refine thn (hl pins s σ H _ I h) fun v s1 ⟨x, H1, I1, r1, q1⟩ => ?_
  obtain ⟨a, e, ⟨xs, hq⟩, q⟩ := q1
  subst e
  cases r1
  obtain ⟨its, rv, p, hz⟩ := I1.list hq
  refine wpAny_pyIter_list p.isList ?_
  refine ⟨s1.heap.objs.size, [s1.heap.objs.size], _, _, H1, rfl, I1.kept (t' := s1.toks) fun b o e => Heap.get?_push_of_some _ e, turn_list a _, ⟨_, Heap.get?_push_size _ rfl, rfl, rfl⟩, fun b hb => ?_, q⟩
  have e : b = s1.heap.objs.size := by simpa using hb
  subst e
  exact I1.fpOk (Nat.le_refl _) (I1.hok.fresh (Nat.le_refl _))
theorem pi_tup {l : Expr} {tl : TE} (hl : PE X l tl) : PI X tg l (iTup X.K tl) := by
  intro pins s σ H R I h
  refine thn (hl pins s σ H _ I h) fun v s1 ⟨x, H1, I1, r1, q1⟩ => ?_
  obtain ⟨a, e, ⟨xs, hq⟩, q⟩ := q1
  subst e
  cases r1
  obtain ⟨its, rv, p, hz⟩ := I1.tuple hq
  refine wpAny_pyIter_tuple (show s1.heap.IsTuple a its.toArray from p) ?_
  refine ⟨s1.heap.objs.size, [s1.heap.objs.size], _, _, H1, rfl, I1.kept (t' := s1.toks) fun b o e => Heap.get?_push_of_some _ e, turn_tuple a _, ⟨_, Heap.get?_push_size _ rfl, rfl, rfl⟩, fun b hb => ?_, q⟩
  have e : b = s1.heap.objs.size := by simpa using hb
  subst e
  exact I1.fpOk (Nat.le_refl _) (I1.hok.fresh (Nat.le_refl _))
/-- a range object just made, walked -/
theorem range_it {pins : List (Addr × Obj)} {σ : St} {H : Hp} {s : Shared} {R : It → Hp → Prop} {E : Value → Shared → Prop} {lo hi : Int} {t u v : Tok} {tk : Nat} (I : Inv X pins σ H s) (h1 : -(2 ^ 62) ≤ lo) (h2 : lo < 2 ^ 62) (h3 : -(2 ^ 62) ≤ hi) (h4 : hi < 2 ^ 62)
    (q : R (Itr lo (hi - lo).toNat) H) : wpAny (model X.prog X.w) X.A (pyIter (.ref s.heap.objs.size)) (PIE X pins σ tg R) E { s with heap := s.heap.push { cls := .type "range", data := .fields #[.int lo t, .int hi u, .int 1 v] }, toks := tk } := by
  refine wpAny_pyIter_range (IsRange.new ..) (small_one h1 h2 h3 h4) ?_
  have I1 : Inv X pins σ H { s with heap := s.heap.push { cls := .type "range", data := .fields #[.int lo t, .int hi u, .int 1 v] }, toks := tk } := I.kept fun b o e => Heap.get?_push_of_some _ e
  refine ⟨(s.heap.push { cls := .type "range", data := .fields #[.int lo t, .int hi u, .int 1 v] }).objs.size, [(s.heap.push { cls := .type "range", data := .fields #[.int lo t, .int hi u, .int 1 v] }).objs.size], _, _, H, rfl,
    I1.kept (t' := tk) fun b o e => Heap.get?_push_of_some _ e, turn_range _ lo (hi - lo).toNat, ?_, fun b hb => ?_, q⟩
  · have e1 : lo + ((0 : Nat) : Int) * 1 = lo := by simp
    have e2 : (((hi - lo).toNat : Nat) : Int) - ((0 : Nat) : Int) = Builtin.Range.rangeSize lo hi 1 := by rw [rangeSize_one]; split <;> omega
    show IsRangeIter _ _ (lo + ((0 : Nat) : Int) * 1) ((((hi - lo).toNat : Nat) : Int) - ((0 : Nat) : Int)) 1
    rw [e1, e2]
    exact Heap.get?_push_size _ rfl
  · have e : b = (s.heap.push { cls := .type "range", data := .fields #[.int lo t, .int hi u, .int 1 v] }).objs.size := by simpa using hb
    subst e
    exact I1.fpOk (Nat.le_refl _) (I1.hok.fresh (Nat.le_refl _))
def iRng1 (ta : TA) : TI := fun σ H R => ta σ H fun vs H1 => ∃ j : Int, vs = [.int j] ∧ -(2 ^ 62) ≤ j ∧ j < 2 ^ 62 ∧ R (Itr 0 j.toNat) H1
def iRng2 (ta : TA) : TI := fun σ H R => ta σ H fun vs H1 => ∃ i j : Int, vs = [.int i, .int j] ∧ (-(2 ^ 62) ≤ i ∧ i < 2 ^ 62 ∧ -(2 ^ 62) ≤ j ∧ j < 2 ^ 62) ∧ R (Itr i (j - i).toNat) H1
theorem pi_range1 {a : Expr} {ta : TA} {p pos : Pos} (hg : Gl X "range") (hm : X.mg "range" = none) (ha : PA X [a] ta) (hs : starEach [a] X.env = [(false, eval a X.env)] := by rfl) : PI X tg (.Call (.Name "range" p) [a] [] pos) (iRng1 ta) := by
  intro pins s σ H R I h
  refine Call_ (ld_blt I hg hm boot_range (PyProof.Rows.callWith_type1 (thn (ha pos pins s σ H _ I h) fun us s1 ⟨vs, H1, I1, r1, q1⟩ => ?_) hs rfl))
  obtain ⟨j, e, q1, q2, q⟩ := q1
  subst e
  cases r1 with
  | cons r rr =>
    cases rr
    obtain ⟨t, rfl⟩ := r
    exact call_range_1 (range_it I1 (by omega) (by omega) q1 q2 (by simpa using q))
/-! ### for -/
/-- W: the invariant by the turn and a measure; N: what the body is to reach -/
def tFor (wi : TI) (g : TG) (tb : TS) : TS := fun D σ H => wi σ H fun J H1 => ∃ W : Nat → Nat → St → Hp → Prop, (∃ m, W 0 m σ H1) ∧ ∀ i m σ H, W i m σ H →
  (J.stop i H ∧ D.nx σ H) ∨ (J.go i H ∧ ∃ N : St → Hp → Prop, (∀ σ' H', N σ' H' → ∃ m', m' < m ∧ W (i + 1) m' σ' H') ∧ ∀ x H', J.yld i H x H' → g x σ H' fun σ2 H2 => tb { D with nx := N, ct := N, bk := D.nx } σ2 H2)
/-- the records at fp as they stand -/
def pinsAt (fp : List Addr) (h : Heap) : List (Addr × Obj) := fp.filterMap fun b => (h.get? b).map fun o => (b, o)
theorem mem_pinsAt {fp : List Addr} {h : Heap} {b : Addr} {o : Obj} (hb : b ∈ fp) (e : h.get? b = some o) : (b, o) ∈ pinsAt fp h := List.mem_filterMap.mpr ⟨b, hb, by rw [e]; rfl⟩
theorem of_pinsAt {fp : List Addr} {h : Heap} {p : Addr × Obj} (hp : p ∈ pinsAt fp h) : p.1 ∈ fp ∧ h.get? p.1 = some p.2 := by
  obtain ⟨b, hb, e⟩ := List.mem_filterMap.mp hp
  cases q : h.get? b with
  | none => rw [q] at e; cases e
  | some o =>
    rw [q] at e
    have e' : (b, o) = p := Option.some.inj e
    subst e'
    exact ⟨hb, q⟩
theorem Inv.pinned {pins : List (Addr × Obj)} {σ : St} {H : Hp} {s : Shared} {fp : List Addr} (I : Inv X pins σ H s) (hf : ∀ b ∈ fp, FpOk X pins H b) (ho : ∀ b ∈ fp, ∃ o, s.heap.get? b = some o ∧ ∀ v, o.data ≠ .cell v) : Inv X (pins ++ pinsAt fp s.heap) σ H s :=
  I.pins_of fun p hp => (List.mem_append.mp hp).elim (fun z => I.pin p (List.mem_append_right _ z)) fun z => by
    obtain ⟨hb, e⟩ := of_pinsAt z
    obtain ⟨f0, f1, f2, _⟩ := hf p.1 hb
    obtain ⟨o, e', d⟩ := ho p.1 hb
    rw [e] at e'; cases e'
    exact ⟨e, f0, f1, f2, d⟩
theorem Inv.unpinned {pins pl : List (Addr × Obj)} {σ : St} {H : Hp} {s : Shared} (I : Inv X (pins ++ pl) σ H s) : Inv X pins σ H s := I.pins_of fun p hp => I.pin p (List.mem_append_right _ (List.mem_append_left _ hp))
theorem ps_for {iter : Expr} {body : List Stmt} {wi : TI} {g : TG} {tb : TS} {pos : Pos} (hp : PassesOwn (model X.prog X.w) X.A X.env X.xe) (hc : X.calm = true) (hi : PI X tg iter wi) (hg : PG X tg g) (hb : PSs X body tb)
    (hs : ∀ x, foldedSetIterable iter X.env x = pure x := by intro _; rfl) : PS X (.For tg iter body [] pos) (tFor wi g tb) := by
  intro pins s σ H D I h
  refine wpAny_For (thn (hi pins s σ H _ I h) fun v s1 h1 => thn h1 fun itv s2 h2 => ?_) hs
  obtain ⟨it, fp, tn, J, H2, e, I2, T, st2, f2, W, ⟨m0, w0⟩, turn⟩ := h2
  subst e
  -- what stays true of the iterator's objects through the loop
  have stat : ∀ {H' : Hp}, (∀ b ∈ fp, H' b = none) → ∀ b ∈ fp, FpOk X pins H' b := fun hn b hb => ⟨hn b hb, (f2 b hb).2⟩
  refine codeAny_forLoop_any (fun n s' => ∃ i σ' H', Inv X pins σ' H' s' ∧ tn i s'.heap ∧ (∀ b ∈ fp, H' b = none) ∧ W i n σ' H') ?_ m0 ⟨0, σ, H2, I2, st2, fun b hb => (f2 b hb).1, w0⟩
  rintro n s3 ⟨i, σ3, H3, I3, st3, fr3, w3⟩
  rcases turn i n σ3 H3 w3 with ⟨stop, qn⟩ | ⟨go, N, hN, step⟩
  · refine wpAny_passesOwn hp (thn (T.done X rfl rfl rfl hc i pins s3 σ3 H3 X.xe I3 (stat fr3) st3 stop) fun r s4 ⟨hr, I4⟩ => ?_)
    subst hr
    exact wpAny_execs_nil ⟨σ3, H3, I4, qn⟩
  · refine wpAny_passesOwn hp (thn (T.item X rfl rfl rfl hc i pins s3 σ3 H3 X.xe I3 (stat fr3) st3 go) fun r s4 ⟨u, hr, h4⟩ => ?_)
    subst hr
    refine wpAny_passesOwn hp (thn h4 fun _ s5 ⟨x, H5, I5, r5, y5, st5, fr5⟩ => ?_)
    have I5' := I5.pinned (stat fr5) (T.obj _ _ st5)
    refine wpAny_passesOwn hp (thn (hg _ s5 σ3 H5 x u _ I5' r5 (step x H5 y5)) fun _ s6 ⟨σ6, H6, I6, q6⟩ => ?_)
    refine wpAny_passesOwn hp (thn (hb _ s6 σ6 H6 _ I6 q6) fun f s7 q7 => ?_)
    have again : ∀ {σ7 : St} {H7 : Hp}, Inv X (pins ++ pinsAt fp s5.heap) σ7 H7 s7 → N σ7 H7 → ∃ m, m < n ∧ ∃ i σ' H', Inv X pins σ' H' s7 ∧ tn i s7.heap ∧ (∀ b ∈ fp, H' b = none) ∧ W i m σ' H' := fun {σ7 H7} I7 n7 => by
      obtain ⟨m', hm, w7⟩ := hN σ7 H7 n7
      refine ⟨m', hm, i + 1, σ7, H7, I7.unpinned, T.keep _ _ _ st5 fun b hb o e => (I7.pin (b, o) (List.mem_append_right _ (List.mem_append_right _ (mem_pinsAt hb e)))).1, fun b hb => ?_, w7⟩
      obtain ⟨o, e, d⟩ := T.obj _ _ st5 b hb
      exact (I7.pin (b, o) (List.mem_append_right _ (List.mem_append_right _ (mem_pinsAt hb e)))).2.1
    cases f with
    | next => obtain ⟨σ7, H7, I7, n7⟩ := q7; exact again I7 n7
    | cont => obtain ⟨σ7, H7, I7, n7⟩ := q7; exact again I7 n7
    | brk => obtain ⟨σ7, H7, I7, q7⟩ := q7; exact ⟨σ7, H7, I7.unpinned, q7⟩
    | ret v => obtain ⟨x7, σ7, H7, I7, r7, q7⟩ := q7; exact ⟨x7, σ7, H7, I7.unpinned, r7, q7⟩
end

/-! ### the forms one uses -/
/-- over a list that the body leaves as it is -/
theorem for_list {K : PySem.W.Frag} {a : Addr} {xs : List V} {g : TG} {tb : TS} {D : Ends} {σ : St} {H : Hp} (Pv : Nat → St → Hp → Prop) (h0 : Pv 0 σ H) (hl : ∀ i σ H, i ≤ xs.length → Pv i σ H → SqL K H a xs)
    (hs : ∀ i x σ H, xs[i]? = some x → Pv i σ H → g x σ H fun σ2 H2 => tb { D with nx := Pv (i + 1), ct := Pv (i + 1), bk := D.nx } σ2 H2) (hd : ∀ σ H, Pv xs.length σ H → D.nx σ H) :
    ∃ W : Nat → Nat → St → Hp → Prop, (∃ m, W 0 m σ H) ∧ ∀ i m σ H, W i m σ H →
      ((Itl K a).stop i H ∧ D.nx σ H) ∨ ((Itl K a).go i H ∧ ∃ N : St → Hp → Prop, (∀ σ' H', N σ' H' → ∃ m', m' < m ∧ W (i + 1) m' σ' H') ∧ ∀ x H', (Itl K a).yld i H x H' → g x σ H' fun σ2 H2 => tb { D with nx := N, ct := N, bk := D.nx } σ2 H2) := by
  refine ⟨fun i m σ H => m = xs.length - i ∧ i ≤ xs.length ∧ Pv i σ H, ⟨xs.length, by simp, Nat.zero_le _, h0⟩, ?_⟩
  rintro i m σ H ⟨rfl, hi, p⟩
  have q := hl i σ H hi p
  by_cases hlt : i < xs.length
  · refine .inr ⟨⟨xs, xs[i], q, by simp [hlt]⟩, Pv (i + 1), fun σ' H' p' => ⟨xs.length - (i + 1), by omega, rfl, hlt, p'⟩, fun x H' y => ?_⟩
    obtain ⟨e, y⟩ := y
    subst e
    exact hs i x σ _ (y xs q) p
  · have e : i = xs.length := by omega
    subst e
    exact .inl ⟨⟨xs, q, Nat.le_refl _⟩, hd σ H p⟩
theorem for_range {lo : Int} {n : Nat} {g : TG} {tb : TS} {D : Ends} {σ : St} {H : Hp} (Pv : Nat → St → Hp → Prop) (h0 : Pv 0 σ H)
    (hs : ∀ i σ H, i < n → Pv i σ H → g (.int (lo + i)) σ H fun σ2 H2 => tb { D with nx := Pv (i + 1), ct := Pv (i + 1), bk := D.nx } σ2 H2) (hd : ∀ σ H, Pv n σ H → D.nx σ H) :
    ∃ W : Nat → Nat → St → Hp → Prop, (∃ m, W 0 m σ H) ∧ ∀ i m σ H, W i m σ H →
      ((Itr lo n).stop i H ∧ D.nx σ H) ∨ ((Itr lo n).go i H ∧ ∃ N : St → Hp → Prop, (∀ σ' H', N σ' H' → ∃ m', m' < m ∧ W (i + 1) m' σ' H') ∧ ∀ x H', (Itr lo n).yld i H x H' → g x σ H' fun σ2 H2 => tb { D with nx := N, ct := N, bk := D.nx } σ2 H2) := by
  refine ⟨fun i m σ H => m = n - i ∧ i ≤ n ∧ Pv i σ H, ⟨n, by simp, Nat.zero_le _, h0⟩, ?_⟩
  rintro i m σ H ⟨rfl, hi, p⟩
  by_cases hlt : i < n
  · refine .inr ⟨hlt, Pv (i + 1), fun σ' H' p' => ⟨n - (i + 1), by omega, rfl, hlt, p'⟩, fun x H' y => ?_⟩
    obtain ⟨e, y⟩ := y
    subst e y
    exact hs i σ _ hlt p
  · have e : i = n := by omega
    subst e
    exact .inl ⟨Nat.le_refl _, hd σ H p⟩
end L2

namespace L2
open PySem PySem.Spec PyProof.Rows

abbrev R2 := V → V → Hp → VK → Prop
/-- a two-place operation on values: f is binaryOp op, inplaceOp op or compareOp op -/
def OpR (X : Cx) (f : Value → Value → Sem Value) (r : R2) : Prop :=
  ∀ (pins : List (Addr × Obj)) (s : Shared) (σ : St) (H : Hp) (x y : V) (v u : Value) (Q : VK), Inv X pins σ H s → RelV x v → RelV y u → r x y H Q →
    wpAny (model X.prog X.w) X.A (f v u) (EP X pins σ Q) X.xe s
/-- a one-place operation -/
def UnR (X : Cx) (f : Value → Sem Value) (r : V → Hp → VK → Prop) : Prop :=
  ∀ (pins : List (Addr × Obj)) (s : Shared) (σ : St) (H : Hp) (x : V) (v : Value) (Q : VK), Inv X pins σ H s → RelV x v → r x H Q →
    wpAny (model X.prog X.w) X.A (f v) (EP X pins σ Q) X.xe s
/-- a call of a value that is known (a builtin, a type) with values -/
def CallR (X : Cx) (f : Value) (r : List V → Hp → VK → Prop) : Prop :=
  ∀ (pins : List (Addr × Obj)) (s : Shared) (σ : St) (H : Hp) (xs : List V) (us : List Value) (Q : VK), Inv X pins σ H s → Vals xs us → r xs H Q →
    wpAny (model X.prog X.w) X.A (call f us) (EP X pins σ Q) X.xe s
def tOp (r : R2) (ta tb : TE) : TE := fun σ H Q => ta σ H fun x H1 => tb σ H1 fun y H2 => r x y H2 Q
def tUn (r : V → Hp → VK → Prop) (ta : TE) : TE := fun σ H Q => ta σ H fun x H1 => r x H1 Q
/-- ints in, under C, and a value out -/
def rI (C : Int → Int → Prop) (g : Int → Int → V) : R2 := fun x y H Q => ∃ i j, x = .int i ∧ y = .int j ∧ C i j ∧ Q (g i j) H
def rI0 (g : Int → Int → V) : R2 := fun x y H Q => ∃ i j, x = .int i ∧ y = .int j ∧ Q (g i j) H
def rU (g : Int → V) : V → Hp → VK → Prop := fun x H Q => ∃ i, x = .int i ∧ Q (g i) H

section
variable {X : Cx} {a b c : Expr} {ta tb tc : TE} {pos : Pos}

theorem binT (ha : PE X a ta) (hb : PE X b tb) {pins : List (Addr × Obj)} {s : Shared} {σ : St} {H : Hp} {R : V → V → Hp → Prop} (I : Inv X pins σ H s)
    (h : ta σ H fun x H1 => tb σ H1 fun y H2 => R x y H2) {Q : Value → Shared → Prop} {f : Value → Value → Sem Value}
    (hf : ∀ v u s2 x y H2, Inv X pins σ H2 s2 → RelV x v → RelV y u → R x y H2 → wpAny (model X.prog X.w) X.A (f v u) Q X.xe s2) :
    wpAny (model X.prog X.w) X.A (eval a X.env) (fun v s₁ => wpAny (model X.prog X.w) X.A (eval b X.env) (fun u s₂ => wpAny (model X.prog X.w) X.A (f v u) Q X.xe s₂) X.xe s₁) X.xe s := by
  refine thn (ha pins s σ H _ I h) fun v s1 ⟨x, H1, I1, r1, q1⟩ => ?_
  refine thn (hb pins s1 σ H1 _ I1 q1) fun u s2 ⟨y, H2, I2, r2, q2⟩ => ?_
  exact hf v u s2 x y H2 I2 r1 r2 q2

theorem pe_op {op : Operator} {r : R2} (ho : OpR X (binaryOp op) r) (ha : PE X a ta) (hb : PE X b tb) : PE X (.BinOp a op b pos) (tOp r ta tb) := by
  intro pins s σ H Q I h
  exact wpAny_BinOp (binT ha hb I h fun v u s2 x y H2 I2 rx ry q => ho pins s2 σ H2 x y v u Q I2 rx ry q)
theorem pe_un {op : UnaryOp} {r : V → Hp → VK → Prop} (ho : UnR X (unaryOp op) r) (ha : PE X a ta) : PE X (.UnaryOp op a pos) (tUn r ta) := by
  intro pins s σ H Q I h
  exact UnaryOp_ (thn (ha pins s σ H _ I h) fun v s1 ⟨x, H1, I1, r1, q1⟩ => ho pins s1 σ H1 x v Q I1 r1 q1)
/-! ### ints -/
theorem opI {f : Value → Value → Sem Value} {C : Int → Int → Prop} {g : Int → Int → Int}
    (rule : ∀ (i j : Int) (t u : Tok) (s : Shared) (Q : Value → Shared → Prop) (E : Value → Shared → Prop), C i j → Q (.int (g i j) s.toks) { s with toks := s.toks + 1 } → wpAny (model X.prog X.w) X.A (f (.int i t) (.int j u)) Q E s) :
    OpR X f (rI C fun i j => .int (g i j)) := by
  intro pins s σ H x y v u Q I rx ry h
  obtain ⟨i, j, rfl, rfl, hc, q⟩ := h
  obtain ⟨t, rfl⟩ := rx
  obtain ⟨t', rfl⟩ := ry
  exact rule i j t t' s _ _ hc ⟨.int (g i j), H, I.tok _, ⟨_, rfl⟩, q⟩
theorem opI0 {f : Value → Value → Sem Value} {g : Int → Int → Int}
    (rule : ∀ (i j : Int) (t u : Tok) (s : Shared) (Q : Value → Shared → Prop) (E : Value → Shared → Prop), Q (.int (g i j) s.toks) { s with toks := s.toks + 1 } → wpAny (model X.prog X.w) X.A (f (.int i t) (.int j u)) Q E s) :
    OpR X f (rI0 fun i j => .int (g i j)) := by
  intro pins s σ H x y v u Q I rx ry h
  obtain ⟨i, j, rfl, rfl, q⟩ := h
  obtain ⟨t, rfl⟩ := rx
  obtain ⟨t', rfl⟩ := ry
  exact rule i j t t' s _ _ ⟨.int (g i j), H, I.tok _, ⟨_, rfl⟩, q⟩
theorem opB0 {f : Value → Value → Sem Value} {g : Int → Int → Bool}
    (rule : ∀ (i j : Int) (t u : Tok) (s : Shared) (Q : Value → Shared → Prop) (E : Value → Shared → Prop), Q (.bool (g i j)) s → wpAny (model X.prog X.w) X.A (f (.int i t) (.int j u)) Q E s) :
    OpR X f (rI0 fun i j => .bl (g i j)) := by
  intro pins s σ H x y v u Q I rx ry h
  obtain ⟨i, j, rfl, rfl, q⟩ := h
  obtain ⟨t, rfl⟩ := rx
  obtain ⟨t', rfl⟩ := ry
  exact rule i j t t' s _ _ ⟨.bl (g i j), H, I, rfl, q⟩

def CMul (i j : Int) : Prop := (-(2 ^ 64) < i ∧ i < 2 ^ 64) ∨ (-(2 ^ 64) < j ∧ j < 2 ^ 64)
theorem CMul.ok {i j : Int} (h : CMul i j) : IntMulOk i j := by
  rcases h with ⟨h1, h2⟩ | ⟨h1, h2⟩
  · exact .of_left (intBits_le_64 h1 h2)
  · exact .of_right (intBits_le_64 h1 h2)
theorem op_add : OpR X (binaryOp .Add) (rI0 fun i j => .int (i + j)) := opI0 fun _ _ _ _ _ _ _ q => add_int q
theorem op_sub : OpR X (binaryOp .Sub) (rI0 fun i j => .int (i - j)) := opI0 fun _ _ _ _ _ _ _ q => sub_int q
theorem op_mul : OpR X (binaryOp .Mult) (rI CMul fun i j => .int (i * j)) := opI fun _ _ _ _ _ _ _ hc q => mul_int q hc.ok
/-- % by a positive divisor of any size -/
theorem op_mod : OpR X (binaryOp .Mod) (rI (fun _ j => 0 < j) fun i j => .int (i % j)) := opI fun i j _ _ _ _ _ hc q => by
  have h1 : (0 : Int) < j := hc
  exact mod_int' (by omega) (by rw [Int.fmod_eq_emod_of_nonneg i (by omega)]; exact q)
theorem iop_add : OpR X (inplaceOp .Add) (rI0 fun i j => .int (i + j)) := opI0 fun _ _ _ _ _ _ _ q => iadd_int q
theorem unI {f : Value → Sem Value} {g : Int → Int}
    (rule : ∀ (i : Int) (t : Tok) (s : Shared) (Q : Value → Shared → Prop) (E : Value → Shared → Prop), Q (.int (g i) s.toks) { s with toks := s.toks + 1 } → wpAny (model X.prog X.w) X.A (f (.int i t)) Q E s) :
    UnR X f (rU fun i => .int (g i)) := by
  intro pins s σ H x v Q I rx h
  obtain ⟨i, rfl, q⟩ := h
  obtain ⟨t, rfl⟩ := rx
  exact rule i t s _ _ ⟨.int (g i), H, I.tok _, ⟨_, rfl⟩, q⟩
theorem un_neg : UnR X (unaryOp .USub) (rU fun i => .int (-i)) := unI fun _ _ _ _ _ q => neg_int q
/-! ### bools among ints: n += (a < b) -/
end

/-! ### comparisons -/
/-- the scalars that == tells apart as data does -/
def scal : V → V → Bool
  | .non, .non => true | .non, .int _ => true | .int _, .non => true | .non, .bl _ => true | .bl _, .non => true | .non, .str _ => true | .str _, .non => true
  | .int _, .int _ => true | .bl _, .bl _ => true | .str _, .str _ => true | .byt _, .byt _ => true
  | .int _, .str _ => true | .str _, .int _ => true | .bl _, .str _ => true | .str _, .bl _ => true
  | _, _ => false
def rEq : R2 := fun x y H Q => scal x y = true ∧ Q (.bl (decide (x = y))) H
def rNe : R2 := fun x y H Q => scal x y = true ∧ Q (.bl (!decide (x = y))) H

theorem dec_int {i j : Int} : decide (V.int i = V.int j) = (i == j) := by
  rw [Bool.eq_iff_iff]
  simp
theorem dec_bl {i j : Bool} : decide (V.bl i = V.bl j) = (i == j) := by
  rw [Bool.eq_iff_iff]
  simp
theorem dec_str {i j : Str} : decide (V.str i = V.str j) = (i == j) := by
  rw [Bool.eq_iff_iff]
  simp
theorem dec_byt {i j : Array UInt8} : decide (V.byt i = V.byt j) = (i.toList == j.toList) := by
  rw [Bool.eq_iff_iff]
  cases i
  cases j
  simp

section
variable {X : Cx} {a b c : Expr} {ta tb tc : TE} {pos : Pos}
theorem fin_bl {pins : List (Addr × Obj)} {σ : St} {H : Hp} {s : Shared} {Q : VK} {k k' : Bool} (I : Inv X pins σ H s) (q : Q (.bl k) H) (e : k = k') : EP X pins σ Q (.bool k') s := by
  subst e
  exact ⟨.bl k, H, I, rfl, q⟩
theorem op_eq : OpR X (compareOp .Eq) rEq := by
  intro pins s σ H x y v u Q I rx ry h
  obtain ⟨hs, q⟩ := h
  cases x with
  | non =>
    cases rx
    cases y with
    | non => cases ry; exact PySem.EqNone.eq_none_none (fin_bl I q (by simp))
    | bl j => cases ry; exact PySem.EqNone.eq_none_bool (fin_bl I q (by simp))
    | int j => obtain ⟨t', rfl⟩ := ry; exact PySem.EqNone.eq_none_int (fin_bl I q (by simp))
    | str j => obtain ⟨t', rfl⟩ := ry; exact PySem.EqNone.eq_none_str (fin_bl I q (by simp))
    | _ => exact absurd (show false = true from hs) Bool.false_ne_true
  | bl i =>
    cases rx
    cases y with
    | non => cases ry; exact PySem.EqNone.eq_bool_none (fin_bl I q (by simp))
    | bl j => cases ry; exact eq_bool (fin_bl I q dec_bl)
    | str j => obtain ⟨t', rfl⟩ := ry; exact PySem.EqMixed.eq_bool_str (fin_bl I q (by simp))
    | _ => exact absurd (show false = true from hs) Bool.false_ne_true
  | int i =>
    obtain ⟨t, rfl⟩ := rx
    cases y with
    | non => cases ry; exact PySem.EqNone.eq_int_none (fin_bl I q (by simp))
    | int j => obtain ⟨t', rfl⟩ := ry; exact eq_int (fin_bl I q dec_int)
    | str j => obtain ⟨t', rfl⟩ := ry; exact PySem.EqMixed.eq_int_str (fin_bl I q (by simp))
    | _ => exact absurd (show false = true from hs) Bool.false_ne_true
  | str i =>
    obtain ⟨t, rfl⟩ := rx
    cases y with
    | non => cases ry; exact PySem.EqNone.eq_str_none (fin_bl I q (by simp))
    | bl j => cases ry; exact PySem.EqMixed.eq_str_bool (fin_bl I q (by simp))
    | int j => obtain ⟨t', rfl⟩ := ry; exact PySem.EqMixed.eq_str_int (fin_bl I q (by simp))
    | str j => obtain ⟨t', rfl⟩ := ry; exact eq_str (fin_bl I q dec_str)
    | _ => exact absurd (show false = true from hs) Bool.false_ne_true
  | byt i =>
    obtain ⟨t, rfl⟩ := rx
    cases y with
    | byt j => obtain ⟨t', rfl⟩ := ry; exact PySem.W.eq_bytes (fin_bl I q dec_byt)
    | _ => exact absurd (show false = true from hs) Bool.false_ne_true
  | _ => cases y <;> exact absurd (show false = true from hs) Bool.false_ne_true
theorem op_ne : OpR X (compareOp .NotEq) rNe := by
  intro pins s σ H x y v u Q I rx ry h
  obtain ⟨hs, q⟩ := h
  cases x with
  | non =>
    cases rx
    cases y with
    | non => cases ry; exact PySem.EqNone.ne_none_none (fin_bl I q (by simp))
    | bl j => cases ry; exact PySem.EqNone.ne_none_bool (fin_bl I q (by simp))
    | int j => obtain ⟨t', rfl⟩ := ry; exact PySem.EqNone.ne_none_int (fin_bl I q (by simp))
    | str j => obtain ⟨t', rfl⟩ := ry; exact PySem.EqNone.ne_none_str (fin_bl I q (by simp))
    | _ => exact absurd (show false = true from hs) Bool.false_ne_true
  | bl i =>
    cases rx
    cases y with
    | non => cases ry; exact PySem.EqNone.ne_bool_none (fin_bl I q (by simp))
    | bl j => cases ry; exact ne_bool (fin_bl I q (congrArg not dec_bl))
    | str j => obtain ⟨t', rfl⟩ := ry; exact PySem.EqMixed.ne_bool_str (fin_bl I q (by simp))
    | _ => exact absurd (show false = true from hs) Bool.false_ne_true
  | int i =>
    obtain ⟨t, rfl⟩ := rx
    cases y with
    | non => cases ry; exact PySem.EqNone.ne_int_none (fin_bl I q (by simp))
    | int j => obtain ⟨t', rfl⟩ := ry; exact ne_int (fin_bl I q (congrArg not dec_int))
    | str j => obtain ⟨t', rfl⟩ := ry; exact PySem.EqMixed.ne_int_str (fin_bl I q (by simp))
    | _ => exact absurd (show false = true from hs) Bool.false_ne_true
  | str i =>
    obtain ⟨t, rfl⟩ := rx
    cases y with
    | non => cases ry; exact PySem.EqNone.ne_str_none (fin_bl I q (by simp))
    | bl j => cases ry; exact PySem.EqMixed.ne_str_bool (fin_bl I q (by simp))
    | int j => obtain ⟨t', rfl⟩ := ry; exact PySem.EqMixed.ne_str_int (fin_bl I q (by simp))
    | str j => obtain ⟨t', rfl⟩ := ry; exact ne_str (fin_bl I q (congrArg not dec_str))
    | _ => exact absurd (show false = true from hs) Bool.false_ne_true
  | byt i =>
    obtain ⟨t, rfl⟩ := rx
    cases y with
    | byt j => obtain ⟨t', rfl⟩ := ry; exact PySem.W.ne_bytes (fin_bl I q (congrArg not dec_byt))
    | _ => exact absurd (show false = true from hs) Bool.false_ne_true
  | _ => cases y <;> exact absurd (show false = true from hs) Bool.false_ne_true

theorem op_lt : OpR X (compareOp .Lt) (rI0 fun i j => .bl (decide (i < j))) := opB0 fun _ _ _ _ _ _ _ q => lt_int q
theorem op_le : OpR X (compareOp .LtE) (rI0 fun i j => .bl (decide (i ≤ j))) := opB0 fun _ _ _ _ _ _ _ q => le_int q
theorem op_gt : OpR X (compareOp .Gt) (rI0 fun i j => .bl (decide (j < i))) := opB0 fun _ _ _ _ _ _ _ q => gt_int q
theorem op_ge : OpR X (compareOp .GtE) (rI0 fun i j => .bl (decide (j ≤ i))) := opB0 fun _ _ _ _ _ _ _ q => ge_int q
/-- is None, is not None: the right side a value none -/
theorem op_isN : OpR X (compareOp .Is) (fun x y H Q => y = .non ∧ Q (.bl (decide (x = .non))) H) := by
  intro pins s σ H x y v u Q I rx ry h
  obtain ⟨rfl, q⟩ := h
  cases ry
  refine is_none_gen (fin_bl I q ?_)
  cases x <;> first
    | (cases rx; rfl)
    | (obtain ⟨t, rfl⟩ := rx; rfl)
theorem op_notN : OpR X (compareOp .IsNot) (fun x y H Q => y = .non ∧ Q (.bl (!decide (x = .non))) H) := by
  intro pins s σ H x y v u Q I rx ry h
  obtain ⟨rfl, q⟩ := h
  cases ry
  refine isnot_none_gen (fin_bl I q ?_)
  cases x <;> first
    | (cases rx; rfl)
    | (obtain ⟨t, rfl⟩ := rx; rfl)

/-- two rules for one operation: by cases -/
theorem OpR.or {f : Value → Value → Sem Value} {r r' : R2} (h : OpR X f r) (h' : OpR X f r') : OpR X f (fun x y H Q => r x y H Q ∨ r' x y H Q) := by
  intro pins s σ H x y v u Q I rx ry q
  rcases q with q | q
  · exact h pins s σ H x y v u Q I rx ry q
  · exact h' pins s σ H x y v u Q I rx ry q

theorem nomark (b : Expr) {op : CmpOp} (h : op ≠ .In := by decide) (h2 : op ≠ .NotIn := by decide) : behindInMarks op b = false := by
  have e1 : (op == CmpOp.In) = false := by cases op <;> first | rfl | exact absurd rfl h
  have e2 : (op == CmpOp.NotIn) = false := by cases op <;> first | rfl | exact absurd rfl h2
  cases b <;> simp [behindInMarks, e1, e2]
/-- a comparison as a value; hm: nomark b, or (for in, not in) by with_unfolding_all rfl -/
theorem pe_cmpR {op : CmpOp} {r : R2} (ho : OpR X (compareOp op) r) (ha : PE X a ta) (hb : PE X b tb) (hm : behindInMarks op b = false) : PE X (.Compare a [op] [b] pos) (tOp r ta tb) := by
  intro pins s σ H Q I h
  exact wpAny_Compare1 (binT ha hb I h fun v u s2 x y H2 I2 rx ry q => ho pins s2 σ H2 x y v u Q I2 rx ry q) hm
/-- a reading of a value as a test -/
def tTest (t : TE) : TT := fun σ H Q => t σ H fun x H' => ∃ k, x = .bl k ∧ Q k H'
theorem pt_cmpR {op : CmpOp} {r : R2} (ho : OpR X (compareOp op) r) (ha : PE X a ta) (hb : PE X b tb) (hm : behindInMarks op b = false) : PT X (.Compare a [op] [b] pos) (tTest (tOp r ta tb)) := by
  intro pins s σ H Q I h
  refine wpAny_isTrue_Compare1 (thn (ha pins s σ H _ I h) fun v s1 ⟨x, H1, I1, r1, q1⟩ => thn (hb pins s1 σ H1 _ I1 q1) fun u s2 ⟨y, H2, I2, r2, q2⟩ =>
    thn (ho pins s2 σ H2 x y v u _ I2 r1 r2 q2) fun c s3 ⟨z, H3, I3, r3, k, e, q3⟩ => ?_) hm
  subst e
  cases r3
  exact wpAny_truthy_bool ⟨H3, I3, q3⟩
/-- a op1 b op2 c -/
def tChain (r r' : R2) (ta tb tc : TE) : TE := fun σ H Q => ta σ H fun x H1 => tb σ H1 fun y H2 => r x y H2 fun z H3 => ∃ k, z = .bl k ∧
  (if k = true then tc σ H3 fun w' H4 => r' y w' H4 Q else Q (.bl false) H3)
theorem pt_chain {op op' : CmpOp} {r r' : R2} (ho : OpR X (compareOp op) r) (ho' : OpR X (compareOp op') r') (ha : PE X a ta) (hb : PE X b tb) (hc : PE X c tc)
    (hm : lastMarks [op, op'] [b, c] = false := by with_unfolding_all rfl) : PT X (.Compare a [op, op'] [b, c] pos) (tTest (tChain r r' ta tb tc)) := by
  intro pins s σ H Q I h
  refine isTrue_chain (thn (ha pins s σ H _ I h) fun v s1 ⟨x, H1, I1, r1, q1⟩ => test_link (thn (hb pins s1 σ H1 _ I1 q1) fun u s2 ⟨y, H2, I2, r2, q2⟩ =>
    thn (ho pins s2 σ H2 x y v u _ I2 r1 r2 q2) fun d s3 ⟨z, H3, I3, r3, k, e, q3⟩ => ?_)) hm
  subst e
  cases r3
  refine wpAny_truthy_bool ?_
  cases k with
  | false =>
    obtain ⟨k', e', q'⟩ := q3
    cases e'
    exact ite_ff ⟨H3, I3, q'⟩
  | true =>
    refine ite_tt (test_last (thn (hc pins s3 σ H3 _ I3 q3) fun w' s4 ⟨z', H4, I4, r4, q4⟩ => thn (ho' pins s4 σ H4 y z' u w' _ I4 r2 r4 q4) fun d' s5 ⟨z2, H5, I5, r5, k2, e2, q5⟩ => ?_))
    subst e2
    cases r5
    exact wpAny_truthy_bool ⟨H5, I5, q5⟩

/-! ### truth -/
theorem line63 : (sizeLine : Nat) < 2 ^ 63 := by rw [sizeLine_eq]; decide
/-! ### strs and bytes -/
/-! ### scalar builtins, by CallR -/
theorem vals1 {x : V} {us : List Value} (r : Vals [x] us) : ∃ u, us = [u] ∧ RelV x u := by
  cases r with
  | cons r1 r2 => cases r2; exact ⟨_, rfl, r1⟩
theorem vals2 {x y : V} {us : List Value} (r : Vals [x, y] us) : ∃ u w', us = [u, w'] ∧ RelV x u ∧ RelV y w' := by
  cases r with
  | cons r1 r2 =>
    cases r2 with
    | cons r3 r4 => cases r4; exact ⟨_, _, rfl, r1, r3⟩
theorem call_max2 (hc : X.calm = true) : CallR X (.builtin "max") (fun xs H Q => ∃ i j, xs = [.int i, .int j] ∧ Q (.int (if j > i then j else i)) H) := by
  intro pins s σ H xs us Q I r h
  obtain ⟨i, j, rfl, q⟩ := h
  obtain ⟨u, w', rfl, ⟨t, rfl⟩, ⟨t', rfl⟩⟩ := vals2 r
  refine max_two_ints (I.ok.hd hc) fun h' tk k => ⟨_, H, I.kept k, ?_, q⟩
  by_cases hj : j > i
  · rw [if_pos hj, if_pos hj]; exact ⟨_, rfl⟩
  · rw [if_neg hj, if_neg hj]; exact ⟨_, rfl⟩
theorem call_int1 : CallR X (.type "int") (fun xs H Q => (∃ i, xs = [.int i] ∧ Q (.int i) H) ∨ ∃ k, xs = [.bl k] ∧ Q (.int (if k then 1 else 0)) H) := by
  intro pins s σ H xs us Q I r h
  rcases h with ⟨i, rfl, q⟩ | ⟨k, rfl, q⟩
  · obtain ⟨u, rfl, t, rfl⟩ := vals1 r
    exact call_int_int ⟨.int i, H, I, ⟨_, rfl⟩, q⟩
  · obtain ⟨u, rfl, r1⟩ := vals1 r
    cases r1
    exact call_int_bool ⟨.int (if k then 1 else 0), H, I.tok _, ⟨_, rfl⟩, q⟩
end
end L2

namespace L2
open PySem PySem.Spec PyProof.Rows

/-! ### an instance, its attributes a map -/
structure ObjM (h : Heap) (x dx C : Addr) (mA : Str → Option Value) : Prop where
  obj : h.get? x = some (PySem.W.instObj C dx)
  ns : h.Ns1 dx mA
  ne : dx ≠ x

theorem lookIn_ns {h : Heap} {dx : Addr} {mA : Str → Option Value} (n : h.Ns1 dx mA) : ∃ od, h.get? dx = some od ∧ ∀ name, PySem.W.lookIn name od = some (mA name) := by
  obtain ⟨o, es, ep, ho, hd, hk, _, hm⟩ := n
  refine ⟨o, ho, fun name => ?_⟩
  have e := hm name
  unfold nsFind findBy at e
  rw [← Array.find?_toList] at e
  unfold PySem.W.lookIn
  rw [hd]
  dsimp only
  split
  · rename_i y q
    rw [q] at e
    exact congrArg some e
  · rename_i q
    rw [q] at e
    have a : es.toList.any (·.refKey) = false := by
      rw [List.any_eq_false]
      intro y hy
      obtain ⟨z, t, hkey⟩ := hk y (Array.mem_toList_iff.mp hy)
      simp [DictEntry.refKey, hkey]
    have a' : ¬ es.toList.any (·.refKey) = true := by rw [a]; exact Bool.false_ne_true
    rw [if_neg a']
    exact congrArg some e

theorem ObjM.look {h : Heap} {x dx C : Addr} {mA : Str → Option Value} (I : ObjM h x dx C mA) : ∃ od, PySem.W.InstAt h x (PySem.W.instObj C dx) C (some od) ∧ ∀ name, PySem.W.lookIn name od = some (mA name) :=
  let ⟨od, ho, hl⟩ := lookIn_ns I.ns
  ⟨od, ⟨I.obj, rfl, rfl, ho⟩, hl⟩

section
variable {prog : Program} {w : World} {A : Around} {E : Value → Shared → Prop} {s : Shared} {K : PySem.W.Frag} {x dx C f : Addr} {mA : Str → Option Value} {name : Str} {v : Value}

theorem get_map {expr : Bool} {Q : Value → Shared → Prop} (X : K.In s.heap) (I : ObjM s.heap x dx C mA) (hg : PySem.W.plainGet K C name = true) (hh : PySem.W.hasDictIn K C = true)
    (ha : PySem.W.findIn K (.ref C) name = some none) (hv : mA name = some v) (hv' : PySem.W.handedIn v = true) (h : Q v { s with toks := s.toks + 1 }) :
    wpAny (model prog w) A (getAttr (.ref x) name expr) Q E s := by
  obtain ⟨od, J, hl⟩ := I.look
  exact PySem.W.get_value X J (PySem.W.plainGet_of hg).1 (PySem.W.findObj_own hh ha rfl (by rw [hl, hv])) hv' h

theorem get_meth {pl : Sem Bool} {Q : Value × List Value → Shared → Prop} (X : K.In s.heap) (I : ObjM s.heap x dx C mA) (hg : PySem.W.plainGet K C name = true)
    (hf : PySem.W.findIn K (.ref C) name = some (some (.ref f))) (ht : PySem.W.isFn K (.ref f) = true) (hv : mA name = none) (h : Q (.ref f, [.ref x]) s) :
    wpAny (model prog w) A (getMethod (.ref x) name pl) Q E s := by
  obtain ⟨od, J, hl⟩ := I.look
  exact PySem.W.method_fn X J (PySem.W.plainGet_of hg).1 (PySem.W.plainGet_of hg).2 hf (beq_iff_eq.mp ht) (by show (PySem.W.lookIn name od).map (·.isSome) = some false; rw [hl, hv]; rfl) h

theorem set_map {ns : List Str} {Q : Unit → Shared → Prop} (X : K.In s.heap) (I : ObjM s.heap x dx C mA)
    (hs : PySem.W.findIn K (.ref C) "__setattr__" = some (some (.builtin "object.__setattr__"))) (hp : PySem.W.plainOver K C = true) (ht : PySem.W.takerIn K C name = some none) (hh : PySem.W.hasDictIn K C = true)
    (hw : PySem.Within mA ns) (hsz : ns.length ≤ sizeLine)
    (h : ∀ h', ObjM h' x dx C (fun y => if y = name then some v else mA y) → Heap.SameBut dx s.heap h' → Q () { s with heap := h', toks := s.toks + 2 }) :
    wpAny (model prog w) A (setAttr (.ref x) name v) Q E s := by
  obtain ⟨od, J, hl⟩ := I.look
  refine PySem.W.set_plain X J hs (PySem.W.osa_open (s := { s with toks := s.toks + 1 }) (r := none) X J hp ht fun b => ?_)
  obtain ⟨cd, hc, hd'⟩ := PySem.W.any_some hh
  have hx : s.heap.get? x = some ⟨.ref C, some dx, .plain, #[]⟩ := I.obj
  refine wpAny_bind (wpAny_pure (wpAny_bind (wpAny_bind (wpAny_loadPart hx (wpAny_bind (PySem.W.Looks.here (s := { s with toks := s.toks + 1 }) (PySem.W.looks_clsIn X hc) ?_))))))
  rw [hd']
  refine wpAny_pure (a := some dx) (wpAny_bind (wpAny_pure (wpAny_bind ?_)))
  refine wpAny_nsSet1 (s := { s with toks := s.toks + 1 }) I.ns fun h' hn2 hs2 => ?_
  obtain ⟨oD, esD, epD, hoD, hdD, hcD⟩ := hn2.count (PySem.Within.cons name v hw)
  refine wpAny_bind (wpAny_lookBehind hoD (by rw [hdD]; exact pastItsLine_dict (Nat.le_trans hcD (by rw [List.length_cons]; omega))) ?_)
  exact wpAny_pure (h _ ⟨(hs2.2 _ (Ne.symm I.ne)).trans I.obj, hn2, I.ne⟩ hs2)

/-- C(..): the dict at the heap's end, the instance behind it; then its __init__ -/
theorem make_map {R : Result → Shared → Prop} {vs : List Value} {kw : List (Str × Value)} (X : K.In s.heap) (hm : PySem.W.makesIn K C = true)
    (hi : PySem.W.findIn K (.ref C) "__init__" = some (some (.ref f))) (hf : PySem.W.typeIn K (.ref f) = some (.type "function"))
    (h : codeAny (model prog w) (A.under (.builtin "type.__call__" ⟨.ref C :: vs, kw⟩)) (.call (.ref f) ⟨.ref (s.heap.objs.size + 1) :: vs, kw⟩) (PySem.W.InitBack (s.heap.objs.size + 1) R)
      { s with heap := (s.heap.push PySem.W.emptyDict).push (PySem.W.instObj C s.heap.objs.size) }) :
    codeAny (model prog w) A (.call (.ref C) ⟨vs, kw⟩) R s := by
  obtain ⟨hh, g, d, t, os⟩ := s
  exact PySem.W.make_core (PySem.W.makes_of X hm) (PySem.W.looks_findIn X hi) (fun self => PySem.W.bind_fn X self hf) (.inl rfl) h
end

/-! ### the attributes as a list of pairs -/
def putF (f : Str) (v : V) : List (Str × V) → List (Str × V)
  | [] => [(f, v)]
  | (g, x) :: r => if g = f then (g, v) :: r else (g, x) :: putF f v r
theorem lookup_putF (f g : Str) (v : V) : ∀ fs : List (Str × V), (putF f v fs).lookup g = if g = f then some v else fs.lookup g
  | [] => by
    show List.lookup g [(f, v)] = _
    by_cases h : g = f
    · have hb : (g == f) = true := beq_iff_eq.mpr h
      simp only [List.lookup, hb, if_pos h]
    · have hb : (g == f) = false := beq_eq_false_iff_ne.mpr h
      simp only [List.lookup, hb, if_neg h]
  | (k, x) :: r => by
    have ih := lookup_putF f g v r
    rw [show putF f v ((k, x) :: r) = (if k = f then (k, v) :: r else (k, x) :: putF f v r) from rfl]
    by_cases hk : k = f
    · rw [if_pos hk]
      by_cases h : g = k
      · have hb : (g == k) = true := beq_iff_eq.mpr h
        simp only [List.lookup, hb, if_pos (h.trans hk)]
      · have hb : (g == k) = false := beq_eq_false_iff_ne.mpr h
        simp only [List.lookup, hb, if_neg (fun e : g = f => h (e.trans hk.symm))]
    · rw [if_neg hk]
      by_cases h : g = k
      · have hb : (g == k) = true := beq_iff_eq.mpr h
        simp only [List.lookup, hb, if_neg (fun e : g = f => hk (h.symm.trans e))]
      · have hb : (g == k) = false := beq_eq_false_iff_ne.mpr h
        simp only [List.lookup, hb]
        exact ih
theorem keys_putF (f : Str) (v : V) : ∀ fs : List (Str × V), f ∈ (putF f v fs).map (·.1) ∧ ∀ g, g ∈ fs.map (·.1) → g ∈ (putF f v fs).map (·.1)
  | [] => ⟨by simp [putF], fun g h => by simp at h⟩
  | (k, x) :: r => by
    obtain ⟨i1, i2⟩ := keys_putF f v r
    rw [show putF f v ((k, x) :: r) = (if k = f then (k, v) :: r else (k, x) :: putF f v r) from rfl]
    by_cases hk : k = f
    · rw [if_pos hk]
      subst hk
      exact ⟨by simp, fun g h => by simpa using h⟩
    · rw [if_neg hk]
      refine ⟨?_, fun g h => ?_⟩
      · rw [List.map_cons]
        exact List.mem_cons_of_mem _ i1
      · rw [List.map_cons] at h ⊢
        rcases List.mem_cons.mp h with e | e
        · exact List.mem_cons.mpr (.inl e)
        · exact List.mem_cons_of_mem _ (i2 g e)
theorem length_putF (f : Str) (v : V) : ∀ fs : List (Str × V), (putF f v fs).length ≤ fs.length + 1
  | [] => by simp [putF]
  | (k, x) :: r => by
    have ih := length_putF f v r
    rw [show putF f v ((k, x) :: r) = (if k = f then (k, v) :: r else (k, x) :: putF f v r) from rfl]
    by_cases hk : k = f
    · rw [if_pos hk, List.length_cons, List.length_cons]; omega
    · rw [if_neg hk, List.length_cons, List.length_cons]; omega

theorem RelO.some_of {v : V} {o : Option Value} (r : RelO (some v) o) : ∃ u, o = some u ∧ RelV v u := by
  cases o with
  | none => exact (show False from r).elim
  | some u => exact ⟨u, rfl, r⟩
theorem RelO.none_of {o : Option Value} (r : RelO none o) : o = none := by
  cases o with
  | none => rfl
  | some u => exact (show False from r).elim
theorem handed_of {v : V} {u : Value} (r : RelV v u) : PySem.W.handedIn u = true := by
  cases v with
  | non => cases (show u = Value.none from r); rfl
  | bl b => cases (show u = Value.bool b from r); rfl
  | int i => obtain ⟨t, e⟩ := (show ∃ t, u = Value.int i t from r); cases e; rfl
  | str x => obtain ⟨t, e⟩ := (show ∃ t, u = Value.str x t from r); cases e; rfl
  | byt b => obtain ⟨t, e⟩ := (show ∃ t, u = Value.bytes b t from r); cases e; rfl
  | flt b => obtain ⟨t, e⟩ := (show ∃ t, u = Value.float b t from r); cases e; rfl
  | ref a => cases (show u = Value.ref a from r); rfl
  | ty n => cases (show u = Value.type n from r); rfl

section
variable {P : Program} {w : World} {H H' : Hp} {h h' : Heap} {a C dx : Addr} {fs fs' : List (Str × V)}
theorem ins_get (hok : HOk P w H h) (e : H a = some (.ins C dx fs)) : ∃ mA, ObjM h a dx C mA ∧ (∀ f, RelO (fs.lookup f) (mA f)) ∧ PySem.Within mA (fs.map (·.1)) ∧ fs.length ≤ 1000 ∧ H dx = some (.own a) := by
  obtain ⟨d, z, ne, ob, mA, n, r, q⟩ := (show ObjOk P w H h a (.ins C dx fs) from hok a _ e)
  exact ⟨mA, ⟨ob, n, ne⟩, r, q, z, d⟩
end

/-! ### what of the text a class must have -/
structure Cls (K : PySem.W.Frag) (C : Addr) : Prop where
  pg : PySem.W.plainGet K C Str.empty = true
  hd : PySem.W.hasDictIn K C = true
  po : PySem.W.plainOver K C = true
  sa : PySem.W.findIn K (.ref C) "__setattr__" = some (some (.builtin "object.__setattr__"))
theorem Cls.get {K : PySem.W.Frag} {C : Addr} (c : Cls K C) (f : Str) : PySem.W.plainGet K C f = true := c.pg
/-- no class of it has the name -/
def NoAttr (K : PySem.W.Frag) (C : Addr) (f : Str) : Prop := PySem.W.findIn K (.ref C) f = some none
theorem NoAttr.taker {K : PySem.W.Frag} {C : Addr} {f : Str} (n : NoAttr K C f) : PySem.W.takerIn K C f = some none := by
  unfold PySem.W.takerIn
  rw [show PySem.W.findIn K (.ref C) f = some none from n]
  rfl
/-- a constant of the class -/
structure Con (K : PySem.W.Frag) (C : Addr) (f : Str) (v : V) (u : Value) : Prop where
  at_ : PySem.W.findIn K (.ref C) f = some (some u)
  rel : RelV v u
  get : PySem.W.specialIn K u "__get__" = some none
  cp : PySem.W.copiedNames.contains f = false
/-- a method: a plain def of the class or of one above it -/
structure Meth (K : PySem.W.Frag) (C : Addr) (m : Str) (f : Addr) : Prop where
  at_ : PySem.W.findIn K (.ref C) m = some (some (.ref f))
  fn : PySem.W.isFn K (.ref f) = true
  kp : PySem.W.keepIn K (.ref f) = true

section
variable {X : Cx} {pins : List (Addr × Obj)} {σ : St} {H : Hp} {s : Shared} {a C dx : Addr} {fs : List (Str × V)} {f : Str} {v : V} {A : Around} {E : Value → Shared → Prop}

theorem getattr_ok {b : Bool} {Q : Value → Shared → Prop} (I : Inv X pins σ H s) (e : H a = some (.ins C dx fs)) (c : Cls X.K C) (n : NoAttr X.K C f) (l : fs.lookup f = some v)
    (h : ∀ u s', Inv X pins σ H s' → RelV v u → Q u s') : wpAny (model X.prog X.w) A (getAttr (.ref a) f b) Q E s := by
  obtain ⟨mA, O, r, _, _, _⟩ := ins_get I.hok e
  obtain ⟨u, hu, ru⟩ := RelO.some_of (v := v) (o := mA f) (by rw [← l]; exact r f)
  exact get_map I.kIn O (c.get f) c.hd n hu (handed_of ru) (h u _ (I.tok _) ru)

theorem getmeth_ok {m : Str} {g : Addr} {pl : Sem Bool} {Q : Value × List Value → Shared → Prop} (I : Inv X pins σ H s) (e : H a = some (.ins C dx fs)) (c : Cls X.K C) (k : Meth X.K C m g) (l : fs.lookup m = none)
    (h : Q (.ref g, [.ref a]) s) : wpAny (model X.prog X.w) A (getMethod (.ref a) m pl) Q E s := by
  obtain ⟨mA, O, r, _, _, _⟩ := ins_get I.hok e
  have hn : mA m = none := RelO.none_of (by rw [← l]; exact r m)
  exact get_meth I.kIn O (c.get m) k.at_ k.fn hn h

theorem setattr_ok {y : V} {u : Value} {Q : Unit → Shared → Prop} (I : Inv X pins σ H s) (e : H a = some (.ins C dx fs)) (c : Cls X.K C) (n : NoAttr X.K C f) (hl : fs.length < 1000) (ry : RelV y u)
    (h : ∀ s', Inv X pins σ (upd H a (.ins C dx (putF f y fs))) s' → Q () s') : wpAny (model X.prog X.w) A (setAttr (.ref a) f u) Q E s := by
  obtain ⟨mA, O, r, wi, _, ho⟩ := ins_get I.hok e
  have hz : (fs.map (·.1)).length ≤ sizeLine := by rw [List.length_map, sizeLine_eq]; omega
  refine set_map I.kIn O c.sa c.po n.taker c.hd wi hz fun h' O' sb => h _ ?_
  have hd : ∃ o, h'.get? dx = some o := let ⟨o, _, _, e', _⟩ := O'.ns; ⟨o, e'⟩
  refine I.write (x := a) (e := dx) (by rw [e]; exact True.intro) (.inr ho) (fun b q hb z => (sb.2 b hb).trans z) hd ?_
  refine ⟨by rw [upd_ne O.ne]; exact ho, ?_, O.ne, O'.obj, _, O'.ns, fun g => ?_, fun g hg => ?_⟩
  · have := length_putF f y fs; omega
  · show RelO ((putF f y fs).lookup g) (if g = f then some u else mA g)
    rw [lookup_putF]
    by_cases q : g = f
    · rw [if_pos q, if_pos q]; exact ry
    · rw [if_neg q, if_neg q]; exact r g
  · by_cases q : g = f
    · rw [q]; exact (keys_putF f y fs).1
    · refine (keys_putF f y fs).2 g (wi g fun z => hg ?_)
      show (if g = f then some u else mA g) = none
      rw [if_neg q]; exact z

/-- a new instance, tracked, without attributes -/
theorem Inv.made (I : Inv X pins σ H s) : Inv X pins σ (upd (upd H s.heap.objs.size (.own (s.heap.objs.size + 1))) (s.heap.objs.size + 1) (.ins C s.heap.objs.size []))
    { s with heap := (s.heap.push PySem.W.emptyDict).push (PySem.W.instObj C s.heap.objs.size) } := by
  have e1 : (s.heap.push PySem.W.emptyDict).get? s.heap.objs.size = some PySem.W.emptyDict := Heap.get?_push_size s.heap rfl
  have e2 : ((s.heap.push PySem.W.emptyDict).push (PySem.W.instObj C s.heap.objs.size)).get? (s.heap.objs.size + 1) = some (PySem.W.instObj C s.heap.objs.size) := by
    have := Heap.get?_push_size (s.heap.push PySem.W.emptyDict) (o := PySem.W.instObj C s.heap.objs.size) rfl
    rwa [Heap.size_push] at this
  have e3 : (s.heap.push PySem.W.emptyDict).Ns s.heap.objs.size (fun _ => none) := ⟨PySem.W.emptyDict, #[], _, e1, rfl, (fun e he => absurd he (by simp)), fun _ => rfl⟩
  have I1 := I.laid (a := s.heap.objs.size) (o := .own (s.heap.objs.size + 1)) (h' := s.heap.push PySem.W.emptyDict) (t' := s.toks) (fun b u q => Heap.get?_push_of_some _ q) (Nat.le_refl _) ⟨_, e1⟩
  refine I1.laid (a := s.heap.objs.size + 1) (o := .ins C s.heap.objs.size []) (t' := s.toks) (fun b u q => Heap.get?_push_of_some _ q) (Nat.le_of_eq (Heap.size_push _ _)) ?_
  have ne : s.heap.objs.size ≠ s.heap.objs.size + 1 := Nat.ne_of_lt (Nat.lt_succ_self _)
  refine ⟨by rw [upd_ne ne, upd_same], Nat.zero_le _, ne, e2, fun _ => none, (Heap.Ns1.of_empty e3).at fun o q => Heap.get?_push_of_some _ q, fun _ => True.intro, fun y hy => absurd rfl hy⟩

/-- e.f where nothing but the object is asked: through attributeBase (super) and the last hold -/
theorem attr_of {prog : Program} {w : World} {env : Env} {e : Expr} {f : Str} {pos : Pos} {s : Shared} {Q : Value → Shared → Prop} (hb : attributeBase e f env (eval e env) = eval e env)
    (h : wpAny (model prog w) A (eval e env) (fun o s₁ => wpAny (model prog w) A (getAttr o f true) Q E s₁) E s) : wpAny (model prog w) A (eval (.Attribute e f pos) env) Q E s :=
  Attribute_any_ h (by rw [arm_eval_Attribute, hb])
end

/-! ### readings and rules -/
/-- e.f, an attribute of the instance -/
def tFld (K : PySem.W.Frag) (ta : TE) (f : Str) : TE := fun σ H Q => ta σ H fun x H1 => ∃ a C dx fs v, x = .ref a ∧ H1 a = some (.ins C dx fs) ∧ Cls K C ∧ NoAttr K C f ∧ fs.lookup f = some v ∧ Q v H1
/-- e.f = value -/
def sFld (K : PySem.W.Frag) (ta tv : TE) (f : Str) : TS := fun D σ H => tv σ H fun y H1 => ta σ H1 fun x H2 => ∃ a C dx fs, x = .ref a ∧ H2 a = some (.ins C dx fs) ∧ Cls K C ∧ NoAttr K C f ∧ fs.length < 1000 ∧
  D.nx σ (upd H2 a (.ins C dx (putF f y fs)))
/-- an augmented operator on two values -/
def InOp (X : Cx) (op : Operator) (rd : V → V → Hp → VK → Prop) : Prop :=
  ∀ (pins : List (Addr × Obj)) (s : Shared) (σ : St) (H : Hp) (x y : V) (u v : Value) (Q : VK), Inv X pins σ H s → RelV x u → RelV y v → rd x y H Q → wpAny (model X.prog X.w) X.A (inplaceOp op u v) (EP X pins σ Q) X.xe s
/-- e.f op= value -/
def sFldAug (K : PySem.W.Frag) (ta tv : TE) (rd : V → V → Hp → VK → Prop) (f : Str) : TS := fun D σ H => ta σ H fun x H1 => ∃ a C dx fs v, x = .ref a ∧ H1 a = some (.ins C dx fs) ∧ Cls K C ∧ NoAttr K C f ∧ fs.lookup f = some v ∧
  tv σ H1 fun y H2 => rd v y H2 fun z H3 => ∃ dx' fs', H3 a = some (.ins C dx' fs') ∧ fs'.length < 1000 ∧ D.nx σ (upd H3 a (.ins C dx' (putF f z fs')))

section
variable {X : Cx} {o e value : Expr} {f : Str} {pos pos' tpos : Pos} {ta tv : TE}
theorem pe_fld (he : PE X e ta) (hb : attributeBase e f X.env (eval e X.env) = eval e X.env) : PE X (.Attribute e f pos) (tFld X.K ta f) := by
  intro pins s σ H Q I h
  refine attr_of hb (thn (he pins s σ H _ I h) fun u s1 ⟨x, H1, I1, rx, a, C, dx, fs, v, ex, ea, c, n, l, q⟩ => ?_)
  subst ex
  obtain rfl : u = Value.ref a := rx
  exact getattr_ok I1 ea c n l fun u' s2 I2 ru => ⟨v, H1, I2, ru, q⟩
theorem ps_fld (ha : PE X o ta) (hv : PE X value tv) (hs : swapsWith value (some (.Attribute o f pos')) pos.line X.env = pure false) : PS X (.Assign [.Attribute o f pos'] value pos) (sFld X.K ta tv f) := by
  intro pins s σ H D I h
  refine plainObj_wpAny_Assign_Attribute (thn (hv pins s σ H _ I h) fun u s1 ⟨y, H1, I1, ry, q⟩ => thn (ha pins s1 σ H1 _ I1 q) fun ov s2 ⟨x, H2, I2, rx, a, C, dx, fs, ex, ea, c, n, l, q2⟩ => ?_) hs
  subst ex
  obtain rfl : ov = Value.ref a := rx
  exact setattr_ok I2 ea c n l ry fun s3 I3 => ⟨σ, _, I3, q2⟩
theorem ps_fldaug {op : Operator} {rd : V → V → Hp → VK → Prop} (ha : PE X o ta) (hv : PE X value tv) (hop : InOp X op rd) : PS X (.AugAssign (.Attribute o f tpos) op value pos) (sFldAug X.K ta tv rd f) := by
  intro pins s σ H D I h
  refine wpAny_AugAssign_AttributeAny (thn (ha pins s σ H _ I h) fun ov s1 ⟨x, H1, I1, rx, a, C, dx, fs, v, ex, ea, c, n, l, q⟩ => ?_)
  subst ex
  obtain rfl : ov = Value.ref a := rx
  refine getattr_ok I1 ea c n l fun u s2 I2 ru => thn (hv pins s2 σ H1 _ I2 q) fun w3 s3 ⟨y, H2, I3, ry, q3⟩ => thn (hop pins s3 σ H2 v y u w3 _ I3 ru ry q3) fun w4 s4 ⟨z, H3, I4, rz, dx', fs', ea', l', q4⟩ => ?_
  exact setattr_ok I4 ea' c n l' rz fun s5 I5 => ⟨σ, _, I5, q4⟩
end

/-! ### isinstance -/
section
variable {X : Cx} {pins : List (Addr × Obj)} {σ : St} {H : Hp} {s : Shared} {A : Around} {E : Value → Shared → Prop} {Q : Value → Shared → Prop} {c : Value} {b : Bool}
/-- the type of a value, as the fragment's deciders take it; for an instance its class -/
inductive TyOf (K : PySem.W.Frag) (H : Hp) : V → Value → Prop where
  | non : TyOf K H .non (.type "NoneType")
  | bl (x : Bool) : TyOf K H (.bl x) (.type "bool")
  | int (i : Int) : TyOf K H (.int i) (.type "int")
  | str (x : Str) : TyOf K H (.str x) (.type "str")
  | flt (x : UInt64) : TyOf K H (.flt x) (.type "float")
  | lst {a : Addr} {xs : List V} (e : H a = some (.lst xs)) : TyOf K H (.ref a) (.type "list")
  | frz {a : Addr} {o : Obj} {xs : List V} (e : H a = some (.frz o (.lst xs))) : TyOf K H (.ref a) (.type "list")
  | tup {a : Addr} {xs : List V} (e : H a = some (.tup xs)) : TyOf K H (.ref a) (.type "tuple")
  | dK {a : Addr} {kvs : List (Key × V)} (e : H a = some (.dK kvs)) : TyOf K H (.ref a) (.type "dict")
  | dT {a : Addr} {kvs : List (List Key × V)} (e : H a = some (.dT kvs)) : TyOf K H (.ref a) (.type "dict")
  | ins {a C dx : Addr} {fs : List (Str × V)} (e : H a = some (.ins C dx fs)) (cl : Cls K C) (ha : PySem.W.findIn K (.ref C) "__class__" = some (some (.builtin "object.__class__")))
      (hn : PySem.W.specialIn K (.builtin "object.__class__") "__get__" = some (some (.builtin "getset_descriptor.__get__"))) (htk : PySem.W.takesIn K (.builtin "object.__class__") = some true)
      (hm : PySem.W.mroIn K C (.type "object") = some true) : TyOf K H (.ref a) (.ref C)
/-- isinstance(x, c) for one class c, a built-in or an own one: kitOne's answer -/
theorem isinst_ok {x : V} {u t : Value} (I : Inv X pins σ H s) (rx : RelV x u) (ty : TyOf X.K H x t) (e : PySem.W.kitOne X.K t c = some b) (h : ∀ tk, Q (.bool b) { s with toks := tk }) :
    wpAny (model X.prog X.w) A (call (.builtin "isinstance") [u, c]) Q E s := by
  cases ty with
  | non => cases (show u = Value.none from rx); exact PySem.W.kia_one PySem.W.kitx_none I.kIn True.intro e (fun z => nomatch z) h
  | bl y => cases (show u = Value.bool y from rx); exact PySem.W.kia_one PySem.W.kitx_bool I.kIn True.intro e (fun z => nomatch z) h
  | int i => obtain ⟨t, q⟩ := (show ∃ t, u = Value.int i t from rx); cases q; exact PySem.W.kia_one PySem.W.kitx_int I.kIn True.intro e (fun z => nomatch z) h
  | str y => obtain ⟨t, q⟩ := (show ∃ t, u = Value.str y t from rx); cases q; exact PySem.W.kia_one PySem.W.kitx_str I.kIn True.intro e (fun z => nomatch z) h
  | flt y => obtain ⟨t, q⟩ := (show ∃ t, u = Value.float y t from rx); cases q; exact PySem.W.kia_one PySem.W.kitx_float I.kIn True.intro e (fun z => nomatch z) h
  | @lst a xs ea =>
    cases (show u = Value.ref a from rx)
    obtain ⟨_, _, n, _, h1⟩ := (show ObjOk X.prog X.w H s.heap a (.lst xs) from I.hok a _ ea)
    exact PySem.W.kia_one PySem.W.kitx_list I.kIn ⟨_, h1, rfl⟩ e (fun z => nomatch z) h
  | @frz a ob xs ea =>
    cases (show u = Value.ref a from rx)
    obtain ⟨_, _, _, n, _, h1⟩ := (show ObjOk X.prog X.w H s.heap a (.frz ob (.lst xs)) from I.hok a _ ea)
    exact PySem.W.kia_one PySem.W.kitx_list I.kIn ⟨_, h1, rfl⟩ e (fun z => nomatch z) h
  | @tup a xs ea =>
    cases (show u = Value.ref a from rx)
    obtain ⟨_, _, _, p⟩ := (show ObjOk X.prog X.w H s.heap a (.tup xs) from I.hok a _ ea)
    obtain ⟨o, h1, h2, _⟩ := p
    exact PySem.W.kia_one PySem.W.kitx_tuple I.kIn ⟨o, h1, h2⟩ e (fun z => nomatch z) h
  | @dK a kvs ea =>
    cases (show u = Value.ref a from rx)
    obtain ⟨_, _, vs, _, p⟩ := (show ObjOk X.prog X.w H s.heap a (.dK kvs) from I.hok a _ ea)
    obtain ⟨o, es, ep, h1, h2, _⟩ := p
    exact PySem.W.kia_one PySem.W.kitx_dict I.kIn ⟨o, h1, h2.1⟩ e (fun z => nomatch z) h
  | @dT a kvs ea =>
    cases (show u = Value.ref a from rx)
    obtain ⟨_, _, xs, _, o, es, ep, h1, h2, _⟩ := (show ObjOk X.prog X.w H s.heap a (.dT kvs) from I.hok a _ ea)
    exact PySem.W.kia_one PySem.W.kitx_dict I.kIn ⟨o, h1, h2.1⟩ e (fun z => nomatch z) h
  | @ins a C dx fs ea cl ha hn htk hm =>
    cases (show u = Value.ref a from rx)
    obtain ⟨mA, O, _⟩ := ins_get I.hok ea
    obtain ⟨od, J, _⟩ := O.look
    exact PySem.W.kia_one (PySem.W.kitx_own (cl.get _) cl.hd ha hn htk hm) I.kIn J e (fun z => nomatch z) h
end
end L2

namespace L2
open PySem PySem.Spec PyProof.Rows

/-! ### room -/
structure Room (k : Nat) (A : Around) : Prop where
  hd : A.handled = none
  dp : A.depth + 3 * k + 5 < recursionLimit
  un : A.units + 16 * k + 200 < cLine
theorem Room.mono {j k : Nat} {A : Around} (r : Room k A) (h : j ≤ k) : Room j A := ⟨r.hd, by have := r.dp; omega, by have := r.un; omega⟩
theorem Room.deeper {k : Nat} {A : Around} (r : Room (k + 1) A) (env : Env) : Room k (A.deeper env) :=
  ⟨r.hd, by have := r.dp; show A.depth + 1 + 3 * k + 5 < _; omega, by have := r.un; show A.units + 3 + 16 * k + 200 < _; omega⟩
theorem Room.in1 {k : Nat} {A : Around} (r : Room (k + 1) A) : Room k A.in1 :=
  ⟨r.hd, by have := r.dp; show A.depth + 3 * k + 5 < _; omega, by have := r.un; show A.units + 1 + 16 * k + 200 < _; omega⟩
theorem make_depth {A : Around} {C : Addr} {us : List Value} {kw : List (Str × Value)} : (A.under (.builtin "type.__call__" ⟨.ref C :: us, kw⟩)).depth = A.depth + 1 := by
  first | rfl | simp [Around.under, Code.weight, Code.isCreation, Code.isGuard, Code.isCaller, Code.frames, Code.isFrame, guardIds]
theorem make_units {A : Around} {C : Addr} {us : List Value} {kw : List (Str × Value)} : (A.under (.builtin "type.__call__" ⟨.ref C :: us, kw⟩)).units = A.units + 1 := by
  first | rfl | simp [Around.under, Code.cUnits, Code.frames, Code.isFrame]
theorem Room.make {k : Nat} {A : Around} (r : Room (k + 1) A) (C : Addr) (us : List Value) (kw : List (Str × Value)) : Room k (A.under (.builtin "type.__call__" ⟨.ref C :: us, kw⟩)) :=
  ⟨r.hd, by have := r.dp; rw [make_depth]; omega, by have := r.un; rw [make_units]; omega⟩
theorem Room.depth {k : Nat} {A : Around} (r : Room k A) : A.depth < recursionLimit := by have := r.dp; omega
theorem Room.units {k : Nat} {A : Around} (r : Room k A) : A.units + 64 < cLine := by have := r.un; omega
theorem Room.units0 {k : Nat} {A : Around} (r : Room k A) : A.units < cLine := by have := r.un; omega

/-! ### argument lists and displays -/
def tNil : TA := fun _ H Q => Q [] H
def tCons (ta : TE) (tr : TA) : TA := fun σ H Q => ta σ H fun x H1 => tr σ H1 fun xs H2 => Q (x :: xs) H2
section
variable {X : Cx} {e : Expr} {es : List Expr} {te : TE} {t : TA} {pos : Pos}
theorem pa_nil : PA X [] tNil := fun _ _ _ _ H Q I h => Calls.spliced_nil ⟨[], H, I, .nil, h⟩
theorem pa_cons (ha : PE X e te) (hr : PA X es t) (hs : starEach (e :: es) X.env = (false, eval e X.env) :: starEach es X.env := by rfl) : PA X (e :: es) (tCons te t) := by
  intro pos pins s σ H Q I h
  rw [hs]
  show wpAny _ _ (spliced ((false, eval e X.env) :: backTo pos (starEach es X.env))) _ _ s
  refine Calls.spliced_cons (thn (ha pins s σ H _ I h) fun u s1 ⟨x, H1, I1, r1, q1⟩ => ?_)
  exact thn (hr pos pins s1 σ H1 _ I1 q1) fun us s2 ⟨xs, H2, I2, r2, q2⟩ => ⟨x :: xs, H2, I2, .cons r1 r2, q2⟩

/-- a tuple, a list of written items -/
def tTup (t : TA) : TE := fun σ H Q => t σ H fun xs H1 => xs.length ≤ sizeLine ∧ ∀ p, H1 p = none → Q (.ref p) (upd H1 p (.tup xs))
def tLst (t : TA) : TE := fun σ H Q => t σ H fun xs H1 => xs.length ≤ sizeLine ∧ ∀ p, H1 p = none → Q (.ref p) (upd H1 p (.lst xs))
theorem pe_tup {x1} (h : PA X es t) : PE X (.Tuple es x1 pos) (tTup t) := by
  intro pins s σ H Q I hq
  refine wpAny_Tuple_spliced (thn (h pos pins s σ H _ I hq) fun us s1 ⟨xs, H1, I1, r, z, q⟩ => ⟨by rw [← r.length]; exact z, ?_⟩)
  have hf : H1 s1.heap.objs.size = none := I1.hok.fresh (Nat.le_refl _)
  refine ⟨.ref s1.heap.objs.size, upd H1 s1.heap.objs.size (.tup xs), I1.laid (t' := s1.toks) (fun b u e => Heap.get?_push_of_some _ e) (Nat.le_refl _) ?_, rfl, q _ hf⟩
  exact ⟨z, us, r, ⟨_, Heap.get?_push_size _ rfl, rfl, _, rfl⟩⟩
theorem pe_lst (h : PA X es t) : PE X (.List es pos) (tLst t) := by
  intro pins s σ H Q I hq
  refine wpAny_List_spliced (thn (h pos pins s σ H _ I hq) fun us s1 ⟨xs, H1, I1, r, z, q⟩ => ⟨by rw [← r.length]; exact z, ?_⟩)
  have hf : H1 s1.heap.objs.size = none := I1.hok.fresh (Nat.le_refl _)
  refine ⟨.ref s1.heap.objs.size, upd H1 s1.heap.objs.size (.lst xs), I1.laid (t' := s1.toks) (fun b u e => Heap.get?_push_of_some _ e) (Nat.le_refl _) ?_, rfl, q _ hf⟩
  exact ⟨z, us, 0, r, Heap.get?_push_size _ rfl⟩
end

/-! ### what a def promises -/
/-- a def's promise: the bound arguments in the parameters' order, the heap, the wanted end, the wanted exception -/
abbrev Sp := List V → Hp → VK → XK → Prop
/-- how an exception lies behind a call (file 08 gives it): the callers' frames, abstract heap and state ahead of the call, the wish, the exception, the state -/
abbrev CXT := List Env → Hp → Shared → XK → Value → Shared → Prop

/-- the state at a call -/
structure Env0 (P : Program) (w : World) (K : PySem.W.Frag) (mg : Str → Option Value) (base : Heap) (A : Around) (outer : List Env) (s : Shared) (H : Hp) : Prop where
  frames : A.frames = some outer
  mod : Mod K mg base
  bs : ∀ b o, base.get? b = some o → s.heap.get? b = some o ∧ H b = none
  bsz : base.objs.size ≤ s.heap.objs.size
  funs : s.heap.FunFrames base outer
  frf : ∀ b ∈ frs outer, H b = none
  hok : HOk P w H s.heap
  bare : AllBare s.gens
/-- a call's end -/
def CE (outer : List Env) (P : Program) (w : World) (H : Hp) (s : Shared) (Q : VK) (u : Value) (s' : Shared) : Prop :=
  ∃ v H', s'.os = s.os ∧ AllBare s'.gens ∧ Un (frs outer) [] H H' s.heap s'.heap ∧ HOk P w H' s'.heap ∧ RelV v u ∧ Q v H'
def CR (CX : CXT) (outer : List Env) (P : Program) (w : World) (H : Hp) (s : Shared) (Q : VK) (E : XK) (r : Result) (s' : Shared) : Prop :=
  match r with
  | .ok (.ret u) => CE outer P w H s Q u s'
  | .ok _ => False
  | .error e => CX outer H s E e s'
structure FnOk (P : Program) (w : World) (K : PySem.W.Frag) (mg : Str → Option Value) (base : Heap) (CX : CXT) (k : Nat) (f : Addr) (fd : FuncData) (ps : List Str) (sp : Sp) : Prop where
  len : ∀ vs H Q E, sp vs H Q E → vs.length = ps.length
  run : ∀ (A : Around) (outer : List Env) (s : Shared) (H : Hp) (args : Args) (us : List Value) (vs : List V) (Q : VK) (E : XK), Room k A → Env0 P w K mg base A outer s H → BindsTo s fd args (ps.zip us) → Vals vs us → sp vs H Q E →
    codeAny (model P w) A (.call (.ref f) args) (CR CX outer P w H s Q E) s
theorem FnOk.mono {P : Program} {w : World} {K : PySem.W.Frag} {mg : Str → Option Value} {base : Heap} {CX : CXT} {j k : Nat} {f : Addr} {fd : FuncData} {ps : List Str} {sp : Sp} (F : FnOk P w K mg base CX j f fd ps sp) (h : j ≤ k) :
    FnOk P w K mg base CX k f fd ps sp := ⟨F.len, fun A outer s H args us vs Q E hr => F.run A outer s H args us vs Q E (hr.mono h)⟩
/-- a weaker promise -/
theorem FnOk.imp {P : Program} {w : World} {K : PySem.W.Frag} {mg : Str → Option Value} {base : Heap} {CX : CXT} {k : Nat} {f : Addr} {fd : FuncData} {ps : List Str} {sp sp' : Sp} (F : FnOk P w K mg base CX k f fd ps sp)
    (h : ∀ vs H Q E, sp' vs H Q E → sp vs H Q E) : FnOk P w K mg base CX k f fd ps sp' :=
  ⟨fun vs H Q E q => F.len vs H Q E (h _ _ _ _ q), fun A outer s H args us vs Q E hr he hb hv hs => F.run A outer s H args us vs Q E hr he hb hv (h _ _ _ _ hs)⟩

theorem Env0.make {P : Program} {w : World} {K : PySem.W.Frag} {mg : Str → Option Value} {base : Heap} {A : Around} {outer : List Env} {s : Shared} {H : Hp} (e : Env0 P w K mg base A outer s H) (C : Addr) (us : List Value) (kw : List (Str × Value)) :
    Env0 P w K mg base (A.under (.builtin "type.__call__" ⟨.ref C :: us, kw⟩)) outer s H := ⟨by first | exact e.frames | (simpa [Around.under, Code.envs, Code.isFrame, pushEnvs] using e.frames), e.mod, e.bs, e.bsz, e.funs, e.frf, e.hok, e.bare⟩
theorem Env0.in1 {P : Program} {w : World} {K : PySem.W.Frag} {mg : Str → Option Value} {base : Heap} {A : Around} {outer : List Env} {s : Shared} {H : Hp} (e : Env0 P w K mg base A outer s H) :
    Env0 P w K mg base A.in1 outer s H := ⟨e.frames, e.mod, e.bs, e.bsz, e.funs, e.frf, e.hok, e.bare⟩

section
variable {X : Cx} {pins : List (Addr × Obj)} {σ : St} {H : Hp} {s s' : Shared}
/-- from a body: what a callee wants -/
theorem Inv.env0 (I : Inv X pins σ H s) : Env0 X.prog X.w X.K X.mg X.base X.A X.stack s H :=
  ⟨I.ok.frames, I.ok.mod, I.bs, Nat.le_trans I.ok.bsz I.sz, I.stack, I.stkFree, I.hok, I.bare⟩
/-- behind a call -/
theorem Inv.after {Q : VK} {u : Value} (I : Inv X pins σ H s) (h : CE X.stack X.prog X.w H s Q u s') : EP X pins σ Q u s' := by
  obtain ⟨v, H', os, bare, un, hok, r, q⟩ := h
  obtain ⟨hh, g, d, t, os'⟩ := s'
  obtain rfl : os' = s.os := os
  exact ⟨v, H', I.call (h' := hh) (g' := g) (d' := d) (t' := t) (ch := []) un hok bare (fun b z => absurd z (by simp)), r, q⟩
end

/-! ### calls -/
/-- f(..): the written arguments, then the defaults dvs; E: what is wanted of an exception -/
def tCall (sp : Sp) (dvs : List V) (E : XK) (t : TA) : TE := fun σ H Q => t σ H fun vs H1 => sp (vs ++ dvs) H1 Q E
/-- o.m(..) of an instance of the class at C -/
def tMeth (C : Addr) (m : Str) (sp : Sp) (dvs : List V) (E : XK) (ta : TE) (t : TA) : TE := fun σ H Q => ta σ H fun x H1 => ∃ a dx fs, x = .ref a ∧ H1 a = some (.ins C dx fs) ∧ fs.lookup m = none ∧
  t σ H1 fun vs H2 => sp (x :: (vs ++ dvs)) H2 Q E
/-- C(..): a new instance and its dict, then __init__ -/
def tMake (C : Addr) (sp : Sp) (dvs : List V) (E : XK) (t : TA) : TE := fun σ H Q => t σ H fun vs H1 => ∀ x dx, H1 x = none → H1 dx = none → dx ≠ x →
  sp (.ref x :: (vs ++ dvs)) (upd (upd H1 dx (.own x)) x (.ins C dx [])) (fun v H2 => v = .non ∧ Q (.ref x) H2) E

/-- how the parameters are bound: us the positional arguments, kw the keywords' values by name, ds the defaults that fill up -/
def Binds (K : PySem.W.Frag) (fd : FuncData) (ps : List Str) (ds : List Value) : Prop :=
  ∀ (s : Shared) (us : List Value), K.In s.heap → (us ++ ds).length = ps.length → BindsTo s fd ⟨us, []⟩ (ps.zip (us ++ ds))
/-- every parameter is given -/
theorem Binds.all {K : PySem.W.Frag} {fd : FuncData} {ps : List Str} (h : ∀ us : List Value, us.length = ps.length → bindArgs fd ⟨us, []⟩ = pure (ps.zip us)) : Binds K fd ps [] := fun s us _ hl => by
  rw [List.append_nil] at hl ⊢
  exact .of_eq (h us hl)

/-- an exception of a callee reaches what this body wants of exceptions -/
def Passes (CX : CXT) (X : Cx) (E : XK) : Prop := ∀ (pins : List (Addr × Obj)) (σ : St) (H : Hp) (s : Shared) (e : Value) (s' : Shared), Inv X pins σ H s → CX X.stack H s E e s' → X.xe e s'

section
variable {X : Cx} {CX : CXT} {k : Nat} {f C : Addr} {fd : FuncData} {ps : List Str} {sp : Sp} {dvs : List V} {ds : List Value} {E : XK} {x m : Str} {p pos apos : Pos} {e o : Expr} {es : List Expr} {ta : TE} {t : TA}

/-- the callee runs -/
theorem run_fn {pins : List (Addr × Obj)} {σ : St} {H : Hp} {s : Shared} {Q : VK} {us : List Value} {vs : List V} (F : FnOk X.prog X.w X.K X.mg X.base CX k f fd ps sp) (hr : Room k X.A) (hb : Binds X.K fd ps ds) (hd : Vals dvs ds) (hx : Passes CX X E)
    (I : Inv X pins σ H s) (r : Vals vs us) (h : sp (vs ++ dvs) H Q E) : wpAny (model X.prog X.w) X.A (call (.ref f) us) (EP X pins σ Q) X.xe s := by
  have r2 : Vals (vs ++ dvs) (us ++ ds) := r.append hd
  have hl : (us ++ ds).length = ps.length := by rw [← r2.length]; exact F.len _ _ _ _ h
  refine wpAny_call (codeAny_mono (F.run X.A X.stack s H ⟨us, []⟩ (us ++ ds) (vs ++ dvs) Q E hr I.env0 (hb s us I.kIn hl) r2 h) fun r s' hq => ?_)
  cases r with
  | error e => exact hx pins σ H s e s' I hq
  | ok fl =>
    cases fl with
    | ret u => exact I.after hq
    | next => exact False.elim hq
    | brk => exact False.elim hq
    | cont => exact False.elim hq

theorem pe_call (F : FnOk X.prog X.w X.K X.mg X.base CX k f fd ps sp) (hr : Room k X.A) (hg : Gl X x) (hm : X.mg x = some (.ref f)) (hk : PySem.W.keepIn X.K (.ref f) = true) (hb : Binds X.K fd ps ds) (hd : Vals dvs ds) (hx : Passes CX X E)
    (ha : PA X (e :: es) t) (hdb : (x == ("__debug__" : Str)) = false := by decide) (he : starEach (e :: es) X.env = (false, eval e X.env) :: starEach es X.env := by rfl) (hpl : (backTo pos (starEach es X.env)).any (·.1) = false := by rfl) :
    PE X (.Call (.Name x p) (e :: es) [] pos) (tCall sp dvs E t) := by
  intro pins s σ H Q I h
  refine wpAny_Call_Name_kw (ld_glob I hg hm ?_ hdb)
  refine PySem.W.callWith_K (h₀ := X.base) I.ok.mod.kin hk (thn (ha pos pins s σ H _ I h) fun us s1 ⟨vs, H1, I1, r, q⟩ => ⟨I1.kIn, ?_⟩) he hpl
  exact run_fn F hr hb hd hx I1 r q
/-- o.m(e, ..) -/
theorem pe_meth {pl : Sem Bool} (he : PE X o ta) (c : Cls X.K C) (hm : Meth X.K C m f) (F : FnOk X.prog X.w X.K X.mg X.base CX k f fd ps sp) (hr : Room k X.A) (hb : Binds X.K fd ps ds) (hd : Vals dvs ds) (hx : Passes CX X E) (ha : PA X (e :: es) t)
    (hst : starEach (e :: es) X.env = (false, eval e X.env) :: starEach es X.env := by rfl) (hpl : (backTo pos (starEach es X.env)).any (·.1) = false := by rfl)
    (ht : eval (.Call (.Attribute o m apos) (e :: es) [] pos) X.env = (do
      let ov ← eval o X.env
      standAt apos.atName
      let (f, first) ← holding [ov] (getMethod ov m pl)
      callWith pos f first (backTo pos (starEach (e :: es) X.env)) (backToKw pos (keywordEach [] X.env))) := by rfl) :
    PE X (.Call (.Attribute o m apos) (e :: es) [] pos) (tMeth C m sp dvs E ta t) := by
  intro pins s σ H Q I h
  refine PySem.W.methodCall_KW (pl := pl) (thn (he pins s σ H _ I h) fun u s1 ⟨x, H1, I1, rx, a, dx, fs, ex, ea, l, q⟩ => ?_) ht
  subst ex
  obtain rfl : u = Value.ref a := rx
  refine getmeth_ok I1 ea c hm l ?_
  refine PySem.W.callWith_K (first := [.ref a]) (h₀ := X.base) I.ok.mod.kin hm.kp (thn (ha pos pins s1 σ H1 _ I1 q) fun us s2 ⟨vs, H2, I2, r, q2⟩ => ⟨I2.kIn, ?_⟩) hst hpl
  exact run_fn (us := .ref a :: us) (vs := .ref a :: vs) F hr hb hd hx I2 (.cons rfl r) q2
/-- o.m() -/
theorem pe_meth0 {pl : Sem Bool} (he : PE X o ta) (c : Cls X.K C) (hm : Meth X.K C m f) (F : FnOk X.prog X.w X.K X.mg X.base CX k f fd ps sp) (hr : Room k X.A) (hb : Binds X.K fd ps ds) (hd : Vals dvs ds) (hx : Passes CX X E)
    (ht : eval (.Call (.Attribute o m apos) [] [] pos) X.env = (do
      let ov ← eval o X.env
      standAt apos.atName
      let (f, first) ← holding [ov] (getMethod ov m pl)
      callWith pos f first (backTo pos (starEach [] X.env)) (backToKw pos (keywordEach [] X.env))) := by rfl) :
    PE X (.Call (.Attribute o m apos) [] [] pos) (tMeth C m sp dvs E ta tNil) := by
  intro pins s σ H Q I h
  refine PySem.W.methodCall_KW (pl := pl) (thn (he pins s σ H _ I h) fun u s1 ⟨x, H1, I1, rx, a, dx, fs, ex, ea, l, q⟩ => ?_) ht
  subst ex
  obtain rfl : u = Value.ref a := rx
  refine getmeth_ok I1 ea c hm l ?_
  exact PySem.W.callWith_K0 (first := [.ref a]) I1.kIn hm.kp (run_fn (us := [.ref a]) (vs := [.ref a]) F hr hb hd hx I1 (.cons rfl .nil) q)

/-- what a class must have to be made -/
structure Mk (K : PySem.W.Frag) (C f : Addr) : Prop where
  makes : PySem.W.makesIn K C = true
  init : PySem.W.findIn K (.ref C) "__init__" = some (some (.ref f))
  fn : PySem.W.isFn K (.ref f) = true
  kp : PySem.W.keepIn K (.ref C) = true

theorem run_make {pins : List (Addr × Obj)} {σ : St} {H : Hp} {s : Shared} {Q : VK} {us : List Value} {vs : List V} (M : Mk X.K C f) (F : FnOk X.prog X.w X.K X.mg X.base CX k f fd ps sp) (hr : Room (k + 1) X.A) (hb : Binds X.K fd ps ds) (hd : Vals dvs ds)
    (hx : Passes CX X E) (I : Inv X pins σ H s) (r : Vals vs us)
    (h : ∀ x dx, H x = none → H dx = none → dx ≠ x → sp (.ref x :: (vs ++ dvs)) (upd (upd H dx (.own x)) x (.ins C dx [])) (fun v H2 => v = .non ∧ Q (.ref x) H2) E) :
    wpAny (model X.prog X.w) X.A (call (.ref C) us) (EP X pins σ Q) X.xe s := by
  have hq := h (s.heap.objs.size + 1) s.heap.objs.size (I.hok.fresh (Nat.le_succ _)) (I.hok.fresh (Nat.le_refl _)) (Nat.ne_of_lt (Nat.lt_succ_self _))
  have I2 := Inv.made (C := C) I
  have r2 : Vals (V.ref (s.heap.objs.size + 1) :: (vs ++ dvs)) (Value.ref (s.heap.objs.size + 1) :: (us ++ ds)) := .cons rfl (r.append hd)
  have hl : (Value.ref (s.heap.objs.size + 1) :: us ++ ds).length = ps.length := by
    have e := r2.length
    rw [F.len _ _ _ _ hq] at e
    exact e.symm
  refine wpAny_call (make_map (f := f) I.kIn M.makes M.init (beq_iff_eq.mp M.fn) (codeAny_mono (F.run _ X.stack _ _ ⟨Value.ref (s.heap.objs.size + 1) :: us, []⟩ (Value.ref (s.heap.objs.size + 1) :: (us ++ ds)) _ _ E (hr.make C us [])
    (I2.env0.make C us []) (hb _ (Value.ref (s.heap.objs.size + 1) :: us) I2.kIn hl) r2 hq) fun r s' hq' => ?_))
  cases r with
  | error e => exact hx pins σ _ _ e s' I2 hq'
  | ok fl =>
    cases fl with
    | ret u =>
      obtain ⟨v, H', I3, rv, ev, q3⟩ := I2.after hq'
      subst ev
      exact ⟨rv, ⟨V.ref (s.heap.objs.size + 1), H', I3, rfl, q3⟩⟩
    | next => exact False.elim hq'
    | brk => exact False.elim hq'
    | cont => exact False.elim hq'
theorem pe_make (M : Mk X.K C f) (F : FnOk X.prog X.w X.K X.mg X.base CX k f fd ps sp) (hr : Room (k + 1) X.A) (hg : Gl X x) (hm : X.mg x = some (.ref C)) (hb : Binds X.K fd ps ds) (hd : Vals dvs ds) (hx : Passes CX X E)
    (ha : PA X (e :: es) t) (hdb : (x == ("__debug__" : Str)) = false := by decide) (he : starEach (e :: es) X.env = (false, eval e X.env) :: starEach es X.env := by rfl) (hpl : (backTo pos (starEach es X.env)).any (·.1) = false := by rfl) :
    PE X (.Call (.Name x p) (e :: es) [] pos) (tMake C sp dvs E t) := by
  intro pins s σ H Q I h
  refine wpAny_Call_Name_kw (ld_glob I hg hm ?_ hdb)
  refine PySem.W.callWith_K (h₀ := X.base) I.ok.mod.kin M.kp (thn (ha pos pins s σ H _ I h) fun us s1 ⟨vs, H1, I1, r, q⟩ => ⟨I1.kIn, ?_⟩) he hpl
  exact run_make M F hr hb hd hx I1 r q
end

/-! ### keywords -/
section
variable {X : Cx} {CX : CXT} {k : Nat} {f C : Addr} {fd : FuncData} {ps ks : List Str} {sp : Sp} {E : XK} {x m : Str} {p pos apos kpos : Pos} {e o : Expr} {es : List Expr} {kws : List Keyword} {te ta : TE} {t tk : TA} {nm : Option Str}
/-- how a call with keywords binds: g puts the positional values us and the keywords' values ws (names ks) in the parameters' order, defaults among them -/
structure KBinds (K : PySem.W.Frag) (fd : FuncData) (ps ks : List Str) (g : List Value → List Value → List Value) (gV : List V → List V → List V) : Prop where
  to : ∀ (s : Shared) (us ws : List Value), K.In s.heap → (g us ws).length = ps.length → BindsTo s fd ⟨us, ks.zip ws⟩ (ps.zip (g us ws))
  rel : ∀ {vs : List V} {us : List Value} {zs : List V} {ws : List Value}, Vals vs us → Vals zs ws → Vals (gV vs zs) (g us ws)
variable {g : List Value → List Value → List Value} {gV : List V → List V → List V}
end

/-! ### a def's body keeps its promise -/
/-- names: the parameters first -/
structure FnScope (N P : List Str) (sc : Scope) : Prop where
  kind : sc.kind = .function
  co : sc.isCoroutine = false
  gen : sc.isGenerator = false
  nd : N.Nodup
  pre : N.take P.length = P
  par : ∀ x ∈ P, sc.names.lookup x = some .local ∨ sc.names.lookup x = some .cell
  nofree : ∀ y ∈ sc.names, y.2 ≠ .free

theorem bindL_out {kindOf : Str → Option NameKind} {x : Str} : ∀ {binds : List (Str × Value)} {m : Str → Option Value}, (∀ v, (x, v) ∉ binds) → bindL kindOf binds m x = m x
  | [], _, _ => rfl
  | (n, v) :: r, m, h => by
    unfold bindL
    rw [bindL_out fun w hw => h w (List.mem_cons_of_mem _ hw)]
    split
    · have : x ≠ n := by rintro rfl; exact h v List.mem_cons_self
      simp [this]
    · rfl
theorem bindC_out {kindOf : Str → Option NameKind} {x : Str} : ∀ {binds : List (Str × Value)} {m : Str → Option Value}, (∀ v, (x, v) ∉ binds) → bindC kindOf binds m x = m x
  | [], _, _ => rfl
  | (n, v) :: r, m, h => by
    unfold bindC
    rw [bindC_out fun w hw => h w (List.mem_cons_of_mem _ hw)]
    split
    · rfl
    · have : x ≠ n := by rintro rfl; exact h v List.mem_cons_self
      simp [this]
theorem bindL_get {kindOf : Str → Option NameKind} {x : Str} {v : Value} : ∀ {P : List Str} {vs : List Value} {i : Nat} {m : Str → Option Value}, P.Nodup → P[i]? = some x → vs[i]? = some v → kindOf x = some .local →
    bindL kindOf (P.zip vs) m x = some v
  | [], _, _, _, _, h, _, _ => by simp at h
  | _ :: _, [], _, _, _, _, h, _ => by simp at h
  | p :: P, w :: vs, 0, m, nd, h1, h2, hk => by
    simp at h1 h2; subst h1; subst h2
    show bindL kindOf ((p, w) :: P.zip vs) m p = _
    unfold bindL
    rw [bindL_out fun v hv => (List.nodup_cons.mp nd).1 (List.of_mem_zip hv).1, if_pos hk]
    simp
  | p :: P, w :: vs, i + 1, m, nd, h1, h2, hk => by
    show bindL kindOf ((p, w) :: P.zip vs) m x = _
    unfold bindL
    exact bindL_get (i := i) (List.nodup_cons.mp nd).2 (by simpa using h1) (by simpa using h2) hk
theorem bindC_get {kindOf : Str → Option NameKind} {x : Str} {v : Value} : ∀ {P : List Str} {vs : List Value} {i : Nat} {m : Str → Option Value}, P.Nodup → P[i]? = some x → vs[i]? = some v → kindOf x ≠ some .local →
    bindC kindOf (P.zip vs) m x = some v
  | [], _, _, _, _, h, _, _ => by simp at h
  | _ :: _, [], _, _, _, _, h, _ => by simp at h
  | p :: P, w :: vs, 0, m, nd, h1, h2, hk => by
    simp at h1 h2; subst h1; subst h2
    show bindC kindOf ((p, w) :: P.zip vs) m p = _
    unfold bindC
    rw [bindC_out fun v hv => (List.nodup_cons.mp nd).1 (List.of_mem_zip hv).1, if_neg hk]
    simp
  | p :: P, w :: vs, i + 1, m, nd, h1, h2, hk => by
    show bindC kindOf ((p, w) :: P.zip vs) m x = _
    unfold bindC
    exact bindC_get (i := i) (List.nodup_cons.mp nd).2 (by simpa using h1) (by simpa using h2) hk

/-- the names' values at the entry -/
def start (N : List Str) (vs : List V) : St := vs.map some ++ List.replicate (N.length - vs.length) none

/-- the context of a def's body, at its entry; an exception leaves the frame, then lies as CX says -/
def cxOf (CX : CXT) (P : Program) (w : World) (K : PySem.W.Frag) (mg : Str → Option Value) (base : Heap) (N : List Str) (qual : Str) (scope : Scope) (f : Addr) (cd : Value) (A : Around) (outer : List Env) (s : Shared) (H : Hp) (E : XK) : Cx where
  prog := P
  w := w
  K := K
  mg := mg
  base := base
  A := A.deeper (envOfC qual scope s.heap.objs.size f cd)
  N := N
  s₀ := s
  H₀ := H
  env := envOfC qual scope s.heap.objs.size f cd
  outer := outer
  stack := envOfC qual scope s.heap.objs.size f cd :: outer
  ex := []
  calm := true
  fn := fun _ => true
  pn := []
  xe := fun e s' => wpAny (model P w) (A.deeper (envOfC qual scope s.heap.objs.size f cd)) (leaving (envOfC qual scope s.heap.objs.size f cd) e) (fun _ s'' => CX outer H s E e s'') (fun e' s'' => CX outer H s E e' s'') s'

theorem cell_has {sc : Scope} {n : Nat} {x : Str} (h : sc.names.lookup x = some .cell) : ∃ c, (cellsFrom n sc.names []).lookup x = some c := by
  have q := PySem.W.cellsFrom_some sc.names n [] (.inl h)
  exact Option.isSome_iff_exists.mp q

theorem inv_start {CX : CXT} {P : Program} {w : World} {K : PySem.W.Frag} {mg : Str → Option Value} {base : Heap} {N ps : List Str} {qual : Str} {scope : Scope} {f : Addr} {cd : Value} {A : Around} {outer : List Env} {s s1 : Shared} {H : Hp} {E : XK} {us : List Value} {vs : List V}
    (S : FnScope N ps scope) (hd : A.handled = none) (e0 : Env0 P w K mg base A outer s H) (hl : vs.length = ps.length) (r : Vals vs us)
    (x : InCallC s s.heap.objs.size (bindL (envOfC qual scope s.heap.objs.size f cd).kindOf (ps.zip us) fun _ => none) (cellsFrom (s.heap.objs.size + 1) scope.names []) (bindC (envOfC qual scope s.heap.objs.size f cd).kindOf (ps.zip us) fun _ => none) s1) :
    Inv (cxOf CX P w K mg base N qual scope f cd A outer s H E) [] (start N vs) H s1 := by
  have hpl : ps.length ≤ N.length := by have := congrArg List.length S.pre; rw [List.length_take] at this; omega
  obtain ⟨h1, tk, rfl, hk⟩ := x.done
  have noA : ∀ b : Addr, b ∉ (cxOf CX P w K mg base N qual scope f cd A outer s H E).ex := fun b z => absurd (show b ∈ ([] : List Addr) from z) (by simp)
  refine ⟨⟨e0.mod, S.kind, rfl, rfl, Nat.le_refl _, fun y z c h1 h2 => ?_, fun y hy => ?_, fun y c _ h => ?_, fun _ => hd, Around.frames_deeper e0.frames, .inr ⟨rfl, rfl⟩, fun b z => absurd z (noA b), e0.bs, e0.bsz, fun b _ _ => noA b, fun b z => absurd z (noA b), e0.funs, e0.frf⟩,
    rfl, e0.bare, Un.kept hk, ⟨_, x.toInCall.ns, fun i y v h1 h2 h3 => ?_⟩, fun y c h => ⟨_, x.cell y c h⟩, e0.hok.fresh (Nat.le_refl _), fun y c h => ?_, fun p hp => absurd (show p ∈ ([] : List (Addr × Obj)) from hp) (by simp), e0.hok.kept hk, ?_⟩
  · exact name_of_addr x.apart (PySem.mem_of_lookup h1) (PySem.mem_of_lookup h2)
  · have hy : scope.names.lookup y = some .cell ∨ scope.names.lookup y = some .free := hy
    rcases hy with hy | hy
    · exact cell_has hy
    · exact absurd rfl (S.nofree _ (PySem.mem_of_lookup hy))
  · exact Nat.le_of_lt (x.above y c (PySem.mem_of_lookup h))
  · have hi : i < vs.length := by
      unfold start at h2
      by_cases hi : i < vs.length
      · exact hi
      · rw [List.getElem?_append_right (by simpa using hi)] at h2
        rw [List.getElem?_replicate] at h2
        split at h2 <;> cases h2
    have ha : vs[i]? = some v := by
      unfold start at h2
      rw [List.getElem?_append_left (by simpa using hi), List.getElem?_map] at h2
      cases e : vs[i]? with
      | none => rw [e] at h2; cases h2
      | some a => rw [e] at h2; cases h2; rfl
    obtain ⟨u, hu, rv⟩ := r.get ha
    have hp : ps[i]? = some y := by
      rw [← S.pre, List.getElem?_take_of_lt (by omega)]; exact h1
    have ndP : ps.Nodup := by rw [← S.pre]; exact S.nd.sublist (List.take_sublist _ _)
    refine ⟨u, rv, ?_⟩
    rcases S.par y (List.mem_of_getElem? hp) with k | k
    · exact .inl ⟨k, bindL_get ndP hp hu k⟩
    · obtain ⟨c, e⟩ := cell_has (n := s.heap.objs.size + 1) k
      refine .inr ⟨.inl k, c, e, ?_⟩
      have q := x.cell y c e
      rw [bindC_get ndP hp hu (by show scope.names.lookup y ≠ _; rw [k]; decide)] at q
      exact q
  · exact e0.hok.fresh (Nat.le_of_lt (x.above y c (PySem.mem_of_lookup h)))
  · unfold start
    show _ = N.length
    rw [List.length_append, List.length_map, List.length_replicate]
    omega

/-- THE RULE: a def (or a method) of the text, by its body. The body's reading t is chosen for each entry; it is run at the parameters' values -/
theorem fn_of {CX : CXT} {P : Program} {w : World} {K : PySem.W.Frag} {mg : Str → Option Value} {base : Heap} {k : Nat} {f : Addr} {name qual : Str} {params : Arguments} {body : List Stmt} {scope : Scope} {dV kV doc pm cdv ct oc : Value} {an od : Option Addr}
    {osl : Array (Option Value)} {N ps : List Str} {sp : Sp} (lk : K.lookup f = some ⟨oc, od, .func (PySem.W.fnOf name qual params body scope dV kV doc pm an cdv ct), osl⟩) (hcd : PySem.W.codeIn K cdv qual = true) (S : FnScope N ps scope)
    (len : ∀ vs H Q E, sp vs H Q E → vs.length = ps.length)
    (hbody : ∀ (A : Around) (outer : List Env) (s : Shared) (H : Hp) (vs : List V) (Q : VK) (E : XK), Room k (A.deeper (envOfC qual scope s.heap.objs.size f cdv)) → sp vs H Q E →
      ∃ t, PSs (cxOf CX P w K mg base N qual scope f cdv A outer s H E) body t ∧ t { nx := fun _ H' => Q .non H', rt := Q } (start N vs) H) :
    FnOk P w K mg base CX (k + 1) f (PySem.W.fnOf name qual params body scope dV kV doc pm an cdv ct) ps sp := by
  refine ⟨len, fun A outer s H args us vs Q E hr e0 hb r hsp => ?_⟩
  have hl := len _ _ _ _ hsp
  have KX : K.In s.heap := e0.mod.kin.keeps fun b o e => (e0.bs b o e).1
  have lim : s.heap.NoLimit := e0.mod.nolimit.keeps fun b o e => (e0.bs b o e).1
  have hkind : ∀ y ∈ ps.zip us, scope.names.lookup y.1 = some .local ∨ (scope.names.lookup y.1 = some .cell ∧ ((cellsFrom (s.heap.objs.size + 1) scope.names []).lookup y.1).isSome = true) := fun ⟨n, v⟩ hy => by
    rcases S.par n (List.of_mem_zip hy).1 with q | q
    · exact .inl q
    · exact .inr ⟨q, PySem.W.cellsFrom_some _ _ _ (.inl q)⟩
  refine codeAny_call_function hr.depth (KX _ _ lk) rfl S.co S.gen rfl (PySem.W.codeRec_of KX hcd) (hb _ _ _ _ ?_)
  refine wpAny_newFunctionEnv_cells S.kind hkind fun env he s1 x => ?_
  subst he
  refine ⟨lim.keeps x.toInCall.keep, codeAny_func ?_⟩
  obtain ⟨t, ht, hq⟩ := hbody A outer s H vs Q E (hr.deeper _) hsp
  have I : Inv (cxOf CX P w K mg base N qual scope f cdv A outer s H E) [] (start N vs) H s1 := inv_start S hr.hd e0 hl r x
  refine wpAny_mono (ht [] s1 (start N vs) H _ I hq) (fun fl s' hs => ?_) fun e s' hs => hs
  have fin : ∀ {σ' : St} {H' : Hp} {v : V} {u : Value}, Inv (cxOf CX P w K mg base N qual scope f cdv A outer s H E) [] σ' H' s' → RelV v u → Q v H' → CE outer P w H s Q u s' :=
    fun {σ' H' v u} J rv q => ⟨v, H', J.os, J.bare, J.base, J.hok, rv, q⟩
  cases fl with
  | ret u =>
    obtain ⟨v, σ', H', J, rv, q⟩ := hs
    exact fin J rv q
  | next =>
    obtain ⟨σ', H', J, q⟩ := hs
    exact fin (v := V.non) (u := Value.none) J rfl q
  | brk =>
    obtain ⟨_, _, _, q⟩ := hs
    exact False.elim q
  | cont =>
    obtain ⟨_, _, _, q⟩ := hs
    exact False.elim q
end L2

namespace L2
open PySem PySem.Spec PyProof.Rows
section
variable {X : Cx} {x : Str} {p pos : Pos} {e : Expr} {es : List Expr} {t : TA} {id T : String} {r : List V → Hp → VK → Prop}

def tCB (r : List V → Hp → VK → Prop) (t : TA) : TE := fun σ H Q => t σ H fun vs H1 => r vs H1 Q
/-- f(e, ..), f a built-in function -/
theorem pe_callB (hc : CallR X (.builtin id) r) (hg : Gl X x) (hm : X.mg x = none) (hv : bootBuiltins x = some (.builtin id)) (ha : PA X (e :: es) t) (hn : x ≠ "__name__" := by decide) (hdb : (x == ("__debug__" : Str)) = false := by decide)
    (he : starEach (e :: es) X.env = (false, eval e X.env) :: starEach es X.env := by rfl) (hpl : (backTo pos (starEach es X.env)).any (·.1) = false := by rfl) : PE X (.Call (.Name x p) (e :: es) [] pos) (tCB r t) := by
  intro pins s σ H Q I h
  refine wpAny_Call_Name_kw (ld_blt I hg hm hv ?_ hn hdb)
  exact PyProof.Rows.callWith_builtin1 (thn (ha pos pins s σ H _ I h) fun us s1 ⟨vs, H1, I1, r1, q1⟩ => hc pins s1 σ H1 vs us Q I1 r1 q1) he hpl
/-- T(e, ..), T a built-in type -/
theorem pe_callTy (hc : CallR X (.type T) r) (hg : Gl X x) (hm : X.mg x = none) (hv : bootBuiltins x = some (.type T)) (ha : PA X (e :: es) t) (hn : x ≠ "__name__" := by decide) (hdb : (x == ("__debug__" : Str)) = false := by decide)
    (he : starEach (e :: es) X.env = (false, eval e X.env) :: starEach es X.env := by rfl) (hpl : (backTo pos (starEach es X.env)).any (·.1) = false := by rfl) : PE X (.Call (.Name x p) (e :: es) [] pos) (tCB r t) := by
  intro pins s σ H Q I h
  refine wpAny_Call_Name_kw (ld_blt I hg hm hv ?_ hn hdb)
  exact PyProof.Rows.callWith_type1 (thn (ha pos pins s σ H _ I h) fun us s1 ⟨vs, H1, I1, r1, q1⟩ => hc pins s1 σ H1 vs us Q I1 r1 q1) he hpl
end
end L2

namespace HT
open PySem PyProof.Rows

section
open PySem.SeqAt
open PySem.AutoSeq1 (wpAny_loadPart')
open PySem.MeetsSeq PySem.MeetsSeq2 PySem.MeetsSeq3

end

section
variable {prog : Program} {w : World} {A : Around} {E : Value → Shared → Prop} {s : Shared}

/-! ### t[a:b], not the whole -/
/-- a slice's bound as a place among n (d where it is left out) -/
def sIx (n d : Nat) : Option Int → Nat
  | none => d
  | some v => if v < 0 then (v + (n : Int)).toNat else min v.toNat n
theorem sIx_le (n d : Nat) (hd : d ≤ n) (o : Option Int) : sIx n d o ≤ n := by
  cases o with
  | none => exact hd
  | some v =>
    show (if v < 0 then (v + (n : Int)).toNat else min v.toNat n) ≤ n
    by_cases hv : v < 0
    · rw [if_pos hv]; omega
    · rw [if_neg hv]; exact Nat.min_le_right _ _
theorem clip_eq (v : Int) (n d : Nat) : (if v < 0 then max (v + (n : Int)) 0 else min v (n : Int)) = ((sIx n d (some v) : Nat) : Int) := by
  show (if v < 0 then max (v + (n : Int)) 0 else min v (n : Int)) = (((if v < 0 then (v + (n : Int)).toNat else min v.toNat n) : Nat) : Int)
  by_cases hv : v < 0
  · simp only [if_pos hv]; omega
  · simp only [if_neg hv]; omega
theorem adjust_gen (lo hi : Option Int) (n : Nat) : Builtin.Slice.sliceAdjust lo hi 1 (n : Int) = (((sIx n 0 lo : Nat) : Int), ((sIx n n hi : Nat) : Int)) := by
  have h1 : ¬ ((1 : Int) < 0) := by omega
  unfold Builtin.Slice.sliceAdjust
  simp only [h1, if_false]
  refine Prod.ext ?_ ?_
  · cases lo with
    | none => rfl
    | some v => exact clip_eq v n 0
  · cases hi with
    | none => rfl
    | some v => exact clip_eq v n n
theorem places_gen (i j : Nat) : Builtin.Slice.slicePlaces (i : Int) (j : Int) 1 = j - i := by
  unfold Builtin.Slice.slicePlaces
  have h1 : (1 : Int) > 0 := by omega
  simp only [h1, if_true, Int.ediv_one]
  split <;> omega
theorem slicePart_ {v : Value} {o : Option Int} {Q : Option Int → Shared → Prop} (p : IsPart v o) (h : Q o s) : wpAny (model prog w) A (Builtin.Slice.slicePartIndex v) Q E s := by
  cases p with
  | none => exact slicePart_none h
  | int i t => exact slicePart_int h
theorem sliceApplied_gen {sl : Addr} {vl vu : Value} {lo hi : Option Int} {n : Nat} {Q : Int × Int × Nat → Shared → Prop} (hs : s.heap.IsSliceOf sl vl vu .none) (pl : IsPart vl lo) (pu : IsPart vu hi)
    (h : Q (((sIx n 0 lo : Nat) : Int), 1, sIx n n hi - sIx n 0 lo) s) : wpAny (model prog w) A (Builtin.Slice.sliceApplied (.ref sl) (pure (n : Int))) Q E s := by
  obtain ⟨os, hos, hcs, hds⟩ := id hs
  unfold Builtin.Slice.sliceApplied Builtin.Slice.sliceFields
  refine wpAny_bind (wpAny_bind (wpAny_field hos hds (x := vl) rfl (wpAny_bind (wpAny_field hos hds (x := vu) rfl (wpAny_bind (wpAny_field hos hds (x := .none) rfl (wpAny_pure ?_)))))))
  refine wpAny_bind (slicePart_none ?_)
  show wpAny _ _ (if ((1 : Int) == 0) = true then _ else _) _ _ s
  rw [if_neg (by decide)]
  refine wpAny_bind (slicePart_ pl (wpAny_bind (slicePart_ pu (wpAny_bind (wpAny_pure ?_)))))
  show wpAny _ _ (match Builtin.Slice.sliceAdjust lo hi 1 (n : Int) with | (lo, hi) => pure (lo, (1 : Int), Builtin.Slice.slicePlaces lo hi 1)) _ _ s
  rw [adjust_gen lo hi n]
  show wpAny _ _ (pure (((sIx n 0 lo : Nat) : Int), (1 : Int), Builtin.Slice.slicePlaces ((sIx n 0 lo : Nat) : Int) ((sIx n n hi : Nat) : Int) 1)) _ _ s
  rw [places_gen]
  exact wpAny_pure h
theorem pick_gen (xs : Array Value) (i k : Nat) : ((List.range k).filterMap fun (m : Nat) => xs[((i : Int) + (m : Int) * 1).toNat]?).toArray = ((xs.toList.drop i).take k).toArray := by
  have e : (fun (m : Nat) => xs[((i : Int) + (m : Int) * 1).toNat]?) = fun m => xs[i + m]? := by
    funext m
    have : ((i : Int) + (m : Int) * 1).toNat = i + m := by omega
    rw [this]
  rw [e]
  have := pick_run xs i k
  rw [List.filterMap_map] at this
  have e2 : ((fun x => xs[x]?) ∘ fun x => i + x) = fun m => xs[i + m]? := rfl
  rw [e2] at this
  rw [this]

theorem getItem_tuple_cut {t sl : Addr} {items : Array Value} {vl vu : Value} {lo hi : Option Int} {Q : Value → Shared → Prop} (ht : IsTup s.heap t items) (hs : s.heap.IsSliceOf sl vl vu .none) (pl : IsPart vl lo) (pu : IsPart vu hi)
    (hw : ¬ (sIx items.size 0 lo = 0 ∧ sIx items.size items.size hi = items.size))
    (h : Q (.ref s.heap.objs.size) { s with heap := s.heap.push { cls := .type "tuple", data := .seq ((items.toList.drop (sIx items.size 0 lo)).take (sIx items.size items.size hi - sIx items.size 0 lo)).toArray } })
    (hsz : items.size ≤ sizeLine) : wpAny (model prog w) A (getItem (.ref t) (.ref sl)) Q E s := by
  have htake : sizeOk (.seq ((items.toList.drop (sIx items.size 0 lo)).take (sIx items.size items.size hi - sIx items.size 0 lo)).toArray) := by
    show ((items.toList.drop (sIx items.size 0 lo)).take (sIx items.size items.size hi - sIx items.size 0 lo)).toArray.size ≤ sizeLine
    rw [List.size_toArray, List.length_take, List.length_drop, Array.length_toList]
    omega
  have hj : sIx items.size items.size hi ≤ items.size := sIx_le _ _ (Nat.le_refl _) hi
  obtain ⟨os, hos, hcs, hds⟩ := id hs
  have hTs : s.TypeIs (.ref sl) "slice" := ⟨os, hos, hcs⟩
  unfold getItem
  try with_reducible refine wpAny_holding ?_
  first | refine wpAny_bind (wpAny_pure ?_) | skip
  refine wpAny_bind (wpAny_sequenceKey ht.typeIs (by decide) ?_)
  refine wpAny_bind (wpAny_callSpecial?_slot (name := Str.ofString "__getitem__") ht.typeIs PyProof.Rows.slot_tuple_getitem
    (wpAny_call_entry PyProof.Rows.slot_tuple_getitem ht.typeIs entry_tuple_getitem ?_ (args_tuple_getitem _ _)))
  show wpAny _ _ (Builtin.Tuple.tupleItemsOf (.ref t) >>= _) _ _ s
  refine wpAny_bind (tupleItemsOf_ ht ?_)
  refine wpAny_bind (wpAny_typeOf hTs ?_)
  rw [if_pos (by decide)]
  refine wpAny_bind (sliceApplied_gen hs pl pu ?_)
  have hno : ¬ ((((sIx items.size 0 lo : Nat) : Int) == 0 && (1 : Int) == 1 && (sIx items.size items.size hi - sIx items.size 0 lo) == items.size) = true) := by
    intro q
    rw [Bool.and_eq_true, Bool.and_eq_true] at q
    have q1 : ((sIx items.size 0 lo : Nat) : Int) = 0 := eq_of_beq q.1.1
    have q2 : sIx items.size items.size hi - sIx items.size 0 lo = items.size := eq_of_beq q.2
    exact hw ⟨by omega, by omega⟩
  show wpAny _ _ (if (((sIx items.size 0 lo : Nat) : Int) == 0 && (1 : Int) == 1 && (sIx items.size items.size hi - sIx items.size 0 lo) == items.size) = true then _ else _) _ _ s
  rw [if_neg hno, pick_gen]
  first
    | exact wpAny_bind (m := Builtin.Tuple.tupleExact _) (wpAny_newObj_type (wpAny_pure ⟨_, rfl, wpAny_pure h⟩) htake)
    | exact wpAny_bind (m := Builtin.Tuple.tupleExact _) (wpAny_newObj_type (wpAny_bind (wpAny_pure (wpAny_pure ⟨_, rfl, wpAny_pure h⟩))) htake)
    | exact wpAny_bind (wpAny_bind (m := Builtin.Tuple.tupleExact _) (wpAny_newObj_type (wpAny_pure (wpAny_pure ⟨_, rfl, wpAny_pure h⟩)) htake))
    | exact wpAny_bind (wpAny_bind (m := Builtin.Tuple.tupleExact _) (wpAny_newObj_type (wpAny_pure ⟨_, rfl, wpAny_pure h⟩) htake))
end
end HT

namespace L2
open PySem PySem.Spec PyProof.Rows

/-! ### the parts of a slice -/
abbrev TO := St → Hp → (Option Int → Hp → Prop) → Prop
/-- a slice's part (left out, or an int) -/
def PO (X : Cx) (e : Option Expr) (t : TO) : Prop :=
  ∀ (pins : List (Addr × Obj)) (s : Shared) (σ : St) (H : Hp) (Q : Option Int → Hp → Prop), Inv X pins σ H s → t σ H Q →
    wpAny (model X.prog X.w) X.A (evalPart e X.env) (fun u s' => ∃ o H', Inv X pins σ H' s' ∧ IsPart u o ∧ Q o H') X.xe s
def tNoPart : TO := fun _ H Q => Q none H
def tPart (t : TE) : TO := fun σ H Q => t σ H fun x H1 => ∃ i, x = .int i ∧ Q (some i) H1

theorem intsAre_of {ns : List Int} : ∀ {us : List Value}, Vals (ns.map V.int) us → IntsAre us ns := by
  induction ns with
  | nil => intro us r; rw [List.map_nil] at r; cases r; exact .nil
  | cons n ns ih =>
    intro us r
    rw [List.map_cons] at r
    cases r with
    | cons r1 r2 =>
      obtain ⟨t, e⟩ := r1
      subst e
      exact .cons n t (ih r2)

section
variable {X : Cx} {e : Expr} {te : TE} {lo hi : Option Expr} {tl th : TO} {pos p2 : Pos}

theorem po_none : PO X none tNoPart := by
  intro pins s σ H Q I h
  rw [evalPart_none]
  exact wpAny_pure ⟨none, H, I, .none, h⟩
theorem po_some (h : PE X e te) : PO X (some e) (tPart te) := by
  intro pins s σ H Q I hw
  rw [evalPart_some]
  refine thn (h pins s σ H _ I hw) fun u s1 ⟨x, H1, I1, r1, q1⟩ => ?_
  obtain ⟨i, rfl, q⟩ := q1
  obtain ⟨t, rfl⟩ := r1
  exact ⟨some i, H1, I1, .int i t, q⟩

/-- what a slice of a value is, by values: the slice object stands at sl -/
def SlR (X : Cx) (r : V → Option Int → Option Int → Hp → VK → Prop) : Prop :=
  ∀ (pins : List (Addr × Obj)) (s : Shared) (σ : St) (H : Hp) (x : V) (v vl vu : Value) (lo hi : Option Int) (sl : Addr) (Q : VK), Inv X pins σ H s → RelV x v → s.heap.IsSliceOf sl vl vu .none → IsPart vl lo → IsPart vu hi → r x lo hi H Q →
    ∃ T id, typeLookup (.type T) "__getitem__" = pure (some (.builtin id)) ∧ s.TypeIs v T ∧ wpAny (model X.prog X.w) X.A (getItem v (.ref sl)) (EP X pins σ Q) X.xe s
theorem SlR.or {r r' : V → Option Int → Option Int → Hp → VK → Prop} (h : SlR X r) (h' : SlR X r') : SlR X (fun x lo hi H Q => r x lo hi H Q ∨ r' x lo hi H Q) := by
  intro pins s σ H x v vl vu lo hi sl Q I rx hs pl pu q
  rcases q with q | q
  · exact h pins s σ H x v vl vu lo hi sl Q I rx hs pl pu q
  · exact h' pins s σ H x v vl vu lo hi sl Q I rx hs pl pu q
def tSl (r : V → Option Int → Option Int → Hp → VK → Prop) (te : TE) (tl th : TO) : TE := fun σ H Q => te σ H fun x H1 => tl σ H1 fun l H2 => th σ H2 fun u H3 => r x l u H3 Q
/-- a[lo:hi], any a -/
theorem pe_slice {r : V → Option Int → Option Int → Hp → VK → Prop} (hr : SlR X r) (he : PE X e te) (hl : PO X lo tl) (hu : PO X hi th) : PE X (.Subscript e (.Slice lo hi none p2) pos) (tSl r te tl th) := by
  intro pins s σ H Q I h
  refine Subscript_ (thn (he pins s σ H _ I h) fun v s1 ⟨x, H1, I1, r1, q1⟩ => ?_)
  refine wpAny_Slice (thn (hl pins s1 σ H1 _ I1 q1) fun vl s2 ⟨l, H2, I2, pl, q2⟩ => thn (hu pins s2 σ H2 _ I2 q2) fun vu s3 ⟨u, H3, I3, pu, q3⟩ => ?_)
  rw [evalPart_none]
  refine wpAny_pure ?_
  have I4 : Inv X pins σ H3 { s3 with heap := s3.heap.push { cls := .type "slice", data := .fields #[vl, vu, .none] } } := I3.kept (t' := s3.toks) fun b ob q => Heap.get?_push_of_some _ q
  obtain ⟨T, id, hT, ht, hg⟩ := hr pins { s3 with heap := s3.heap.push { cls := .type "slice", data := .fields #[vl, vu, .none] } } σ H3 x v vl vu l u s3.heap.objs.size Q I4 r1 (Heap.IsSliceOf.new ..) pl pu q3
  show wpAny (model X.prog X.w) X.A (subscriptTail e (.Slice lo hi none p2) v (.ref s3.heap.objs.size)) (EP X pins σ Q) X.xe { s3 with heap := s3.heap.push { cls := .type "slice", data := .fields #[vl, vu, .none] } }
  exact tail_any (ops := [.ref s3.heap.objs.size, v]) ht hT hg (by with_unfolding_all rfl)

/-- the items of xs[lo:hi] -/
def cutV (xs : List V) (lo hi : Option Int) : List V := (xs.drop (HT.sIx xs.length 0 lo)).take (HT.sIx xs.length xs.length hi - HT.sIx xs.length 0 lo)
theorem cutV_length (xs : List V) (lo hi : Option Int) : (cutV xs lo hi).length ≤ xs.length := by
  unfold cutV
  rw [List.length_take, List.length_drop]
  omega
/-- t[lo:hi], not the whole of it (the whole would be t itself) -/
def rSlT (K : PySem.W.Frag) : V → Option Int → Option Int → Hp → VK → Prop := fun x lo hi H Q => ∃ a xs, x = .ref a ∧ SqT K H a xs ∧
  ¬ (HT.sIx xs.length 0 lo = 0 ∧ HT.sIx xs.length xs.length hi = xs.length) ∧ ∀ p, H p = none → Q (.ref p) (upd H p (.tup (cutV xs lo hi)))
theorem sl_tup : SlR X (rSlT X.K) := by
  intro pins s σ H x v vl vu lo hi sl Q I rx hs pl pu h
  obtain ⟨a, xs, rfl, hx, hw, q⟩ := h
  cases rx
  obtain ⟨its, r, ht, hz⟩ := I.tuple hx
  have hlen : its.toArray.size = xs.length := by rw [List.size_toArray]; exact r.length.symm
  refine ⟨"tuple", _, PyProof.Rows.slot_tuple_getitem.lookup, ht.typeIs, ?_⟩
  refine HT.getItem_tuple_cut ht hs pl pu (by rw [hlen]; exact hw) ?_ (by rw [hlen]; exact hz)
  rw [hlen]
  refine ⟨.ref s.heap.objs.size, _, I.laid (t' := s.toks) (o := .tup (cutV xs lo hi)) (fun b ob q => Heap.get?_push_of_some _ q) (Nat.le_refl _) ?_, rfl, q _ (I.hok.fresh (Nat.le_refl _))⟩
  exact ⟨Nat.le_trans (cutV_length xs lo hi) hz, _, (r.drop (HT.sIx xs.length 0 lo)).take (HT.sIx xs.length xs.length hi - HT.sIx xs.length 0 lo), IsTup.new _ _⟩

/-! ### t < u, t + u -/
end
end L2

namespace L2
open PySem PySem.Spec PyProof.Rows

/-! ### places -/
/-- the place that an index of any sign means -/
def ixN (n : Nat) (i : Int) : Option Nat := if 0 ≤ i then (if i < n then some i.toNat else none) else if -(n : Int) ≤ i then some (i + n).toNat else none
def atI {α : Type} (xs : List α) (i : Int) : Option α := (ixN xs.length i).bind fun j => xs[j]?
theorem ixN_seq {n : Nat} {i : Int} {j : Nat} (h : ixN n i = some j) : seqIndex? i n = some j ∧ j < n ∧ -(n : Int) ≤ i ∧ i < n := by
  unfold ixN at h
  by_cases h0 : 0 ≤ i
  · rw [if_pos h0] at h
    by_cases h1 : i < n
    · rw [if_pos h1] at h
      have e : i.toNat = j := Option.some.inj h
      exact ⟨by rw [seqIndex_of h0 h1, e], by omega, by omega, h1⟩
    · rw [if_neg h1] at h; cases h
  · rw [if_neg h0] at h
    by_cases h1 : -(n : Int) ≤ i
    · rw [if_pos h1] at h
      have e : (i + n).toNat = j := Option.some.inj h
      exact ⟨by rw [seqIndex_neg (by omega) h1, e], by omega, h1, by omega⟩
    · rw [if_neg h1] at h; cases h
theorem atI_get {α : Type} {xs : List α} {i : Int} {v : α} (h : atI xs i = some v) : ∃ j, seqIndex? i xs.length = some j ∧ xs[j]? = some v ∧ j < xs.length ∧ -(xs.length : Int) ≤ i ∧ i < xs.length := by
  unfold atI at h
  cases e : ixN xs.length i with
  | none => rw [e] at h; cases h
  | some j =>
    rw [e] at h
    obtain ⟨h1, h2, h3, h4⟩ := ixN_seq e
    exact ⟨j, h1, h, h2, h3, h4⟩
theorem atI_nat {α : Type} {xs : List α} {j : Nat} {v : α} (h : xs[j]? = some v) : atI xs (j : Int) = some v := by
  have hj : j < xs.length := (List.getElem?_eq_some_iff.mp h).1
  have e : ixN xs.length (j : Int) = some j := by
    unfold ixN
    rw [if_pos (by omega), if_pos (by omega)]; simp
  unfold atI; rw [e]; exact h
theorem atI_last {α : Type} (xs : List α) (v : α) : atI (xs ++ [v]) (-1) = some v := by
  have hl : (xs ++ [v]).length = xs.length + 1 := by simp
  have e : ixN (xs ++ [v]).length (-1) = some xs.length := by
    unfold ixN
    rw [hl, if_neg (by decide), if_pos (by omega)]
    congr 1
    omega
  unfold atI
  rw [e]
  show (xs ++ [v])[xs.length]? = some v
  simp

/-! ### what may be subscripted -/
/-- what stands as an index of a plain subscript -/
def PlainIx (b : Expr) : Prop := ∀ o i, subscripted b false o i = operate [o, i] (getItem o i)
/-- a subscript by values -/
def IxR (X : Cx) (r : R2) : Prop :=
  ∀ (value slice : Expr) (pins : List (Addr × Obj)) (s : Shared) (σ : St) (H : Hp) (x y : V) (v u : Value) (Q : VK), Inv X pins σ H s → RelV x v → RelV y u → r x y H Q →
    subscripted slice false v u = operate [v, u] (getItem v u) → wpAny (model X.prog X.w) X.A (subscriptTail value slice v u) (EP X pins σ Q) X.xe s
/-- a call of a builtin's method by values: the receiver, the arguments -/
def MtR (X : Cx) (id : String) (r : V → List V → Hp → VK → Prop) : Prop :=
  ∀ (pins : List (Addr × Obj)) (s : Shared) (σ : St) (H : Hp) (x : V) (xs : List V) (v : Value) (us : List Value) (Q : VK), Inv X pins σ H s → RelV x v → Vals xs us → r x xs H Q →
    wpAny (model X.prog X.w) X.A (call (.builtin id) (v :: us)) (EP X pins σ Q) X.xe s
section
variable {X : Cx} {a b : Expr} {ta tb : TE} {pos : Pos}
theorem IxR.or {r r' : R2} (h : IxR X r) (h' : IxR X r') : IxR X (fun x y H Q => r x y H Q ∨ r' x y H Q) := by
  intro value slice pins s σ H x y v u Q I rx ry q hs
  rcases q with q | q
  · exact h value slice pins s σ H x y v u Q I rx ry q hs
  · exact h' value slice pins s σ H x y v u Q I rx ry q hs
theorem MtR.or {id : String} {r r' : V → List V → Hp → VK → Prop} (h : MtR X id r) (h' : MtR X id r') : MtR X id (fun x xs H Q => r x xs H Q ∨ r' x xs H Q) := by
  intro pins s σ H x xs v us Q I rx rs q
  rcases q with q | q
  · exact h pins s σ H x xs v us Q I rx rs q
  · exact h' pins s σ H x xs v us Q I rx rs q
/-- a[b] -/
theorem pe_ix {r : R2} (hr : IxR X r) (ha : PE X a ta) (hb : PE X b tb) (hs : PlainIx b) : PE X (.Subscript a b pos) (tOp r ta tb) := by
  intro pins s σ H Q I h
  exact Subscript_ (binT ha hb I h fun v u s2 x y H2 I2 rx ry q => hr a b pins s2 σ H2 x y v u Q I2 rx ry q (hs _ _))

def rIxL (K : PySem.W.Frag) : R2 := fun x y H Q => ∃ p xs i v, x = .ref p ∧ y = .int i ∧ SqL K H p xs ∧ atI xs i = some v ∧ Q v H
def rIxT (K : PySem.W.Frag) : R2 := fun x y H Q => ∃ p xs i v, x = .ref p ∧ y = .int i ∧ SqT K H p xs ∧ atI xs i = some v ∧ Q v H
theorem ix_list : IxR X (rIxL X.K) := by
  intro value slice pins s σ H x y v u Q I rx ry h hs
  obtain ⟨p, xs, i, z, rfl, rfl, hq, he, q⟩ := h
  cases rx
  obtain ⟨t, rfl⟩ := ry
  obtain ⟨its, r, pl, hz⟩ := I.list hq
  obtain ⟨j, h1, h2, h3, h4, h5⟩ := atI_get he
  obtain ⟨w, ew, rw'⟩ := r.get h2
  have hl := r.length
  have hn := line63
  have fin : EP X pins σ Q w s := ⟨z, H, I, rw', q⟩
  by_cases h0 : 0 ≤ i
  · have hj : i.toNat = j := by
      rw [seqIndex_of h0 h5] at h1
      exact Option.some.inj h1
    exact item_listR pl.isList h0 (by omega) (by rw [hj]; simpa using ew) fin hs
  · have hj : (i + (its.toArray.size : Int)).toNat = j := by
      rw [seqIndex_neg (by omega) h4] at h1
      rw [List.size_toArray, ← hl]
      exact Option.some.inj h1
    exact subscriptTail_builtinR (x := w) pl.isList.typeIs slot_list_getitem.lookup
      (wpAny_getItem_list_neg (Q := fun r s' => r = w ∧ EP X pins σ Q r s') pl.isList (by omega) (by rw [List.size_toArray] <;> omega) (by omega) (by rw [hj]; simpa using ew) ⟨rfl, fin⟩) hs
theorem ix_tup : IxR X (rIxT X.K) := by
  intro value slice pins s σ H x y v u Q I rx ry h hs
  obtain ⟨p, xs, i, z, rfl, rfl, hq, he, q⟩ := h
  cases rx
  obtain ⟨t, rfl⟩ := ry
  obtain ⟨its, r, pl, hz⟩ := I.tuple hq
  obtain ⟨j, h1, h2, h3, h4, h5⟩ := atI_get he
  obtain ⟨w, ew, rw'⟩ := r.get h2
  have hl := r.length
  have hn := line63
  have fin : EP X pins σ Q w s := ⟨z, H, I, rw', q⟩
  exact subscriptTail_builtinR (x := w) pl.typeIs slot_tuple_getitem.lookup
    (getItem_tuple (j := j) (Q := fun r s' => r = w ∧ EP X pins σ Q r s') pl (by omega) (by omega) (by rw [List.size_toArray, ← hl]; exact h1) (by simpa using ew) ⟨rfl, fin⟩) hs
/-! ### xs[i] = v, any sign -/
/-- the list's object behind a store -/
theorem mapSeq_set (its : List Value) (n j : Nat) (u : Value) : Obj.mapSeq (·.setIfInBounds j u) { cls := .type "list", data := .seq its.toArray n } = { cls := .type "list", data := .seq (its.set j u).toArray n } := by
  simp [Obj.mapSeq]
theorem Inv.lst {pins : List (Addr × Obj)} {σ : St} {H : Hp} {s : Shared} {p : Addr} {xs : List V} (I : Inv X pins σ H s) (h : H p = some (.lst xs)) :
    ∃ (its : List Value) (n : Nat), Vals xs its ∧ s.heap.get? p = some { cls := .type "list", data := .seq its.toArray n } ∧ xs.length ≤ sizeLine := by
  obtain ⟨z, its, n, r, e⟩ := I.hok p _ h
  exact ⟨its, n, r, e, z⟩
/-- the list at p is written by an update of its object -/
theorem Inv.lstUpd {pins : List (Addr × Obj)} {σ : St} {H : Hp} {s : Shared} {p : Addr} {xs ys : List V} {its its' : List Value} {n n' : Nat} {f : Obj → Obj} (I : Inv X pins σ H s) (h : H p = some (.lst xs))
    (ho : s.heap.get? p = some { cls := .type "list", data := .seq its.toArray n }) (hf : f { cls := .type "list", data := .seq its.toArray n } = { cls := .type "list", data := .seq its'.toArray n' }) (r : Vals ys its') (hz : ys.length ≤ sizeLine) (t : Nat) :
    Inv X pins σ (upd H p (.lst ys)) { s with heap := s.heap.update p f, toks := t } := by
  have e : (s.heap.update p f).get? p = some { cls := .type "list", data := .seq its'.toArray n' } := by
    rw [Heap.get?_update_self f ho (by rw [hf] <;> rfl), hf]
  refine I.write (x := p) (e := p) (by rw [h]; trivial) (.inl rfl) (fun b u hb q => (Heap.get?_update_other _ _ (Ne.symm hb)).trans q) ⟨_, e⟩ ?_
  exact ⟨hz, its', n', r, e⟩
def rSetL : V → V → V → Hp → (Hp → Prop) → Prop := fun o i v H Q => ∃ p xs k j, o = .ref p ∧ i = .int k ∧ H p = some (.lst xs) ∧ ixN xs.length k = some j ∧ Q (upd H p (.lst (xs.set j v)))
theorem set_list : PSet X rSetL := by
  intro pins s σ H o i v ov iv u Q I ro ri rv h
  obtain ⟨p, xs, k, j, rfl, rfl, hp, hj, q⟩ := h
  cases ro
  obtain ⟨t, rfl⟩ := ri
  obtain ⟨its, n, r, ho, hz⟩ := I.lst hp
  obtain ⟨h1, h2, h3, h4⟩ := ixN_seq hj
  have hl := r.length
  have hn := line63
  have I' : Inv X pins σ (upd H p (.lst (xs.set j v))) { s with heap := s.heap.update p (Obj.mapSeq (·.setIfInBounds j u)) } :=
    I.lstUpd hp ho (mapSeq_set its n j u) (r.set rv j) (by rw [List.length_set]; exact hz) s.toks
  by_cases h0 : 0 ≤ k
  · have hk : k.toNat = j := by
      rw [seqIndex_of h0 h4] at h1
      exact Option.some.inj h1
    exact PySem.W.ki_setAt ho h0 (by omega) (by rw [List.size_toArray, ← hl]; exact h4) (by rw [hk]; exact ⟨_, I', q⟩)
  · have hk : (k + (its.toArray.size : Int)).toNat = j := by
      rw [seqIndex_neg (by omega) h3] at h1
      rw [List.size_toArray, ← hl]
      exact Option.some.inj h1
    exact PySem.W.ki_setBack ho (by omega) (by rw [List.size_toArray, ← hl]; exact h3) (by omega) (by rw [hk]; exact ⟨_, I', q⟩)

/-! ### slices -/
theorem slice_bounds (lo hi : Option Int) (n : Nat) : (sliceBounds lo hi none n).1 = ((HT.sIx n 0 lo : Nat) : Int) ∧ (sliceBounds lo hi none n).2.1 = ((HT.sIx n n hi : Nat) : Int) ∧ (sliceBounds lo hi none n).2.2 = 1 := by
  refine ⟨?_, ?_, rfl⟩
  · cases lo with
    | none => simp [sliceBounds, HT.sIx]
    | some i =>
      simp only [sliceBounds, HT.sIx, Option.getD_none, show (1 : Int) > 0 by decide, if_true]
      by_cases h : i < 0
      · simp only [h, if_true] <;> omega
      · simp only [h, if_false] <;> omega
  · cases hi with
    | none => simp [sliceBounds, HT.sIx]
    | some i =>
      simp only [sliceBounds, HT.sIx, Option.getD_none, show (1 : Int) > 0 by decide, if_true]
      by_cases h : i < 0
      · simp only [h, if_true] <;> omega
      · simp only [h, if_false] <;> omega
theorem slicePick_cut (its : List Value) (lo hi : Option Int) : slicePick its.toArray lo hi none = ((its.drop (HT.sIx its.length 0 lo)).take (HT.sIx its.length its.length hi - HT.sIx its.length 0 lo)).toArray := by
  obtain ⟨h1, h2, h3⟩ := slice_bounds lo hi its.toArray.size
  unfold slicePick
  rw [h1, h2, h3]
  simp only [sliceRange_one, pick_run, List.size_toArray] <;> rfl
/-- xs[lo:hi] of a list: a new list -/
def rSlL (K : PySem.W.Frag) : V → Option Int → Option Int → Hp → VK → Prop := fun x lo hi H Q => ∃ a xs, x = .ref a ∧ SqL K H a xs ∧ ∀ p, H p = none → Q (.ref p) (upd H p (.lst (cutV xs lo hi)))
theorem sl_list : SlR X (rSlL X.K) := by
  intro pins s σ H x v vl vu lo hi sl Q I rx hs pl pu h
  obtain ⟨a, xs, rfl, hx, q⟩ := h
  cases rx
  obtain ⟨its, r, ht, hz⟩ := I.list hx
  have hlen := r.length
  refine ⟨"list", _, slot_list_getitem.lookup, ht.isList.typeIs, ?_⟩
  refine wpAny_getItem_list_slice ht.isList hs pl pu .none (by simp) ?_ (by rw [List.size_toArray] <;> omega)
  rw [slicePick_cut, ← hlen]
  refine ⟨.ref s.heap.objs.size, _, I.laid (t' := s.toks) (o := .lst (cutV xs lo hi)) (fun b ob q => Heap.get?_push_of_some _ q) (Nat.le_refl _) ?_, rfl, q _ (I.hok.fresh (Nat.le_refl _))⟩
  exact ⟨Nat.le_trans (cutV_length xs lo hi) hz, _, 0, (r.drop (HT.sIx xs.length 0 lo)).take (HT.sIx xs.length xs.length hi - HT.sIx xs.length 0 lo), Heap.get?_push_size _ rfl⟩

/-! ### in, not in: flat items -/
def flatV : V → Bool
  | .non => true
  | .bl _ => true
  | .int _ => true
  | .str _ => true
  | _ => false
/-- == of flat values -/
def eqV : V → V → Bool
  | .non, .non => true
  | .bl a, .bl b => a == b
  | .bl a, .int b => (if a then 1 else 0) == b
  | .int a, .bl b => a == (if b then 1 else 0)
  | .int a, .int b => a == b
  | .str a, .str b => a == b
  | _, _ => false
theorem eqAt_V {A : Around} {s : Shared} {y x : V} {u v : Value} (ry : RelV y u) (rx : RelV x v) (fy : flatV y = true) (fx : flatV x = true) : SeqAt.EqAt A s u v (eqV y x) := by
  cases y with
  | non =>
    cases ry
    cases x with
    | non => cases rx; exact SeqAt.EqAt.same _
    | bl b => cases rx; exact SeqAt.EqAt.none_bool b
    | int b => obtain ⟨t, rfl⟩ := rx; exact SeqAt.EqAt.none_int b t
    | str b => obtain ⟨t, rfl⟩ := rx; exact SeqAt.EqAt.none_str b t
    | _ => exact absurd (show false = true from fx) Bool.false_ne_true
  | bl a =>
    cases ry
    cases x with
    | non => cases rx; exact SeqAt.EqAt.bool_none a
    | bl b => cases rx; exact SeqAt.EqAt.bool_bool a b
    | int b => obtain ⟨t, rfl⟩ := rx; exact SeqAt.EqAt.bool_int a b t
    | str b => obtain ⟨t, rfl⟩ := rx; exact SeqAt.EqAt.bool_str a b t
    | _ => exact absurd (show false = true from fx) Bool.false_ne_true
  | int a =>
    obtain ⟨t', rfl⟩ := ry
    cases x with
    | non => cases rx; exact SeqAt.EqAt.int_none a t'
    | bl b => cases rx; exact SeqAt.EqAt.int_bool a t' b
    | int b => obtain ⟨t, rfl⟩ := rx; exact SeqAt.EqAt.int_int a t' b t
    | str b => obtain ⟨t, rfl⟩ := rx; exact SeqAt.EqAt.int_str a t' b t
    | _ => exact absurd (show false = true from fx) Bool.false_ne_true
  | str a =>
    obtain ⟨t', rfl⟩ := ry
    cases x with
    | non => cases rx; exact SeqAt.EqAt.str_none a t'
    | bl b => cases rx; exact SeqAt.EqAt.str_bool a t' b
    | int b => obtain ⟨t, rfl⟩ := rx; exact SeqAt.EqAt.str_int a t' b t
    | str b => obtain ⟨t, rfl⟩ := rx; exact SeqAt.EqAt.str_str a t' b t
    | _ => exact absurd (show false = true from fx) Bool.false_ne_true
  | _ => exact absurd (show false = true from fy) Bool.false_ne_true
/-- the items' answers, read off the values (a value's own answer does not lean on its token) -/
def eqU (x : V) (u : Value) : Bool := match u with
  | .none => eqV .non x
  | .bool b => eqV (.bl b) x
  | .int i _ => eqV (.int i) x
  | .str z _ => eqV (.str z) x
  | _ => false
theorem eqU_of {x y : V} {u : Value} (r : RelV y u) (f : flatV y = true) : eqU x u = eqV y x := by
  cases y with
  | non => cases r; rfl
  | bl b => cases r; rfl
  | int i => obtain ⟨t, rfl⟩ := r; rfl
  | str z => obtain ⟨t, rfl⟩ := r; rfl
  | _ => exact absurd (show false = true from f) Bool.false_ne_true
theorem any_eqU {x : V} : ∀ {xs : List V} {us : List Value}, Vals xs us → xs.all flatV = true → us.any (eqU x) = xs.any fun y => eqV y x
  | _, _, .nil, _ => rfl
  | y :: xs, u :: us, .cons r t, f => by
    rw [List.all_cons, Bool.and_eq_true] at f
    rw [List.any_cons, List.any_cons, eqU_of r f.1, any_eqU t f.2]
theorem mem_eqAt {A : Around} {s : Shared} {x : V} {v : Value} (rx : RelV x v) (fx : flatV x = true) : ∀ {xs : List V} {us : List Value}, Vals xs us → xs.all flatV = true → ∀ u ∈ us, SeqAt.EqAt A s u v (eqU x u)
  | _, _, .nil, _ => fun u hu => by cases hu
  | y :: xs, u :: us, .cons r t, f => fun u' hu => by
    rw [List.all_cons, Bool.and_eq_true] at f
    rcases List.mem_cons.mp hu with rfl | hu
    · rw [eqU_of r f.1]; exact eqAt_V r rx f.1 fx
    · exact mem_eqAt rx fx t f.2 u' hu
def inV (x : V) (xs : List V) : Bool := xs.any fun y => eqV y x
/-- x in a list or tuple of flat items -/
def rIn (K : PySem.W.Frag) (neg : Bool) : R2 := fun x y H Q => ∃ p xs, y = .ref p ∧ (SqL K H p xs ∨ SqT K H p xs) ∧ flatV x = true ∧ xs.all flatV = true ∧ Q (.bl (if neg then !inV x xs else inV x xs)) H
theorem op_in_seq : OpR X (compareOp .In) (rIn X.K false) := by
  intro pins s σ H x y v u Q I rx ry h
  obtain ⟨p, xs, rfl, hq, fx, fs, q⟩ := h
  cases ry
  rcases hq with hq | hq
  · obtain ⟨its, r, pl, hz⟩ := I.list hq
    refine SeqAt.in_listAt (eqU x) pl.isList (fun w hw => mem_eqAt rx fx r fs w (by simpa using hw)) ⟨.bl _, H, I, rfl, ?_⟩
    rw [show its.toArray.any (eqU x) = its.any (eqU x) by simp, any_eqU r fs]
    exact q
  · obtain ⟨its, r, pl, hz⟩ := I.tuple hq
    refine SeqAt.in_tupleAt (eqU x) pl (fun w hw => mem_eqAt rx fx r fs w (by simpa using hw)) ⟨.bl _, H, I, rfl, ?_⟩
    rw [show its.toArray.any (eqU x) = its.any (eqU x) by simp, any_eqU r fs]
    exact q
/-! ### len, list(x), tuple(x) of any list or tuple that is read -/
theorem call_len_seq : CallR X (.builtin "len") (fun xs H Q => ∃ p ys, xs = [.ref p] ∧ (SqL X.K H p ys ∨ SqT X.K H p ys) ∧ Q (.int ys.length) H) := by
  intro pins s σ H xs us Q I r h
  obtain ⟨p, ys, rfl, hq, q⟩ := h
  obtain ⟨u, rfl, rx⟩ := vals1 r
  cases rx
  have hn := line63
  rcases hq with hq | hq
  · obtain ⟨its, r', pl, hz⟩ := I.list hq
    have hlen := r'.length
    exact Calls.call_len_list pl.isList (by simp only [List.size_toArray] <;> omega) ⟨.int ys.length, H, I.tok _, ⟨s.toks + 1, by rw [List.size_toArray, hlen]⟩, q⟩
  · obtain ⟨its, r', pl, hz⟩ := I.tuple hq
    have hlen := r'.length
    exact len_tuple pl (by simp only [List.size_toArray] <;> omega) ⟨.int ys.length, H, I.tok _, ⟨s.toks + 1, by rw [List.size_toArray, hlen]⟩, q⟩
theorem CallR.or {f : Value} {r r' : List V → Hp → VK → Prop} (h : CallR X f r) (h' : CallR X f r') : CallR X f (fun xs H Q => r xs H Q ∨ r' xs H Q) := by
  intro pins s σ H xs us Q I rs q
  rcases q with q | q
  · exact h pins s σ H xs us Q I rs q
  · exact h' pins s σ H xs us Q I rs q
theorem call_list_of : CallR X (.type "list") (fun xs H Q => ∃ p ys, xs = [.ref p] ∧ (SqL X.K H p ys ∨ SqT X.K H p ys) ∧ ∀ l, H l = none → Q (.ref l) (upd H l (.lst ys))) := by
  intro pins s σ H xs us Q I r h
  obtain ⟨p, ys, rfl, hq, q⟩ := h
  obtain ⟨u, rfl, rx⟩ := vals1 r
  cases rx
  have fin : ∀ (its : List Value), Vals ys its → ys.length ≤ sizeLine → ∀ (h' : Heap) (c' : Nat), (∀ b o', s.heap.get? b = some o' → h'.get? b = some o') →
      h'.get? s.heap.objs.size = some { cls := .type "list", dict := none, data := .seq its.toArray c', slots := #[] } → EP X pins σ Q (.ref s.heap.objs.size) { s with heap := h' } := fun its r' hz h' c' kp e =>
    ⟨.ref s.heap.objs.size, _, I.laid (t' := s.toks) kp (Nat.le_refl _) (show ObjOk X.prog X.w _ h' _ (.lst ys) from ⟨hz, its, c', r', e⟩), rfl, q _ (I.hok.fresh (Nat.le_refl _))⟩
  rcases hq with hq | hq
  · obtain ⟨its, r', pl, hz⟩ := I.list hq
    have hlen := r'.length
    obtain ⟨o, ho, hc, n, hd⟩ := pl.isList
    exact call_list_seq p (.inl rfl) ho hc hd (fun h' c' kp e => fin its r' hz h' c' kp e) (by simp only [List.size_toArray] <;> omega)
  · obtain ⟨its, r', pl, hz⟩ := I.tuple hq
    have hlen := r'.length
    obtain ⟨o, ho, hc, n, hd⟩ := pl
    exact call_list_seq p (.inr rfl) ho hc hd (fun h' c' kp e => fin its r' hz h' c' kp e) (by simp only [List.size_toArray] <;> omega)
theorem call_tuple_of : CallR X (.type "tuple") (fun xs H Q => ∃ p ys, xs = [.ref p] ∧ ((SqL X.K H p ys ∧ ∀ l, H l = none → Q (.ref l) (upd H l (.tup ys))) ∨ (SqT X.K H p ys ∧ Q (.ref p) H))) := by
  intro pins s σ H xs us Q I r h
  obtain ⟨p, ys, rfl, h⟩ := h
  obtain ⟨u, rfl, rx⟩ := vals1 r
  cases rx
  rcases h with ⟨hq, q⟩ | ⟨hq, q⟩
  · obtain ⟨its, r', pl, hz⟩ := I.list hq
    have hlen := r'.length
    refine call_tuple_list pl.isList (fun h' kp => ?_) (by simp only [List.size_toArray] <;> omega)
    have I1 : Inv X pins σ H { s with heap := h' } := I.kept (t' := s.toks) kp
    have I2 : Inv X pins σ (upd H h'.objs.size (.tup ys)) { s with heap := h'.push { cls := .type "tuple", data := .seq its.toArray } } :=
      I1.laid (t' := s.toks) (fun b o e => Heap.get?_push_of_some _ e) (Nat.le_refl _) (show ObjOk X.prog X.w _ _ _ (.tup ys) from ⟨hz, its, r', IsTup.new _ _⟩)
    exact ⟨.ref h'.objs.size, _, I2, rfl, q _ (I1.hok.fresh (Nat.le_refl _))⟩
  · obtain ⟨its, r', pl, hz⟩ := I.tuple hq
    exact call_tuple_same pl ⟨.ref p, H, I, rfl, q⟩

/-! ### the call of a builtin's method: o.m(..) -/
/-- the value is of that builtin type -/
def tyV (K : PySem.W.Frag) (T : String) (x : V) (H : Hp) : Prop := match x with
  | .str _ => T = "str"
  | .int _ => T = "int"
  | .ref p => (T = "list" ∧ ∃ xs, SqL K H p xs) ∨ (T = "tuple" ∧ ∃ o, K.lookup p = some o ∧ o.cls = .type "tuple" ∧ o.dict = none) ∨
      (T = "dict" ∧ ((∃ kvs, H p = some (.dK kvs)) ∨ ∃ kvs, H p = some (.dT kvs))) ∨ (T = "set" ∧ ∃ S n, H p = some (.set S n))
  | _ => False
theorem tyV_is {pins : List (Addr × Obj)} {σ : St} {H : Hp} {s : Shared} {T : String} {x : V} {v : Value} (I : Inv X pins σ H s) (r : RelV x v) (ty : tyV X.K T x H) :
    s.TypeIs v T ∧ ∀ a, v = .ref a → ∃ ob, s.heap.get? a = some ob ∧ ob.dict = none := by
  cases x with
  | str z =>
    obtain ⟨t, rfl⟩ := r
    cases (show T = "str" from ty)
    exact ⟨typeIs_str s z t, fun _ e => nomatch e⟩
  | int i =>
    obtain ⟨t, rfl⟩ := r
    cases (show T = "int" from ty)
    exact ⟨typeIs_int s i t, fun _ e => nomatch e⟩
  | ref p =>
    cases r
    rcases ty with ⟨rfl, xs, hq⟩ | ⟨rfl, o, hk, hc, hd⟩ | ⟨rfl, hk⟩ | ⟨rfl, S, n, hk⟩
    · obtain ⟨its, _, pl, _⟩ := I.list hq
      refine ⟨pl.isList.typeIs, fun a e => ?_⟩
      cases e
      obtain ⟨o, n, e, c, hd, _⟩ := pl
      exact ⟨o, e, hd⟩
    · refine ⟨⟨o, I.kIn p o hk, hc⟩, fun a e => ?_⟩
      cases e
      exact ⟨o, I.kIn _ o hk, hd⟩
    · have z : ∃ o, s.heap.get? p = some o ∧ o.ExactDict := by
        rcases hk with ⟨kvs, hk⟩ | ⟨kvs, hk⟩
        · obtain ⟨_, _, _, _, o, _, _, e, ex, _⟩ := I.hok p _ hk
          exact ⟨o, e, ex⟩
        · obtain ⟨_, _, _, _, o, _, _, e, ex, _⟩ := I.hok p _ hk
          exact ⟨o, e, ex⟩
      obtain ⟨o, e, ex⟩ := z
      refine ⟨⟨o, e, ex.1⟩, fun a e2 => ?_⟩
      cases e2
      exact ⟨o, e, ex.2.1⟩
    · obtain ⟨o, _, _, _, e, ex, _⟩ := I.hok p _ hk
      refine ⟨⟨o, e, ex.1⟩, fun a e2 => ?_⟩
      cases e2
      exact ⟨o, e, ex.2.1⟩
  | _ => exact False.elim ty
def tBM (K : PySem.W.Frag) (T : String) (r : V → List V → Hp → VK → Prop) (to : TE) (t : TA) : TE := fun σ H Q => to σ H fun x H1 => tyV K T x H1 ∧ t σ H1 fun xs H2 => r x xs H2 Q
variable {o e : Expr} {es : List Expr} {to : TE} {t : TA} {name : Str} {apos cpos : Pos} {T id : String} {r : V → List V → Hp → VK → Prop}
theorem pe_bm (pa : PlainAttrs T) (slot : Slot T name id) (hty : typeOf (.builtin id) = pure (.type "method_descriptor")) (hm : MtR X id r) (ho : PE X o to) (ha : PA X (e :: es) t)
    (hbase : attributeBase o name X.env (eval o X.env) = eval o X.env := by rfl)
    (hfew : ((backTo cpos (starEach (e :: es) X.env)).all (fun x => !x.1) && (backToKw cpos (keywordEach [] X.env)).all (fun x => x.1.isSome)
      && decide ((e :: es).length + ([] : List Keyword).length + (if ([] : List Keyword).isEmpty then 0 else 1) < 30)) = true := by rfl)
    (hline : (apos.endLine == cpos.line) = true := by rfl) (hs : starEach (e :: es) X.env = (false, eval e X.env) :: starEach es X.env := by rfl) (hplain : (backTo cpos (starEach es X.env)).any (·.1) = false := by rfl) :
    PE X (.Call (.Attribute o name apos) (e :: es) [] cpos) (tBM X.K T r to t) := by
  intro pins s σ H Q I h
  refine wpAny_Call_method_late hbase hfew hline rfl (thn (ho pins s σ H _ I h) fun v s1 ⟨x, H1, I1, r1, ty, q1⟩ => ?_)
  obtain ⟨h1, h2⟩ := tyV_is I1 r1 ty
  refine ⟨T, id, pa, slot, hty, h1, h2, ?_⟩
  have hA := ha cpos pins s1 σ H1 _ I1 q1
  rw [hs] at hA ⊢
  refine Calls.callWith_builtin (by show (false || (backTo cpos (starEach es X.env)).any (·.1)) = false; rw [hplain] <;> rfl) (Calls.evalArgs_plain ?_)
  exact thn hA fun us s2 ⟨vs, H2, I2, r2, q2⟩ => hm pins s2 σ H2 x vs v us Q I2 r1 r2 q2
end
end L2

namespace L2
open PySem PySem.Spec PyProof.Rows

def MtM (X : Cx) (id : String) (r : V → List V → Hp → VK → Prop) : Prop :=
  ∀ (pins : List (Addr × Obj)) (s : Shared) (σ : St) (H : Hp) (x : V) (xs : List V) (v : Value) (us : List Value) (Q : VK), Inv X pins σ H s → RelV x v → Vals xs us → r x xs H Q →
    wpAny (model X.prog X.w) X.A (call (.builtin id) (v :: us)) (EP X pins σ Q) X.xe s

/-! ### lists of values -/
theorem Vals.one : ∀ {x : V} {us : List Value}, Vals [x] us → ∃ u, us = [u] ∧ RelV x u
  | _, _, .cons r .nil => ⟨_, rfl, r⟩
theorem Vals.two : ∀ {x y : V} {us : List Value}, Vals [x, y] us → ∃ u v, us = [u, v] ∧ RelV x u ∧ RelV y v
  | _, _, _, .cons r (.cons q .nil) => ⟨_, _, rfl, r, q⟩
theorem Vals.zero : ∀ {us : List Value}, Vals [] us → us = []
  | _, .nil => rfl
theorem Vals.dropLast {xs : List V} {us : List Value} (h : Vals xs us) : Vals xs.dropLast us.dropLast := by
  induction h with
  | nil => exact .nil
  | cons r t ih =>
    cases t with
    | nil => exact .nil
    | cons q t' => exact .cons r ih
theorem Vals.rep {xs : List V} {us : List Value} (h : Vals xs us) : ∀ k : Nat, Vals (List.replicate k xs).flatten (List.replicate k us).flatten
  | 0 => .nil
  | k + 1 => by
    rw [List.replicate_succ, List.replicate_succ, List.flatten_cons, List.flatten_cons]
    exact Vals.append h (Vals.rep h k)
theorem foldl_rep (its : List Value) : ∀ (k : Nat) (acc : List Value),
    List.foldl (fun x1 x2 => x1 ++ x2) acc.toArray (List.replicate k its.toArray) = (acc ++ (List.replicate k its).flatten).toArray
  | 0, acc => by simp
  | k + 1, acc => by
    have e : acc.toArray ++ its.toArray = (acc ++ its).toArray := by simp
    have e2 : (acc ++ its) ++ (List.replicate k its).flatten = acc ++ (List.replicate (k + 1) its).flatten := by
      rw [List.replicate_succ, List.flatten_cons, List.append_assoc]
    rw [← e2, ← foldl_rep its k (acc ++ its), ← e, List.replicate_succ, List.foldl_cons]

section
variable {X : Cx} {pins : List (Addr × Obj)} {σ : St} {H : Hp} {s : Shared} {l b : Addr} {xs ys zs : List V}

/-! ### the two steps: a tracked list is rewritten, a new list is laid -/
theorem Inv.lset {its its' : List Value} {n : Nat} {f : Array Value → Array Value} {t' : Nat} (I : Inv X pins σ H s) (hH : H l = some (.lst xs))
    (e : s.heap.get? l = some { cls := .type "list", data := .seq its.toArray n }) (hf : f its.toArray = its'.toArray) (hv : Vals ys its') (hz : ys.length ≤ sizeLine) :
    Inv X pins σ (upd H l (.lst ys)) { s with heap := s.heap.update l (Obj.mapSeq f), toks := t' } := by
  have q := PySem.IsL.update e f
  rw [hf] at q
  refine I.write (x := l) (e := l) (by rw [hH]; exact trivial) (.inl rfl) (fun b' u hb hu => (Heap.get?_update_other s.heap (Obj.mapSeq f) (Ne.symm hb)).trans hu) ⟨_, q⟩ ?_
  exact ⟨hz, its', _, hv, q⟩
theorem Inv.lnew {its : List Value} {t' : Nat} (I : Inv X pins σ H s) (hv : Vals ys its) (hz : ys.length ≤ sizeLine) :
    Inv X pins σ (upd H s.heap.objs.size (.lst ys)) { s with heap := s.heap.push { cls := .type "list", data := .seq its.toArray }, toks := t' } :=
  I.laid (fun _ _ q => Heap.get?_push_of_some _ q) (Nat.le_refl _) ⟨hz, its, 0, hv, Heap.get?_push_size _ rfl⟩
theorem Inv.fresh (I : Inv X pins σ H s) : H s.heap.objs.size = none := I.hok.fresh (Nat.le_refl _)
theorem Inv.lstM (I : Inv X pins σ H s) (hH : H l = some (.lst xs)) : xs.length ≤ sizeLine ∧ ∃ (its : List Value) (n : Nat), Vals xs its ∧ xs.length = its.length ∧ s.heap.get? l = some { cls := .type "list", data := .seq its.toArray n } := by
  obtain ⟨z, its, n, r, e⟩ := I.hok l _ hH
  exact ⟨z, its, n, r, r.length, e⟩

theorem notLongL {n : Nat} (h : n ≤ sizeLine) : Builtin.List.listTooLong n = false := by
  unfold Builtin.List.listTooLong
  exact decide_eq_false (by omega)
end

section
variable {X : Cx}

/-! ### methods -/
def rAppend : V → List V → Hp → VK → Prop := fun x vs H Q => ∃ l xs y, x = .ref l ∧ vs = [y] ∧ H l = some (.lst xs) ∧ xs.length < sizeLine ∧ Q .non (upd H l (.lst (xs ++ [y])))
theorem mt_append : MtM X "list.append" rAppend := by
  intro pins s σ H x vs v us Q I rx rv h
  obtain ⟨l, xs, y, rfl, rfl, hH, hz, q⟩ := h
  cases rx
  obtain ⟨u, rfl, ru⟩ := rv.one
  obtain ⟨z, its, n, r, hl, e⟩ := I.lstM hH
  refine call_meets F.slot_list_append ⟨_, e, rfl⟩ F.entry_list_append (F.args_list_append_2 _ _) (PySem.list_append l its.toArray n u (by rw [List.size_toArray]; omega)) ⟨e, ?_⟩
  refine ⟨.non, _, I.lset (its' := its ++ [u]) hH e (by simp) (r.append (.cons ru .nil)) ?_, rfl, q⟩
  rw [List.length_append, List.length_singleton]
  omega

/-! ### list + list, list += list, list * int -/
def rCat : R2 := fun x y H Q => ∃ l b xs zs, x = .ref l ∧ y = .ref b ∧ H l = some (.lst xs) ∧ H b = some (.lst zs) ∧ xs.length + zs.length ≤ sizeLine ∧ ∀ p, H p = none → Q (.ref p) (upd H p (.lst (xs ++ zs)))
theorem op_cat : OpR X (binaryOp .Add) rCat := by
  intro pins s σ H x y v u Q I rx ry h
  obtain ⟨l, b, xs, zs, rfl, rfl, hH, hB, hz, q⟩ := h
  cases rx
  cases ry
  obtain ⟨z, its, n, r, hl, e⟩ := I.lstM hH
  obtain ⟨z2, its2, n2, r2, hl2, e2⟩ := I.lstM hB
  refine PySem.P.add_list e e2 ?_ (by rw [List.size_toArray, List.size_toArray]; omega)
  have ea : its.toArray ++ its2.toArray = (its ++ its2).toArray := by simp
  rw [ea]
  exact ⟨.ref _, _, I.lnew (t' := s.toks) (r.append r2) (by rw [List.length_append]; omega), rfl, q _ I.fresh⟩
/-- a list times an int (a negative one is nothing) -/
def rRep : R2 := fun x y H Q => ∃ l k xs, x = .ref l ∧ y = .int k ∧ H l = some (.lst xs) ∧ -(2 ^ 63) ≤ k ∧ k < 2 ^ 63 ∧ xs.length * k.toNat ≤ sizeLine ∧
  ∀ p, H p = none → Q (.ref p) (upd H p (.lst (List.replicate k.toNat xs).flatten))
theorem len_rep {α : Type} (xs : List α) (k : Nat) : (List.replicate k xs).flatten.length = k * xs.length := by
  induction k with
  | zero => simp
  | succ k ih => rw [List.replicate_succ, List.flatten_cons, List.length_append, ih, Nat.succ_mul, Nat.add_comm]
theorem op_rep : OpR X (binaryOp .Mult) rRep := by
  intro pins s σ H x y v u Q I rx ry h
  obtain ⟨l, k, xs, rfl, rfl, hH, h1, h2, hz, q⟩ := h
  cases rx
  obtain ⟨t, rfl⟩ := ry
  obtain ⟨z, its, n, r, hl, e⟩ := I.lstM hH
  have hlen : its.toArray.size * k.toNat ≤ sizeLine := by rw [List.size_toArray, ← hl]; exact hz
  have hcap : ¬ its.toArray.size * k.toNat > (2 ^ 63 - 1) / 8 := by
    have : (sizeLine : Nat) ≤ (2 ^ 63 - 1) / 8 := by decide
    omega
  have hfit : ¬ (!Builtin.List.listFitsIndex k) = true := by
    rw [fitsIndex_both h1 h2]
    exact Bool.false_ne_true
  have hlong : ¬ Builtin.List.listTooLong (its.toArray.size * k.toNat) = true := by
    rw [notLongL hlen]
    exact Bool.false_ne_true
  have hnew : List.foldl (fun x1 x2 => x1 ++ x2) #[] (List.replicate (if its.toArray.isEmpty = true then 0 else k.toNat) its.toArray) = (List.replicate k.toNat its).flatten.toArray := by
    have f0 : ∀ m : Nat, List.foldl (fun x1 x2 => x1 ++ x2) #[] (List.replicate m its.toArray) = (List.replicate m its).flatten.toArray := fun m => by
      have := foldl_rep its m []
      rw [List.nil_append] at this
      exact this
    rw [f0]
    cases its with
    | nil => simp
    | cons a r' => rw [if_neg (by simp)]
  refine wpAny_binaryOp_repeat_ref (T := "list") (U := "int") (by decide) ⟨_, e, rfl⟩ (fun s' => typeIs_int s' k t) noFill_list_mul F.fills_int_mul F.slot_int_rmul repeat_list F.slot_int_index.lookup
    (call_meets F.slot_int_rmul (typeIs_int s k t) F.entry_int_rmul (F.args_int_rmul_2 _ _) (int___rmul___int_list k t l its.toArray n)
      ⟨e, rfl, ⟨_, e, rfl⟩, call_meets F.slot_list_mul ⟨_, e, rfl⟩ F.entry_list_mul (F.args_list_mul_2 _ _) (AutoListH.list___mul___list_int_3 l its.toArray n k t hfit hcap hlong) ⟨e, ?_⟩⟩)
  rw [hnew]
  exact ⟨.ref _, _, I.lnew (t' := s.toks) (r.rep k.toNat) (by rw [len_rep, Nat.mul_comm]; exact hz), rfl, q _ I.fresh⟩

/-! ### del xs[i] -/
end

/-! ### xs[a:b] = ys -/
section
variable {prog : Program} {w : World} {A : Around} {E : Value → Shared → Prop} {s : Shared}
end

section
variable {X : Cx}
end
end L2

namespace Att
open PySem PySem.W PySem.Calls PyProof.Rows

/-! ### the script -/
theorem ints_of_wellAll {P : Params} {h : Heap} : ∀ (ns : List Int) (vs : List Value), WellAll P h vs (ns.map WData.int) → IntsAre vs ns := by
  intro ns
  induction ns with
  | nil =>
    intro vs w
    rw [List.map_nil] at w
    cases w
    exact .nil
  | cons n ns ih =>
    intro vs w
    rw [List.map_cons] at w
    cases w with
    | cons a b =>
      cases a
      exact .cons _ _ (ih _ b)

theorem script_of {l : OpenLaw} {n : Nat} (hn : l.most = some n) {P : Params} {h : Heap} {args : List WData} {vals : List Value}
    (hpre : l.row.toRowW.claim.pre args = true) (hwl : WellAll P h vals args) :
    ∃ a vs ns, vals = [Value.ref a] ∧ args = [WData.list (ns.map WData.int)] ∧ h.get? a = some { cls := .type "list", data := .seq vs.toArray } ∧ IntsAre vs ns ∧ ns.length ≤ n := by
  have hsh : WShape.hasAll [] args [.list .int] = true := (pre_splitW hpre).1
  have hc : l.pre.holds [] { args := args } = true := (pre_splitW hpre).2
  obtain ⟨d, r, rfl, h1, h2⟩ := hasAllW_cons hsh
  obtain rfl := hasAllW_nil h2
  obtain ⟨xs, rfl, h3⟩ := hasW_list h1
  obtain ⟨ns, rfl⟩ := items_int h3
  have hlen : ns.length ≤ n := by
    unfold OpenLaw.pre at hc
    have h4 : (WTm.not (.lt (.lit (.int (n : Int))) (.len (.arg 0)))).holds [] { args := [.list (ns.map .int)] } = true := by
      have h4 := (holds_andW hc).1
      rw [hn] at h4
      exact h4
    have h5 := condW_of h4 (w_not (w_lt w_lit (w_len_list (w_arg rfl))))
    rw [List.length_map] at h5
    refine Nat.le_of_not_lt fun q => ?_
    have q' : (n : Int) < ((ns.length : Nat) : Int) := by omega
    first
      | (rw [decide_eq_true q'] at h5; exact absurd h5 (by decide))
      | (simp at h5; omega)
  cases hwl with
  | cons w1 w2 =>
    cases w2
    cases w1 with
    | list ho hall => exact ⟨_, _, ns, rfl, rfl, ho, ints_of_wellAll ns _ hall, hlen⟩

theorem post_true (l : OpenLaw) (args : List WData) : l.row.toRowW.claim.post args (.bool true) args = true :=
  postW_of (r := l.row.toRowW) (X := (true == true))
    (show WShape.has [] (.bool true) .bool = true by first | rfl | decide | simp [WShape.has, WShape.arms, WShape.armsAll])
    (show (WTm.eq .res (.lit (.bool true))).value [] { args := args, res := some (.bool true), after := args } = some (.bool (true == true)) from w_eq_bool (w_res rfl) w_lit) rfl

/-! ### the attachment: holds_open's last premise (the goal 'hc' behind k_head) from a wpAny of the law's body -/
/-- the same from a codeAny of the CALL (for a layer whose function contracts speak of calls) -/
theorem attach_call {l : OpenLaw} {n : Nat} {q : Program} {loose : List Str} {XP : (Str → Option Value) → Heap → Prop} {YP : World → Heap → Prop} {d : DefRec}
    (hn : l.most = some n) (hdf : d.params.defaults = [])
    (call : ∀ (w : World) (s₀ s₁ : Shared) (mg mb : Str → Option Value) (fa : Addr) (o : Obj) (pm cd doc : Value) (a : Addr) (vs : List Value) (ns : List Int),
      Ground q loose [] XP w s₀ mg mb s₁.heap → YP w s₁.heap →
      s₁.heap.get? fa = some o → o.data = .func (docDef d.name d.params d.body d.scope pm cd doc) → s₁.heap.CodeRec cd d.name → mg d.name = some (.ref fa) →
      s₁.heap.get? a = some { cls := .type "list", data := .seq vs.toArray } → IntsAre vs ns → ns.length ≤ n → s₁.gens = #[] →
      codeAny (model l.prog w) callerA (.call (.ref fa) ⟨[.ref a], []⟩) (fun r s' => r = .ok (.ret (.bool true)) ∧ OldK s₁.heap s'.heap ∧ s'.os = s₁.os ∧ AllBare s'.gens) s₁) :
    WalkO q loose XP YP l.row.toRowW d [] (fun f vs => PySem.call f vs) := by
  intro w s₀ s₁ mg mb G Y fa o pm cd doc dV kV ho hd hcd hD hmg hg args vals as hpre hlay hrd hwl hlo
  obtain rfl : dV = .none := Dflts.none hD hdf
  obtain rfl : kV = .none := Dflts.noKw hD
  obtain ⟨a, vs, ns, rfl, rfl, hobj, hints, hlen⟩ := script_of hn hpre hwl
  refine enter_call (codeAny_mono (call w s₀ s₁ mg mb fa o pm cd doc a vs ns G Y ho (fd_plain hd) hcd hmg hobj hints hlen hg) fun r s' hq => ?_)
  obtain ⟨rfl, h2, h3, h4⟩ := hq
  exact ⟨.inl ⟨.bool true, .bool true, [], rfl, fun _ => rfl, .bool true, post_true l _, fun _ => ⟨List.Pairwise.nil, fun _ hm => (nomatch hm)⟩⟩, h2, h3, h4⟩

/-! ### rules over ANY heap (no ledger) from facts about the written part K: the library's own take a ledger (News) for what they write -/
section
variable {prog : Program} {w : World} {A : Around} {E : Value → Shared → Prop} {s : Shared} {K : Frag}

/-! the whole heap as the ledger: makes every rule that writes through a ledger a rule over any heap -/
def ledger (h : Heap) (L d : Addr) : List (Addr × Obj) := (List.range h.objs.size).filterMap fun a => if a = L ∨ a = d then none else (h.get? a).map fun o => (a, o)
end
end Att

namespace L2
open PySem PySem.Spec PyProof.Rows

theorem vals_ints : ∀ {vs : List Value} {ns : List Int}, IntsAre vs ns → Vals (ns.map V.int) vs
  | _, _, .nil => .nil
  | _, _, .cons n t h => .cons ⟨t, rfl⟩ (vals_ints h)

/-- nothing is tracked but the script, known to the object (or it is an object of the module) -/
def Only (H : Hp) : Prop := ∀ b, H b = none ∨ ∃ o xs, H b = some (.frz o (.lst xs))

/-- THE HEAD: the law's promise, at the heap behind the top. F, the promise of the law's def, may use that base is part of the heap (so K.In base, base.Ns mainGlobals mg stand in Mod) -/
theorem law_call {P : Program} {w : World} {K : PySem.W.Frag} {mg mb : Str → Option Value} {CX : CXT} {k : Nat} {fa a : Addr} {fd : FuncData} {x : Str} {sp : Sp} {s₁ : Shared} {vs : List Value} {ns : List Int}
    (KX : K.In s₁.heap) (hns : s₁.heap.Ns mainGlobals mg) (hb : s₁.heap.Ns builtinsNs mb) (hbb : ∀ x : Str, x ≠ "__name__" → mb x = bootBuiltins x) (hlim : s₁.heap.NoLimit) (hg : s₁.gens = #[])
    (ha : s₁.heap.get? a = some { cls := .type "list", data := .seq vs.toArray }) (hi : IntsAre vs ns) (hl : ns.length ≤ sizeLine) (hr : Room k callerA)
    (F : ∀ base : Heap, K.In base → base.Ns mainGlobals mg → FnOk P w K mg base CX k fa fd [x] sp) (hbind : ∀ (s : Shared) (u : Value), BindsTo s fd ⟨[u], []⟩ [(x, u)])
    (hsp : ∀ H : Hp, Only H → SqL K H a (ns.map V.int) → sp [.ref a] H (fun v _ => v = .bl true) fun _ _ _ => False)
    (hCX : ∀ H e s', CX [] H s₁ (fun _ _ _ => False) e s' → False) :
    codeAny (model P w) callerA (.call (.ref fa) ⟨[.ref a], []⟩) (fun r s' => r = .ok (.ret (.bool true)) ∧ OldK s₁.heap s'.heap ∧ s'.os = s₁.os ∧ AllBare s'.gens) s₁ := by
  have rv := vals_ints hi
  have lenV := hi.length
  -- from an abstract heap in which nothing but the script may be tracked
  have core : ∀ H : Hp, Only H → SqL K H a (ns.map V.int) → HOk P w H s₁.heap → (∀ b, H b ≠ none → b = a) → (H a ≠ none → K.lookup a = none) →
      codeAny (model P w) callerA (.call (.ref fa) ⟨[.ref a], []⟩) (fun r s' => r = .ok (.ret (.bool true)) ∧ OldK s₁.heap s'.heap ∧ s'.os = s₁.os ∧ AllBare s'.gens) s₁ := by
    intro H hO hS hok hA hK
    have base_of : ∀ {b : Addr} {o : Obj}, s₁.heap.get? b = some o → H b = none → (hidT s₁.heap H).get? b = some o := fun e n => hidT_get e n
    have noA : ∀ {b : Addr} {o : Obj} {es : Array DictEntry} {ep : Nat}, s₁.heap.get? b = some o → o.data = .dict es ep → H b = none := fun {b o es ep} e d => by
      cases q : H b with
      | none => rfl
      | some u =>
        have e' : b = a := hA b (by rw [q]; simp)
        subst e'
        rw [ha] at e; cases e
        have d' : Data.seq vs.toArray _ = Data.dict es ep := d
        cases d'
    have nsK : ∀ {b : Addr} {m : Str → Option Value}, s₁.heap.Ns b m → (hidT s₁.heap H).Ns b m := fun {b m} ⟨o, es, ep, e, d, r⟩ => ⟨o, es, ep, base_of e (noA e d), d, r⟩
    have hKb : K.In (hidT s₁.heap H) := fun b o e => base_of (KX b o e) (by
      cases q : H b with
      | none => rfl
      | some u =>
        have e' : b = a := hA b (by rw [q]; simp)
        subst e'
        rw [hK (by rw [q]; simp)] at e; cases e)
    have hM : Mod K mg (hidT s₁.heap H) := ⟨hKb, nsK hns, ⟨mb, nsK hb, hbb⟩, let ⟨mc, h1, h2⟩ := hlim; ⟨mc, nsK h1, h2⟩⟩
    have e0 : Env0 P w K mg (hidT s₁.heap H) callerA [] s₁ H := ⟨rfl, hM, fun b o e => of_hidT e, Nat.le_of_eq (hidT_size _ _), trivial, fun b hb => absurd (show b ∈ ([] : List Addr) from hb) (by simp), hok, .of_eq hg⟩
    refine codeAny_mono ((F _ hKb (nsK hns)).run callerA [] s₁ H ⟨[.ref a], []⟩ [.ref a] [.ref a] _ _ hr e0 (hbind s₁ (.ref a)) (.cons rfl .nil) (hsp H hO hS)) fun r s' h => ?_
    cases r with
    | error e => exact (hCX H e s' h).elim
    | ok fl =>
      cases fl with
      | next => exact False.elim h
      | brk => exact False.elim h
      | cont => exact False.elim h
      | ret u =>
        obtain ⟨v, H', os, bare, un, hok', r', q⟩ := h
        have q' : v = .bl true := q
        subst q'
        obtain rfl : u = Value.bool true := r'
        refine ⟨rfl, OldK.of_keep fun b o e => ?_, os, bare⟩
        cases q : H b with
        | none => exact un.keep b o e q (by intro z; exact absurd (show b ∈ ([] : List Addr) from z) (by simp)) (by simp)
        | some u =>
          rcases hO b with z | ⟨ob, xs, z⟩
          · rw [q] at z; cases z
          · have z2 := un.frzs b ob _ z
            obtain ⟨e1, _⟩ := hok b _ z
            obtain ⟨e2, _⟩ := hok' b _ z2
            rw [e] at e1; cases e1
            exact e2
  cases hk : K.lookup a with
  | some o =>
    -- the script is one of the module's own objects
    have e := KX a o hk
    rw [ha] at e
    cases e
    refine core (fun _ => none) (fun _ => .inl rfl) (.inr ⟨_, vs.toArray, _, hk, rfl, rfl, rfl, by rw [List.size_toArray, lenV]; exact hl, by simpa using rv⟩) (fun b u z => by have z' : (none : Option HO) = some u := z; cases z') (fun b z => absurd rfl z) fun z => absurd rfl z
  | none =>
    refine core (fun b => if b = a then some (.frz { cls := .type "list", data := .seq vs.toArray } (.lst (ns.map V.int))) else none) (fun b => ?_) (.inl (.inr ⟨{ cls := .type "list", data := .seq vs.toArray }, if_pos rfl⟩)) (fun b u z => ?_) (fun b z => ?_) fun _ => hk
    · by_cases hb : b = a
      · exact .inr ⟨_, _, if_pos hb⟩
      · exact .inl (if_neg hb)
    · by_cases hb : b = a
      · have z' := (if_pos hb).symm.trans z
        cases z'
        subst hb
        exact ⟨ha, by rw [List.length_map]; exact hl, vs, _, rv, ha⟩
      · have z' := (if_neg hb).symm.trans z
        cases z'
    · by_cases hb : b = a
      · exact hb
      · exact absurd (if_neg hb) z
end L2

namespace L2
open PySem PySem.Spec PyProof.Rows

/-- the goal that k_head leaves (case hc), from the law's promise. F gives the function object fd (K's own) once, then the promise over every base -/
theorem walk_of {l : PySem.W.OpenLaw} {n k : Nat} {q : Program} {loose : List Str} {XP : (Str → Option Value) → Heap → Prop} {YP : World → Heap → Prop} {d : DefRec} {K : Params → PySem.W.Frag} {CX : World → CXT} {sp : World → Sp} {x : Str}
    (hn : l.most = some n) (hn2 : n ≤ sizeLine) (hdf : d.params.defaults = []) (hr : Room k callerA)
    (hY : ∀ (w : World) (h : Heap), YP w h → (K w.params).In h)
    (F : ∀ (w : World) (mg : Str → Option Value) (fa : Addr) (h : Heap), (K w.params).In h → h.Ns mainGlobals mg → mg d.name = some (.ref fa) →
      ∃ fd : FuncData, (∀ (s : Shared) (u : Value), BindsTo s fd ⟨[u], []⟩ [(x, u)]) ∧
        ∀ base : Heap, (K w.params).In base → base.Ns mainGlobals mg → FnOk l.prog w (K w.params) mg base (CX w) k fa fd [x] (sp w))
    (hsp : ∀ (w : World) (H : Hp) (a : Addr) (ns : List Int), ns.length ≤ n → Only H → SqL (K w.params) H a (ns.map V.int) → sp w [.ref a] H (fun v _ => v = .bl true) fun _ _ _ => False)
    (hCX : ∀ (w : World) (H : Hp) (s : Shared) (e : Value) (s' : Shared), CX w [] H s (fun _ _ _ => False) e s' → False) :
    PySem.W.WalkO q loose XP YP l.row.toRowW d [] (fun f vs => PySem.call f vs) := by
  refine Att.attach_call hn hdf fun w s₀ s₁ mg mb fa o pm cd doc a vs ns G Y ho hd hcd hmg hobj hints hlen hg => ?_
  have KX := hY w _ Y
  obtain ⟨fd, hb, hF⟩ := F w mg fa _ KX G.T.g hmg
  exact law_call KX G.T.g G.T.b G.T.builtins G.T.nolimit hg hobj hints (Nat.le_trans hlen hn2) hr hF hb (fun H hO hS => hsp w H a ns hlen hO hS) fun H e s' => hCX w H s₁ e s'
end L2


/-! SHORT WORDS over the layer: a def of the text, its body, what a loop and a test want. -/
namespace L2
open PySem PySem.Spec PyProof.Rows

/-! ### the text by places -/
/-- the j-th statement of a class's body -/
def inClass (s : Stmt) (j : Nat) : Stmt := match s with
  | .ClassDef _ _ _ body _ _ _ _ _ _ _ => body.getD j (.Pass ⟨0, 0, 0, 0⟩)
  | _ => .Pass ⟨0, 0, 0, 0⟩
def defArgs (s : Stmt) : Arguments := match s with
  | .FunctionDef _ a _ _ _ _ _ _ _ _ => a
  | _ => { posonlyargs := [], args := [], vararg := none, kwonlyargs := [], kw_defaults := [], kwarg := none, defaults := [] }
def defBody (s : Stmt) : List Stmt := match s with
  | .FunctionDef _ _ b _ _ _ _ _ _ _ => b
  | _ => []
def defScope (s : Stmt) : Scope := match s with
  | .FunctionDef _ _ _ _ _ _ sc _ _ _ => sc
  | _ => { kind := .function, names := [], isGenerator := false, isCoroutine := false }

/-! ### no exception leaves a def -/
abbrev CX0 : CXT := fun _ _ _ _ _ _ => False
abbrev E0 : XK := fun _ _ _ => False
theorem pass0 {X : Cx} : Passes CX0 X E0 := fun _ _ _ _ _ _ _ h => h.elim

/-! ### a def (or method) of the text as it stands behind the top -/
structure Fun (K : PySem.W.Frag) (x qual : Str) (st : Stmt) (f : Addr) (fd : FuncData) : Prop where
  ex : ∃ (oc : Value) (od : Option Addr) (kV doc pm : Value) (an : Option Addr) (cdv ct : Value) (osl : Array (Option Value)),
    fd = PySem.W.fnOf x qual (defArgs st) (defBody st) (defScope st) .none kV doc pm an cdv ct ∧ K.lookup f = some ⟨oc, od, .func fd, osl⟩ ∧ PySem.W.codeIn K cdv qual = true
  kp : PySem.W.keepIn K (.ref f) = true
section
variable {P : Program} {w : World} {K : PySem.W.Frag} {mg : Str → Option Value} {base : Heap}
/-- THE RULE for a def: its body as a term of rules, and the reading of that term -/
theorem Fun.ok {x qual : Str} {st : Stmt} {f : Addr} {fd : FuncData} {N ps : List Str} {k : Nat} {sp : Sp} (F : Fun K x qual st f fd) (S : FnScope N ps (defScope st)) (len : ∀ vs H Q E, sp vs H Q E → vs.length = ps.length)
    (hbody : ∀ (cdv : Value) (A : Around) (outer : List Env) (s : Shared) (H : Hp) (vs : List V) (Q : VK) (E : XK), Room k (A.deeper (envOfC qual (defScope st) s.heap.objs.size f cdv)) → sp vs H Q E →
      ∃ t, PSs (cxOf CX0 P w K mg base N qual (defScope st) f cdv A outer s H E).nox (defBody st) t ∧ t { nx := fun _ H' => Q .non H', rt := Q } (start N vs) H) : FnOk P w K mg base CX0 (k + 1) f fd ps sp := by
  obtain ⟨oc, od, kV, doc, pm, an, cdv, ct, osl, rfl, lk, hcd⟩ := F.ex
  refine fn_of lk hcd S len fun A outer s H vs Q E hr hsp => ?_
  obtain ⟨t, h, q⟩ := hbody cdv A outer s H vs Q E hr hsp
  exact ⟨t, h.nox, q⟩
/-- how its arguments bind (no defaults): h is «fun _ _ _ _ _ _ us hl => match us, hl with | [_, _], _ => rfl», one _ a parameter -/
theorem Fun.binds {x qual : Str} {st : Stmt} {f : Addr} {fd : FuncData} {ps : List Str} (F : Fun K x qual st f fd)
    (h : ∀ (kV doc pm : Value) (an : Option Addr) (cdv ct : Value) (us : List Value), us.length = ps.length → bindArgs (PySem.W.fnOf x qual (defArgs st) (defBody st) (defScope st) .none kV doc pm an cdv ct) ⟨us, []⟩ = pure (ps.zip us)) : Binds K fd ps [] := by
  obtain ⟨oc, od, kV, doc, pm, an, cdv, ct, osl, rfl, lk, hcd⟩ := F.ex
  exact .all (h kV doc pm an cdv ct)
theorem fun_mk {x qual : Str} {st : Stmt} {f : Addr} {oc : Value} {od an : Option Addr} {osl : Array (Option Value)} {kV doc pm cdv ct : Value} (l : K.lookup f = some ⟨oc, od, .func (PySem.W.fnOf x qual (defArgs st) (defBody st) (defScope st) .none kV doc pm an cdv ct), osl⟩)
    (c : PySem.W.codeIn K cdv qual = true) (k : PySem.W.keepIn K (.ref f) = true) : Fun K x qual st f (PySem.W.fnOf x qual (defArgs st) (defBody st) (defScope st) .none kV doc pm an cdv ct) := ⟨⟨oc, od, kV, doc, pm, an, cdv, ct, osl, rfl, l, c⟩, k⟩
end
theorem small1000 {n : Nat} (h : n ≤ 1000) : n < sizeLine := Nat.lt_of_le_of_lt h (by decide)

/-! ### expressions in short: the name that stands in the i-th slot -/
section
variable {X : Cx}
theorem pv (i : Nat) {x : Str} {pos : Pos} (hN : X.N[i]? = some x := by rfl) (hv : Vis X.env.scope x := by first | exact Or.inl rfl | exact Or.inr (Or.inl rfl) | exact Or.inr (Or.inr rfl)) (hd : (x == ("__debug__" : Str)) = false := by decide)
    (hcd : (x == ("__classdict__" : Str)) = false := by decide) : PE X (.Name x pos) (tVar i) := pe_var hN hv hd hcd
end

/-! ### tests -/
theorem iteF {A B : Prop} (h : B) : if false = true then A else B := by
  rw [if_neg Bool.false_ne_true]
  exact h
theorem iteT {A B : Prop} (h : A) : if true = true then A else B := by
  rw [if_pos rfl]
  exact h
theorem ite2 {c A B : Prop} [Decidable c] (h1 : c → A) (h2 : ¬ c → B) : if c then A else B := by
  by_cases h : c
  · rw [if_pos h]
    exact h1 h
  · rw [if_neg h]
    exact h2 h
/-! ### heaps -/
/-- all that was tracked is as it was -/
def Same (H H' : Hp) : Prop := ∀ b o, H b = some o → H' b = some o
theorem Same.refl (H : Hp) : Same H H := fun _ _ h => h
theorem Same.trans {H H1 H2 : Hp} (a : Same H H1) (b : Same H1 H2) : Same H H2 := fun c o h => b c o (a c o h)
theorem Same.free {H H' : Hp} (e : Same H H') {l : Addr} (h : H' l = Option.none) : H l = Option.none := by
  cases q : H l with
  | none => rfl
  | some o =>
    rw [e l o q] at h
    cases h
theorem Same.seq {K : PySem.W.Frag} {H H' : Hp} {a : Addr} {xs : List V} (e : Same H H') (h : SqL K H a xs) : SqL K H' a xs := by
  rcases h with (h | ⟨o, h⟩) | h
  · exact .inl (.inl (e _ _ h))
  · exact .inl (.inr ⟨o, e _ _ h⟩)
  · exact .inr h

end L2

set_option Elab.async false
set_option linter.all false
set_option maxRecDepth 100000
/-! Comprehensions over the hand layer. -/
namespace L2
open PySem PySem.Spec PyProof.Rows

/-- one clause, walked to its end by a measure; nothing raises -/
theorem comp_walk {P : Program} {w : World} {A : Around} {R : Result → Shared → Prop} {s : Shared} {elt tg iter : Expr} {ifs : List Expr} {sc : Scope} {pos : Pos} {it acc : Value} {env : Env} (J : Nat → Shared → Prop)
    (turn : ∀ n s, J n s → wpAny (model P w) A (pyNext it) (fun r s1 => match r with
      | none => R (.ok .next) s1
      | some v => wpAny (model P w) A (letOwnedTupleGo tg it v) (fun _ s2 => wpAny (model P w) A (assign tg env v) (fun _ s3 =>
          wpAny (model P w) A (forIn ifs true fun c r => if r = true then do let ok ← isTrue c env (eval c env); pure (ForInStep.yield ok) else pure (ForInStep.yield r)) (fun ok s4 =>
            if ok = true then wpAny (model P w) A (eval elt env) (fun x s5 => wpAny (model P w) A (call (.builtin "list.append") [acc, x]) (fun _ s6 => ∃ m, m < n ∧ J m s6) (fun _ _ => False) s5) (fun _ _ => False) s4
            else ∃ m, m < n ∧ J m s4) (fun _ _ => False) s3) (fun _ _ => False) s2) (fun _ _ => False) s1) (fun _ _ => False) s)
    (n : Nat) (h : J n s) : codeAny (model P w) A (.compLoop (.ListComp elt [⟨tg, iter, ifs, 0⟩] sc pos) 0 it acc env) R s := by
  have no : ∀ {E : Value → Shared → Prop} (e : Value) (z : Shared), (fun _ _ => False : Value → Shared → Prop) e z → E e z := fun _ _ f => False.elim f
  refine codeAny_loop rfl J (fun n s hJ => ?_) n h
  show wpAny _ A ((compTurn (.ListComp elt [⟨tg, iter, ifs, 0⟩] sc pos) 0 it acc env).onRaise (fun x => do noteFrame x env; theTreesLotGoes x)) _ _ s
  refine wpAny_noted ?_
  rw [compTurn_list]
  refine wpAny_bind (wpAny_standAt (wpAny_bind (wpAny_mono (turn n s hJ) (fun r s1 h1 => ?_) no)))
  cases r with
  | none => exact wpAny_pure h1
  | some v =>
    refine wpAny_bind (wpAny_mono h1 (fun _ s2 h2 => ?_) no)
    refine wpAny_bind (wpAny_mono h2 (fun _ s3 h3 => ?_) no)
    refine wpAny_bind (wpAny_mono h3 (fun ok s4 h4 => ?_) no)
    cases ok with
    | false => exact wpAny_pure ⟨rfl, h4⟩
    | true =>
      refine wpAny_bind (wpAny_bind (wpAny_mono h4 (fun x s5 h5 => ?_) no))
      exact wpAny_bind (wpAny_mono h5 (fun _ s6 h6 => wpAny_pure (wpAny_pure ⟨rfl, h6⟩)) no)

theorem look_free {env : Env} : ∀ {names : List (Str × NameKind)} {x : Str}, names.lookup x = some .free → env.scope.kind = .function → env.kindOf x = some .cell →
    (names.map fun (n, k) => if (k == NameKind.free && env.scope.kind == .function && env.kindOf n == some .cell) then (n, NameKind.cell) else (n, k)).lookup x = some .cell
  | [], _, h, _, _ => by simp at h
  | (n, k) :: r, x, h, hf, hc => by
    have ih := @look_free env r x
    show List.lookup x ((if (k == NameKind.free && env.scope.kind == .function && env.kindOf n == some .cell) = true then (n, NameKind.cell) else (n, k)) :: _) = _
    cases hx : x == n with
    | true =>
      simp only [List.lookup_cons, hx] at h
      cases h
      have e : x = n := by simpa using hx
      subst e
      simp [List.lookup_cons, hf, hc]
    | false =>
      simp only [List.lookup_cons, hx] at h
      split
      · simp only [List.lookup_cons, hx]; exact ih h hf hc
      · simp only [List.lookup_cons, hx]; exact ih h hf hc

/-- what a block closes over -/
theorem closure_of {env : Env} : ∀ (names : List (Str × NameKind)) (acc : List (Str × Addr)), (∀ y ∈ names, y.2 = .free → ∃ c, env.cells.lookup y.1 = some c) → (∀ n c, acc.lookup n = some c → env.cells.lookup n = some c) →
    ∃ cl : List (Str × Addr), (forIn names acc fun (p : Str × NameKind) r => if (p.2 == NameKind.free) = true then do let c ← cellOf env p.1; pure (ForInStep.yield ((p.1, c) :: r)) else pure (ForInStep.yield r) : Sem (List (Str × Addr))) = pure cl ∧
      (∀ n c, cl.lookup n = some c → env.cells.lookup n = some c) ∧ (∀ n c, acc.lookup n = some c → ∃ c', cl.lookup n = some c') ∧ ∀ y ∈ names, y.2 = .free → ∃ c, cl.lookup y.1 = some c
  | [], acc, _, ha => ⟨acc, rfl, ha, fun n c h => ⟨c, h⟩, fun _ h => nomatch h⟩
  | (n, k) :: r, acc, hn, ha => by
    have hr : ∀ y ∈ r, y.2 = NameKind.free → ∃ c, env.cells.lookup y.1 = some c := fun y hy => hn y (List.mem_cons_of_mem _ hy)
    by_cases hk : k = .free
    · subst hk
      obtain ⟨c, hc⟩ := hn (n, .free) List.mem_cons_self rfl
      have hc : env.cells.lookup n = some c := hc
      obtain ⟨cl, e, h1, h2, h3⟩ := closure_of r ((n, c) :: acc) hr fun m d hm => by
        rw [List.lookup_cons] at hm
        cases q : m == n with
        | true =>
          rw [q] at hm
          have z : m = n := by simpa using q
          cases hm
          rw [z]; exact hc
        | false =>
          rw [q] at hm
          exact ha m d hm
      have there : ∀ m d, acc.lookup m = some d → ∃ c', cl.lookup m = some c' := fun m d hm => by
        cases q : m == n with
        | true =>
          have z : m = n := by simpa using q
          subst z
          exact h2 m c (by simp [List.lookup_cons])
        | false => exact h2 m d (by rw [List.lookup_cons, q]; exact hm)
      refine ⟨cl, ?_, h1, there, fun y hy hf => ?_⟩
      · rw [List.forIn_cons]
        have ec : cellOf env n = pure c := by unfold cellOf; rw [hc]
        simp only [beq_self_eq_true, if_true, ec]
        exact e
      · rcases List.mem_cons.mp hy with z | z
        · subst z
          exact h2 n c (by simp [List.lookup_cons])
        · exact h3 y z hf
    · obtain ⟨cl, e, h1, h2, h3⟩ := closure_of r acc hr ha
      refine ⟨cl, ?_, h1, h2, fun y hy hf => ?_⟩
      · rw [List.forIn_cons]
        have q : (k == NameKind.free) = false := by cases k <;> first | rfl | exact absurd rfl hk
        simp only [q, Bool.false_eq_true, if_false]
        exact e
      · rcases List.mem_cons.mp hy with z | z
        · subst z
          exact absurd hf hk
        · exact h3 y z hf
theorem closure_ok {env : Env} {sc : Scope} (h : ∀ y ∈ sc.names, y.2 = .free → ∃ c, env.cells.lookup y.1 = some c) :
    ∃ cl : List (Str × Addr), closureFor sc env = pure cl ∧ (∀ n c, cl.lookup n = some c → env.cells.lookup n = some c) ∧ ∀ y ∈ sc.names, y.2 = .free → ∃ c, cl.lookup y.1 = some c := by
  obtain ⟨cl, e, h1, _, h3⟩ := closure_of (env := env) sc.names [] h (fun _ _ z => nomatch z)
  refine ⟨cl, ?_, h1, h3⟩
  unfold closureFor
  show ((forIn sc.names [] fun (p : Str × NameKind) r => if (p.2 == NameKind.free) = true then do let c ← cellOf env p.1; pure (ForInStep.yield ((p.1, c) :: r)) else pure (ForInStep.yield r)) >>= pure) = _
  rw [e]
  rfl
end L2

set_option Elab.async false
set_option linter.all false
set_option maxRecDepth 100000
namespace L2
open PySem PySem.Spec PyProof.Rows

/-- the context of a comprehension's block: s, H at its entry, ex the walked iterator's records -/
def cxComp (X : Cx) (N : List Str) (sc : Scope) (cl : List (Str × Addr)) (s : Shared) (H : Hp) (ex : List Addr) : Cx :=
  { X with N := N, s₀ := s, H₀ := H, env := compEnvC sc cl s.heap.objs.size X.env, outer := X.stack, stack := X.stack, ex := ex, fn := fun _ => false, pn := [], xe := fun _ _ => False }

/-- the block's names: k of its own, then names of the body around it, by their places -/
def frOk (NX N : List Str) (sx sc : Scope) (k : Nat) (js : List Nat) : Bool :=
  (N.length == k + js.length) && (List.range js.length).all fun i => match js[i]? with
    | none => true
    | some j => match NX[j]? with
      | none => false
      | some y => (N[k + i]? == some y) && (sx.names.lookup y == some .cell) && (sc.names.lookup y == some .free)
/-- their values at the entry -/
def cst (σ : St) (k : Nat) (js : List Nat) : St := List.replicate k none ++ js.map fun j => (σ[j]?).join

theorem frOk_at {NX N : List Str} {sx sc : Scope} {k : Nat} {js : List Nat} (h : frOk NX N sx sc k js = true) : N.length = k + js.length ∧
    ∀ i j, js[i]? = some j → ∃ y, NX[j]? = some y ∧ N[k + i]? = some y ∧ sx.names.lookup y = some .cell ∧ sc.names.lookup y = some .free := by
  unfold frOk at h
  rw [Bool.and_eq_true] at h
  obtain ⟨h1, h2⟩ := h
  refine ⟨by simpa using h1, fun i j e => ?_⟩
  have hi : i < js.length := (List.getElem?_eq_some_iff.mp e).1
  have q := List.all_eq_true.mp h2 i (List.mem_range.mpr hi)
  rw [e] at q
  dsimp only at q
  cases ny : NX[j]? with
  | none => rw [ny] at q; cases q
  | some y =>
    rw [ny] at q
    simp only [Bool.and_eq_true] at q
    obtain ⟨⟨q1, q2⟩, q3⟩ := q
    exact ⟨y, rfl, by simpa using q1, by simpa using q2, by simpa using q3⟩

section
variable {X : Cx} {pins : List (Addr × Obj)} {σ : St} {H : Hp} {s : Shared}

theorem Inv.compOk {N : List Str} {sc : Scope} {cl : List (Str × Addr)} {fp : List Addr} (I : Inv X pins σ H s) (hf : ∀ b ∈ fp, FpOk X pins H b) (hin : ∀ b ∈ fp, ∃ o, s.heap.get? b = some o)
    (hk : sc.kind = .function) (hsub : ∀ n c, cl.lookup n = some c → X.env.cells.lookup n = some c) (hall : ∀ y ∈ sc.names, y.2 = .free → ∃ c, cl.lookup y.1 = some c) (hcell : ∀ y ∈ sc.names, y.2 ≠ .cell) :
    (cxComp X N sc cl s H fp).Ok where
  mod := I.ok.mod
  kind := hk
  glob := I.ok.glob
  blt := I.ok.blt
  above := Nat.le_refl _
  inj := fun x y c h1 h2 => I.ok.inj x y c (hsub x c h1) (hsub y c h2)
  has := fun x hx => by
    have mem : ∀ {names : List (Str × NameKind)}, (∀ y ∈ names, y.2 ≠ NameKind.cell) → (∀ y ∈ names, y.2 = .free → ∃ c, cl.lookup y.1 = some c) →
        ((names.map fun (n, k) => if (k == NameKind.free && X.env.scope.kind == .function && X.env.kindOf n == some .cell) then (n, NameKind.cell) else (n, k)).lookup x = some .cell ∨
         (names.map fun (n, k) => if (k == NameKind.free && X.env.scope.kind == .function && X.env.kindOf n == some .cell) then (n, NameKind.cell) else (n, k)).lookup x = some .free) → ∃ c, cl.lookup x = some c := by
      intro names
      induction names with
      | nil => intro _ _ h; rcases h with h | h <;> simp at h
      | cons p r ih =>
        obtain ⟨n, k⟩ := p
        intro h1 h2 h3
        have t1 : ∀ y ∈ r, y.2 ≠ NameKind.cell := fun y hy => h1 y (List.mem_cons_of_mem _ hy)
        have t2 : ∀ y ∈ r, y.2 = NameKind.free → ∃ c, cl.lookup y.1 = some c := fun y hy => h2 y (List.mem_cons_of_mem _ hy)
        by_cases hx : x = n
        · subst hx
          by_cases hf : k = .free
          · exact h2 (x, k) List.mem_cons_self hf
          · exfalso
            have hc : k ≠ .cell := h1 (x, k) List.mem_cons_self
            have q : (k == NameKind.free) = false := by cases k <;> first | rfl | exact absurd rfl hf
            simp only [List.map_cons, q, Bool.false_and, Bool.false_eq_true, if_false, List.lookup_cons, beq_self_eq_true] at h3
            rcases h3 with h3 | h3
            · exact hc (Option.some.inj h3)
            · exact hf (Option.some.inj h3)
        · have q : (x == n) = false := by simpa using hx
          refine ih t1 t2 ?_
          rw [List.map_cons] at h3
          by_cases hb : (k == NameKind.free && X.env.scope.kind == .function && X.env.kindOf n == some .cell) = true
          · simpa only [hb, if_true, List.lookup_cons, q] using h3
          · simpa only [hb, if_false, Bool.false_eq_true, List.lookup_cons, q] using h3
    exact mem hcell hall hx
  cab := fun x c h _ => nomatch h
  hd := I.ok.hd
  frames := I.ok.frames
  stk := .inl rfl
  exf := fun b hb => by
    obtain ⟨o, e⟩ := hin b hb
    exact ⟨Nat.ne_of_lt (Heap.lt_size e), fun x c h z => (hf b hb).2.2.2.2.1 x c (hsub x c h) z⟩
  bs := I.bs
  bsz := Nat.le_trans I.ok.bsz I.sz
  noex := fun b o e hb => by
    rcases (hf b hb).2.2.2.1 with z | z
    · exact I.ok.noex b o e z
    · exact absurd (Nat.lt_of_lt_of_le (Heap.lt_size e) (Nat.le_trans I.ok.bsz z)) (Nat.lt_irrefl _)
  exfs := fun b hb z => by
    rcases List.mem_cons.mp (I.stkSub b z) with e | e
    · exact (hf b hb).2.1 e
    · exact (hf b hb).2.2.1 e
  funs := I.stack
  frf := I.stkFree

theorem cst_len {k : Nat} {js : List Nat} : (cst σ k js).length = k + js.length := by unfold cst; simp
theorem cst_lo {k i : Nat} {js : List Nat} {v : V} (h : (cst σ k js)[i]? = some (some v)) : k ≤ i := by
  unfold cst at h
  by_cases hi : i < k
  · rw [List.getElem?_append_left (by simpa using hi), List.getElem?_replicate, if_pos hi] at h
    cases h
  · omega
theorem cst_hi {k i : Nat} {js : List Nat} {v : V} (h : (cst σ k js)[k + i]? = some (some v)) : ∃ j, js[i]? = some j ∧ σ[j]? = some (some v) := by
  unfold cst at h
  rw [List.getElem?_append_right (by simp), List.length_replicate, Nat.add_sub_cancel_left, List.getElem?_map] at h
  cases q : js[i]? with
  | none => rw [q] at h; cases h
  | some j =>
    rw [q] at h
    refine ⟨j, rfl, ?_⟩
    have h : (σ[j]?).join = some v := Option.some.inj h
    cases z : σ[j]? with
    | none => rw [z] at h; cases h
    | some o => rw [z] at h; exact congrArg some h

/-- at the block's entry -/
theorem Inv.compStart {N : List Str} {sc sx : Scope} {cl : List (Str × Addr)} {fp : List Addr} {k : Nat} {js : List Nat} {NX : List Str} {h1 : Heap} (I : Inv X pins σ H s) (hf : ∀ b ∈ fp, FpOk X pins H b) (hin : ∀ b ∈ fp, ∃ o, s.heap.get? b = some o)
    (hk : sc.kind = .function) (hsub : ∀ n c, cl.lookup n = some c → X.env.cells.lookup n = some c) (hall : ∀ y ∈ sc.names, y.2 = .free → ∃ c, cl.lookup y.1 = some c) (hcell : ∀ y ∈ sc.names, y.2 ≠ .cell)
    (hNX : X.N = NX) (hsx : X.env.scope = sx) (hfr : frOk NX N sx sc k js = true) {m : Str → Option Value} (hns : h1.Ns s.heap.objs.size m) (keep : ∀ b o, s.heap.get? b = some o → h1.get? b = some o) {tk : Nat} :
    Inv (cxComp X N sc cl s H fp) [] (cst σ k js) H { s with heap := h1, toks := tk } := by
  obtain ⟨hlen, hat⟩ := frOk_at hfr
  refine ⟨I.compOk hf hin hk hsub hall hcell, rfl, I.bare, Un.kept keep, ⟨m, hns, fun i x v e1 e2 _ => ?_⟩, fun x c h => ?_, I.hok.fresh (Nat.le_refl _), fun x c h => I.freeC x c (hsub x c h), fun p hp => absurd (show p ∈ ([] : List (Addr × Obj)) from hp) (by simp), I.hok.kept keep, ?_⟩
  · have hi := cst_lo e2
    obtain ⟨d, rfl⟩ : ∃ d, i = k + d := ⟨i - k, by omega⟩
    obtain ⟨j, ej, ev⟩ := cst_hi e2
    obtain ⟨y, ny, nn, sxl, scl⟩ := hat d j ej
    have exy : x = y := Option.some.inj ((show N[k + d]? = some x from e1).symm.trans nn)
    subst exy
    obtain ⟨m', hn', hl'⟩ := I.loc
    obtain ⟨u, r, l⟩ := hl' j x v (by rw [hNX]; exact ny) ev (.inr (.inl (by rw [hsx]; exact sxl)))
    refine ⟨u, r, ?_⟩
    have kx : X.env.kindOf x = some .cell := by show X.env.scope.names.lookup x = _; rw [hsx]; exact sxl
    rcases l with ⟨z, _⟩ | ⟨_, c, hc, ic⟩
    · rw [kx] at z; cases z
    · obtain ⟨c', hc'⟩ := hall (x, .free) (PySem.mem_of_lookup scl) rfl
      have ecc : c' = c := Option.some.inj ((hsub x c' hc').symm.trans hc)
      subst ecc
      refine .inr ⟨.inl ?_, c', hc', ?_⟩
      · exact look_free scl I.ok.kind kx
      · obtain ⟨o, ho, hd⟩ := ic
        exact ⟨o, keep c' o ho, hd⟩
  · obtain ⟨v, o, ho, hd⟩ := I.cell x c (hsub x c h)
    exact ⟨v, o, keep c o ho, hd⟩
  · show (cst σ k js).length = N.length
    rw [cst_len, hlen]

/-- forgetting the block's own names -/
theorem Inv.compWeak {X' : Cx} {pl : List (Addr × Obj)} {σ' : St} {H' : Hp} {s' : Shared} {k : Nat} {js : List Nat} (I : Inv X' pl σ' H' s') (hl : σ'.length = k + js.length) (hd : ∀ i, k ≤ i → σ'[i]? = (cst σ k js)[i]?) : Inv X' pl (cst σ k js) H' s' :=
  I.weak (by rw [cst_len, hl]) fun i v e => by rw [hd i (cst_lo e)]; exact e

/-- behind the block: its frame C may change -/
theorem Inv.compBack {N : List Str} {sc : Scope} {cl : List (Str × Addr)} {fp : List Addr} {σ' : St} {H' : Hp} {s' : Shared} {h' : Heap} (I : Inv X pins σ H s) (hf : ∀ b ∈ fp, FpOk X pins H b)
    (J : Inv (cxComp X N sc cl s H fp) [] σ' H' s') (hs : ∀ b o, b ≠ s.heap.objs.size → s'.heap.get? b = some o → h'.get? b = some o) : Inv X pins σ H' { s' with heap := h' } := by
  have ne : ∀ b o, s.heap.get? b = some o → b ≠ s.heap.objs.size := fun b o e => Nat.ne_of_lt (Heap.lt_size e)
  have nC : H' s.heap.objs.size = none := J.free
  refine I.call' (s' := { s' with heap := h' }) (ch := fp) J.os ⟨fun b o e n hb hx => ?_, fun b o e n hb hx => ?_, fun b o e n hx => J.base.free b o e n hx, fun b o e hx => ?_, J.base.tups, J.base.frzs, J.base.tbls⟩ (fun b u q => ?_) J.bare (fun b hb => ?_)
  · exact hs b o (ne b o e) (J.base.keep b o e n hb hx)
  · obtain ⟨sl, z⟩ := J.base.slot b o e n hb hx
    exact ⟨sl, hs b _ (ne b o e) z⟩
  · obtain ⟨o', z⟩ := J.base.there b o e hx
    exact ⟨o', hs b o' (ne b o e) z⟩
  · refine (J.hok b u q).stay (fun c v hc z => hs c v ?_ z) (fun _ z => z) fun _ _ z => z
    rintro rfl
    rcases hc with z | z
    · rw [← z, nC] at q; cases q
    · rw [nC] at z; cases z
  · obtain ⟨f0, f1, f2, f3, f4, f5⟩ := hf b hb
    exact ⟨f3, f1, f4, f5⟩
end
end L2

set_option Elab.async false
set_option linter.all false
set_option maxRecDepth 100000
namespace L2
open PySem PySem.Spec PyProof.Rows

/-- the tests of a clause -/
def PTs (X : Cx) (ifs : List Expr) (t : TT) : Prop :=
  ∀ (pins : List (Addr × Obj)) (s : Shared) (σ : St) (H : Hp) (Q : Bool → Hp → Prop), Inv X pins σ H s → t σ H Q →
    wpAny (model X.prog X.w) X.A (forIn ifs true fun c r => if r = true then do let ok ← isTrue c X.env (eval c X.env); pure (ForInStep.yield ok) else pure (ForInStep.yield r)) (TP X pins σ Q) X.xe s
def tTT : TT := fun _ H Q => Q true H
theorem pts_nil {X : Cx} : PTs X [] tTT := fun _ _ _ H _ I h => wpAny_tests_nil ⟨H, I, h⟩
theorem pts_one {X : Cx} {c : Expr} {t : TT} (h : PT X c t) : PTs X [c] t := fun pins s σ H Q I q => wpAny_tests_one (h pins s σ H Q I q)

/-- what a comprehension's block does: J its source, D its list, σ0 its names at each turn's start -/
def CompBody (J : It) (g : TG) (tt : TT) (te : TE) (k : Nat) (σ0 : St) (D : Addr) (H1 : Hp) (Q : Hp → Prop) : Prop :=
  ∃ W : Nat → Nat → List V → Hp → Prop, (∃ m, W 0 m [] (upd H1 D (.lst []))) ∧ ∀ i m ys H, W i m ys H →
    (J.stop i H ∧ Q H) ∨ (J.go i H ∧ ∃ N : List V → Hp → Prop, (∀ ys' H', N ys' H' → ∃ m', m' < m ∧ W (i + 1) m' ys' H') ∧ ∀ x H2, J.yld i H x H2 → g x σ0 H2 fun σ3 H3 => (σ3.length = σ0.length ∧ ∀ j, k ≤ j → σ3[j]? = σ0[j]?) ∧ tt σ3 H3 fun b H4 =>
      if b = true then te σ3 H4 fun y H5 => H5 D = some (.lst ys) ∧ ys.length < sizeLine ∧ N (ys ++ [y]) (upd H5 D (.lst (ys ++ [y]))) else N ys H4)
def tComp (wi : TI) (g : TG) (tt : TT) (te : TE) (k : Nat) (js : List Nat) : TE := fun σ H Q => wi σ H fun J H1 => ∀ D, H1 D = none → CompBody J g tt te k (cst σ k js) D H1 fun H2 => Q (.ref D) H2

section
variable {X : Cx} {elt iter tg : Expr} {ifs : List Expr} {sc sx : Scope} {N NX : List Str} {k : Nat} {js : List Nat} {wi : TI} {g : TG} {tt : TT} {te : TE} {pos : Pos}

/-- the block: from the iterator on -/
theorem comp_block {pins : List (Addr × Obj)} {σ : St} {cl : List (Str × Addr)} {Q : Addr → Hp → Prop} {RR : Value → Addr → Result → Shared → Prop} {s2 : Shared} {it : Addr} {fp : List Addr} {tn : Nat → Heap → Prop} {J : It} {H2 : Hp}
    (hc : X.calm = true) (hk : sc.kind = .function) (hcell : ∀ y ∈ sc.names, y.2 ≠ .cell) (hNX : X.N = NX) (hsx : X.env.scope = sx) (hfr : frOk NX N sx sc k js = true)
    (hsub : ∀ n c, cl.lookup n = some c → X.env.cells.lookup n = some c) (hall : ∀ y ∈ sc.names, y.2 = .free → ∃ c, cl.lookup y.1 = some c)
    (hg : ∀ s H ex, PG (cxComp X N sc cl s H ex) tg g) (ht : ∀ s H ex, PTs (cxComp X N sc cl s H ex) ifs tt) (he : ∀ s H ex, PE (cxComp X N sc cl s H ex) elt te)
    (I2 : Inv X pins σ H2 s2) (T : Turn X.prog X.w X.K tg J fp it tn) (st2 : tn 0 s2.heap) (f2 : ∀ b ∈ fp, FpOk X pins H2 b)
    (hq : ∀ D, H2 D = none → CompBody J g tt te k (cst σ k js) D H2 (Q D))
    (hR : ∀ (D : Addr) (s3 s4 : Shared) (H3 H4 : Hp) (σ4 : St), s3.heap.get? s3.heap.objs.size = none → Inv X pins σ H3 s3 → (∀ b ∈ fp, FpOk X pins H3 b) → Inv (cxComp X N sc cl s3 H3 fp) [] σ4 H4 s4 → Q D H4 → RR (.ref D) s3.heap.objs.size (.ok .next) s4) :
    wpAny (model X.prog X.w) X.A (newList []) (fun acc s3 => wpAny (model X.prog X.w) X.A (newFunctionEnv sc X.env.globals cl [] X.env.qual none .none (some X.env)) (fun cenv s4 =>
      codeAny (model X.prog X.w) X.A (.compStart (.ListComp elt [⟨tg, iter, ifs, 0⟩] sc pos) 0 (.ref it) acc { cenv with scope := relabel sc X.env }) (RR acc cenv.locals) s4) X.xe s3) X.xe s2 := by
  have hD : H2 s2.heap.objs.size = none := I2.hok.fresh (Nat.le_refl _)
  refine wpAny_newObj_type ?_
  have I3 : Inv X pins σ (upd H2 s2.heap.objs.size (.lst [])) { s2 with heap := s2.heap.push { cls := .type "list", dict := none, data := .seq ([] : List Value).toArray } } := I2.laid (t' := s2.toks) (fun b u e => Heap.get?_push_of_some _ e) (Nat.le_refl _) ⟨Nat.zero_le _, [], 0, .nil, Heap.get?_push_size _ rfl⟩
  have f3 : ∀ b ∈ fp, FpOk X pins (upd H2 s2.heap.objs.size (.lst [])) b := fun b hb => by
    obtain ⟨o, e, _⟩ := T.obj _ _ st2 b hb
    obtain ⟨f0, fr⟩ := f2 b hb
    exact ⟨by rw [upd_ne (Nat.ne_of_lt (Heap.lt_size e))]; exact f0, fr⟩
  have st3 : tn 0 (s2.heap.push { cls := .type "list", dict := none, data := .seq ([] : List Value).toArray }) := T.keep _ _ _ st2 fun b _ o e => Heap.get?_push_of_some _ e
  have q3 := hq s2.heap.objs.size hD
  generalize s2.heap.objs.size = D at I3 f3 q3 ⊢
  generalize e3 : ({ s2 with heap := s2.heap.push { cls := .type "list", dict := none, data := .seq ([] : List Value).toArray } } : Shared) = s3 at I3 ⊢
  have st3 : tn 0 s3.heap := by rw [← e3]; exact st3
  have in3 : ∀ b ∈ fp, ∃ o, s3.heap.get? b = some o := fun b hb => by
    obtain ⟨o, e, _⟩ := T.obj _ _ st3 b hb
    exact ⟨o, e⟩
  refine wpAny_newFunctionEnv hcell (by intro y hy; simp at hy) (fun h1 hns hsb => ?_) hk
  have keep : ∀ b o, s3.heap.get? b = some o → h1.get? b = some o := fun b o e => hsb.extBut b o (Nat.ne_of_lt (Heap.lt_size e)) (Heap.get?_push_of_some _ e)
  have I4 : Inv (cxComp X N sc cl s3 (upd H2 D (.lst [])) fp) [] (cst σ k js) (upd H2 D (.lst [])) { s3 with heap := h1, toks := s3.toks + ([] : List (Str × Value)).length } := I3.compStart f3 in3 hk hsub hall hcell hNX hsx hfr hns keep
  have st4 : tn 0 h1 := T.keep _ _ _ st3 fun b _ o e => keep b o e
  obtain ⟨W, ⟨m0, w0⟩, turn⟩ := q3
  have stat : ∀ {H' : Hp}, (∀ b ∈ fp, H' b = none) → ∀ b ∈ fp, FpOk (cxComp X N sc cl s3 (upd H2 D (.lst [])) fp) [] H' b := fun hn b hb => by
    obtain ⟨o, e⟩ := in3 b hb
    refine ⟨hn b hb, Nat.ne_of_lt (Heap.lt_size e), I4.ok.exfs b hb, .inl hb, fun x c h z => (f3 b hb).2.2.2.2.1 x c (hsub x c h) z, fun p hp => absurd (show p ∈ ([] : List (Addr × Obj)) from hp) (by simp)⟩
  have loop : ∀ s5 : Shared, Inv (cxComp X N sc cl s3 (upd H2 D (.lst [])) fp) [] (cst σ k js) (upd H2 D (.lst [])) s5 → tn 0 s5.heap → upd H2 D (.lst []) D = some (.lst []) →
      codeAny (model X.prog X.w) X.A (.compLoop (.ListComp elt [⟨tg, iter, ifs, 0⟩] sc pos) 0 (.ref it) (.ref D) (compEnvC sc cl s3.heap.objs.size X.env)) (RR (.ref D) s3.heap.objs.size) s5 := fun s5 I5 st5 _ => by
    refine comp_walk (fun n s' => ∃ i ys H', Inv (cxComp X N sc cl s3 (upd H2 D (.lst [])) fp) [] (cst σ k js) H' s' ∧ tn i s'.heap ∧ (∀ b ∈ fp, H' b = none) ∧ W i n ys H') ?_ m0 ⟨0, [], _, I5, st5, fun b hb => (f3 b hb).1, w0⟩
    rintro n s6 ⟨i, ys, H6, I6, st6, fr6, w6⟩
    rcases turn i n ys H6 w6 with ⟨stop, qe⟩ | ⟨go, NN, hN, step⟩
    · refine thn (T.done (cxComp X N sc cl s3 (upd H2 D (.lst [])) fp) rfl rfl rfl hc i [] s6 _ H6 _ I6 (stat fr6) st6 stop) fun r s7 ⟨hr, I7⟩ => ?_
      subst hr
      exact hR D s3 s7 _ H6 _ (Heap.get?_none_of_le (Nat.le_refl _)) I3 f3 I7 qe
    · refine thn (T.item (cxComp X N sc cl s3 (upd H2 D (.lst [])) fp) rfl rfl rfl hc i [] s6 _ H6 _ I6 (stat fr6) st6 go) fun r s7 ⟨u, hr, h7⟩ => ?_
      subst hr
      refine thn h7 fun _ s8 ⟨x, H8, I8, r8, y8, st8, fr8⟩ => ?_
      have I8' := I8.pinned (stat fr8) (T.obj _ _ st8)
      refine thn (hg _ _ _ _ s8 _ H8 x u _ I8' r8 (step x H8 y8)) fun _ s9 ⟨σ9, H9, I9, ⟨l9, d9⟩, q9⟩ => ?_
      refine thn (ht _ _ _ _ s9 σ9 H9 _ I9 q9) fun ok s10 ⟨H10, I10, q10⟩ => ?_
      have back : ∀ {H' : Hp} {s' : Shared}, Inv (cxComp X N sc cl s3 (upd H2 D (.lst [])) fp) ([] ++ pinsAt fp s8.heap) σ9 H' s' → Inv (cxComp X N sc cl s3 (upd H2 D (.lst [])) fp) [] (cst σ k js) H' s' ∧ tn (i + 1) s'.heap ∧ ∀ b ∈ fp, H' b = none := fun {H' s'} Ie => by
        refine ⟨(Ie.unpinned).compWeak (by rw [l9, cst_len]) d9, T.keep _ _ _ st8 fun b hb o e => (Ie.pin (b, o) (List.mem_append_right _ (List.mem_append_right _ (mem_pinsAt hb e)))).1, fun b hb => ?_⟩
        obtain ⟨o, e, d⟩ := T.obj _ _ st8 b hb
        exact (Ie.pin (b, o) (List.mem_append_right _ (List.mem_append_right _ (mem_pinsAt hb e)))).2.1
      cases ok with
      | false =>
        obtain ⟨m', hm, w'⟩ := hN ys H10 q10
        obtain ⟨b1, b2, b3⟩ := back I10
        exact ⟨m', hm, i + 1, ys, H10, b1, b2, b3, w'⟩
      | true =>
        refine thn (he _ _ _ _ s10 σ9 H10 _ I10 q10) fun yv s11 ⟨y, H11, I11, r11, hl, hz, nn⟩ => ?_
        obtain ⟨m', hm, w'⟩ := hN _ _ nn
        refine thn (mt_append (X := cxComp X N sc cl s3 (upd H2 D (.lst [])) fp) _ s11 σ9 H11 (.ref D) [y] (.ref D) [yv] (fun _ H' => H' = upd H11 D (.lst (ys ++ [y]))) I11 rfl (.cons r11 .nil) ⟨D, ys, y, rfl, rfl, hl, hz, rfl⟩) fun _ s12 ⟨_, H12, I12, _, e12⟩ => ?_
        subst e12
        obtain ⟨b1, b2, b3⟩ := back I12
        exact ⟨m', hm, i + 1, ys ++ [y], _, b1, b2, b3, w'⟩
  exact codeAny_compStart_list (loop _ I4 st4 upd_same) (T.self _ 0 _ _ _ st4 (loop _ I4 st4 upd_same))

/-- [elt for tg in iter if ..] as a value -/
theorem pe_comp (NX : List Str) (sx : Scope) (k : Nat) (js : List Nat) (N : List Str) (hc : X.calm = true) (hfr : frOk NX N sx sc k js = true) (hi : PI X tg iter wi)
    (hg : ∀ cl s H ex, PG (cxComp X N sc cl s H ex) tg g) (ht : ∀ cl s H ex, PTs (cxComp X N sc cl s H ex) ifs tt) (he : ∀ cl s H ex, PE (cxComp X N sc cl s H ex) elt te)
    (hfree : ∀ y ∈ sc.names, y.2 = .free → sx.names.lookup y.1 = some .cell) (hnames : ∀ y ∈ sc.names, y.2 = .local → sc.names.lookup y.1 = some .local) (hcell : ∀ y ∈ sc.names, y.2 ≠ .cell)
    (hNX : X.N = NX := by rfl) (hsx : X.env.scope = sx := by rfl) (hk : sc.kind = .function := by rfl) (hs : ∀ x, foldedSetIterable iter X.env x = pure x := by intro _; rfl) :
    PE X (.ListComp elt [⟨tg, iter, ifs, 0⟩] sc pos) (tComp wi g tt te k js) := by
  intro pins s σ H Q I h
  obtain ⟨cl, hclos, hsub, hall⟩ := closure_ok (env := X.env) (sc := sc) fun y hy hf => I.ok.has y.1 (.inl (by show X.env.scope.names.lookup y.1 = _; rw [hsx]; exact hfree y hy hf))
  rw [eval_ListComp]
  refine wpAny_comprehension_free (use := none) rfl hs hclos hk hnames (thn (hi pins s σ H _ I h) fun xv s1 h1 => thn h1 fun itv s2 h2 => ?_)
  obtain ⟨it, fp, tn, J, H2, e, I2, T, st2, f2, q2⟩ := h2
  subst e
  refine comp_block (RR := fun acc C => compPost (model X.prog X.w) X.A X.xe none (EP X pins σ Q) acc C) (Q := fun D H' => Q (.ref D) H') hc hk hcell hNX hsx hfr hsub hall (hg cl) (ht cl) (he cl) I2 T st2 f2 q2 ?_
  intro D s3 s4 H3 H4 σ4 _ I3 f3 J4 q4
  obtain ⟨m, hn, _⟩ := J4.loc
  exact ⟨m, hn, fun h' hs' => ⟨.ref D, H4, I3.compBack f3 J4 fun b o hb e => (hs'.2 b hb).trans e, rfl, q4⟩⟩

/-- name = [elt for tg in iter if ..], a plain local name -/
theorem ps_comp (NX : List Str) (sx : Scope) (k : Nat) (js : List Nat) (N : List Str) {i : Nat} {y : Str} {py spos : Pos} (hN : X.N.Nodup) (hyi : X.N[i]? = some y) (hc : X.calm = true) (hfr : frOk NX N sx sc k js = true) (hi : PI X tg iter wi)
    (hg : ∀ cl s H ex, PG (cxComp X N sc cl s H ex) tg g) (ht : ∀ cl s H ex, PTs (cxComp X N sc cl s H ex) ifs tt) (he : ∀ cl s H ex, PE (cxComp X N sc cl s H ex) elt te)
    (hfree : ∀ y ∈ sc.names, y.2 = .free → sx.names.lookup y.1 = some .cell) (hnames : ∀ y ∈ sc.names, y.2 = .local → sc.names.lookup y.1 = some .local) (hcell : ∀ y ∈ sc.names, y.2 ≠ .cell)
    (hy : X.env.scope.names.lookup y = some .local := by rfl)
    (hsw : swapsWith (.ListComp elt [⟨tg, iter, ifs, 0⟩] sc pos) (some (.Name y py)) spos.line X.env = pure true := by rfl)
    (hNX : X.N = NX := by rfl) (hsx : X.env.scope = sx := by rfl) (hk : sc.kind = .function := by rfl) (hs : ∀ x, foldedSetIterable iter X.env x = pure x := by intro _; rfl) :
    PS X (.Assign [.Name y py] (.ListComp elt [⟨tg, iter, ifs, 0⟩] sc pos) spos) (tAsg (tComp wi g tt te k js) (gName i)) := by
  intro pins s σ H D I h
  obtain ⟨cl, hclos, hsub, hall⟩ := closure_ok (env := X.env) (sc := sc) fun y hy hf => I.ok.has y.1 (.inl (by show X.env.scope.names.lookup y.1 = _; rw [hsx]; exact hfree y hy hf))
  rw [exec_Assign_Name_used _ _ _ _ hsw]
  refine wpAny_bind (wpAny_standAt (wpAny_bind ?_))
  show wpAny _ X.A (comprehension (.ListComp elt [⟨tg, iter, ifs, 0⟩] sc pos) sc X.env _ (newList []) false (eval iter X.env) (some (assign (.Name y py) X.env)) >>= fun _ => pure ()) _ _ s
  refine wpAny_bind (wpAny_mono (Q := fun _ s' => SP X pins D .next s') (wpAny_comprehension_free (use := some (assign (.Name y py) X.env)) (Q := fun _ s' => SP X pins D .next s') rfl hs hclos hk hnames
    (thn (hi pins s σ H _ I h) fun xv s1 h1 => thn h1 fun itv s2 h2 => ?_)) (fun _ s' hq => wpAny_pure (wpAny_pure hq)) fun _ _ e => e)
  obtain ⟨it, fp, tn, J, H2, e, I2, T, st2, f2, q2⟩ := h2
  subst e
  refine comp_block (RR := fun acc C => compPost (model X.prog X.w) X.A X.xe (some (assign (.Name y py) X.env)) (fun _ s' => SP X pins D .next s') acc C) (Q := fun L H' => D.nx (σ.set i (some (.ref L))) H') hc hk hcell hNX hsx hfr hsub hall (hg cl) (ht cl) (he cl) I2 T st2 f2 q2 ?_
  intro L s3 s4 H3 H4 σ4 _ I3 f3 J4 q4
  obtain ⟨m, hn, _⟩ := J4.loc
  have I4 : Inv X pins σ H4 s4 := I3.compBack (h' := s4.heap) f3 J4 fun b o _ e => e
  show wpAny _ X.A (assign (.Name y py) X.env (.ref L)) _ _ _
  refine wpAny_assign_Name (store_ok2 I4 hN hyi (.inl hy) (v := .ref L) (u := .ref L) rfl (fun s5 I5 hsb => ?_) (.inr hy))
  have neC : ∀ a, (a = X.env.locals ∨ X.env.cells.lookup y = some a) → a ≠ s3.heap.objs.size := fun a ha z => by
    rcases ha with ha | ha
    · have := I3.lt
      rw [← ha, z] at this
      exact Nat.lt_irrefl _ this
    · obtain ⟨v, q⟩ := I3.cell y a ha
      have := q.lt
      rw [z] at this
      exact Nat.lt_irrefl _ this
  obtain ⟨a, sb, ha⟩ := hsb
  refine ⟨m, hn.sameBut sb (Ne.symm (neC a ha)), fun h' hs' => ?_⟩
  have fC : H4 s3.heap.objs.size = none := J4.free
  refine ⟨_, H4, ?_, q4⟩
  have nL : X.env.locals ≠ s3.heap.objs.size := neC _ (.inl rfl)
  refine I5.turned (it := s3.heap.objs.size) (t' := s5.toks) (fun b o hb e => (hs'.2 b hb).trans e) fC (Ne.symm nL) (.inr I3.sz) (fun x c e z => ?_) fun p hp z => ?_
  · obtain ⟨v, q⟩ := I3.cell x c e
    have := q.lt
    rw [z] at this
    exact Nat.lt_irrefl _ this
  · have := Heap.lt_size (I3.pin p hp).1
    rw [z] at this
    exact Nat.lt_irrefl _ this
end
end L2

set_option Elab.async false
set_option linter.all false
set_option maxRecDepth 100000
namespace L2
open PySem PySem.Spec PyProof.Rows
section
variable {X : Cx}
/-- isinstance(x, T), T a built-in type -/
def rIsi (K : PySem.W.Frag) : List V → Hp → VK → Prop := fun xs H Q => ∃ x T t b, xs = [x, .ty T] ∧ TyOf K H x t ∧ PySem.W.kitOne K t (.type T) = some b ∧ Q (.bl b) H
theorem call_isi : CallR X (.builtin "isinstance") (rIsi X.K) := by
  intro pins s σ H xs us Q I r h
  obtain ⟨x, T, t, b, rfl, ty, e, q⟩ := h
  obtain ⟨u, w, rfl, rx, ry⟩ := vals2 r
  cases ry
  exact isinst_ok I rx ty e fun tk => ⟨.bl b, H, I.tok _, rfl, q⟩

/-- // by a positive divisor below 2^64 -/
def CDivB (_ j : Int) : Prop := 0 < j ∧ j < 18446744073709551616
theorem op_fdivB : OpR X (binaryOp .FloorDiv) (rI CDivB fun i j => .int (i / j)) := opI fun i j _ _ _ _ _ hc q => by
  have h1 : (0 : Int) < j := hc.1
  have h2 : j < 18446744073709551616 := hc.2
  refine floordiv_int (by omega) (by rw [Int.fdiv_eq_ediv_of_nonneg i (by omega)]; exact q) (.inl (PyProof.noPylong_of_log2 ?_))
  have h0 : j.natAbs ≠ 0 := by omega
  have h64 : j.natAbs.log2 < 64 := (Nat.log2_lt h0).mpr (by omega)
  omega

/-- two items that == tells: flat ones, or one object -/
def EqW (x y : V) (b : Bool) : Prop := (flatV x = true ∧ flatV y = true ∧ b = eqV x y) ∨ (∃ a, x = .ref a ∧ y = .ref a ∧ b = true)
theorem EqW.at {A : Around} {s : Shared} {x y : V} {u v : Value} {b : Bool} (h : EqW x y b) (rx : RelV x u) (ry : RelV y v) : SeqAt.EqAt A s u v b := by
  rcases h with ⟨fx, fy, e⟩ | ⟨a, e1, e2, e3⟩
  · subst e
    exact eqAt_V rx ry fx fy
  · subst e1 e2 e3
    cases rx
    cases ry
    exact SeqAt.EqAt.same _
def rEqL (K : PySem.W.Frag) : R2 := fun x y H Q => ∃ a b xs ys, x = .ref a ∧ y = .ref b ∧ SqL K H a xs ∧ SqL K H b ys ∧
  ((xs.length ≠ ys.length ∧ Q (.bl false) H) ∨ (xs.length = ys.length ∧ ∃ e : Nat → Bool, (∀ j x y, xs[j]? = some x → ys[j]? = some y → EqW x y (e j)) ∧ Q (.bl ((List.range xs.length).all e)) H))
theorem op_eqL (hu : X.A.units < cLine) : OpR X (compareOp .Eq) (rEqL X.K) := by
  intro pins s σ H x y v u Q I rx ry h
  obtain ⟨a, b, xs, ys, rfl, rfl, ha, hb, h⟩ := h
  cases rx
  cases ry
  obtain ⟨its, r1, p1, _⟩ := I.list ha
  obtain ⟨its2, r2, p2, _⟩ := I.list hb
  have l1 := r1.length
  have l2 := r2.length
  rcases h with ⟨hn, q⟩ | ⟨he, e, hq, q⟩
  · refine SeqAt.eq_list_lengthsAt p1.isList p2.isList ?_ hu ⟨.bl false, H, I, rfl, q⟩
    simp only [List.size_toArray, bne_iff_ne, ne_eq]
    omega
  · refine SeqAt.eq_listAt (e := e) p1.isList p2.isList (by simp only [List.size_toArray]; omega) hu (fun j h1 h2 => ?_) ?_
    · simp only [List.size_toArray] at h1 h2
      have e1 : xs[j]? = some xs[j] := List.getElem?_eq_getElem (by omega)
      have e2 : ys[j]? = some ys[j] := List.getElem?_eq_getElem (by omega)
      obtain ⟨v1, g1, rv1⟩ := r1.get e1
      obtain ⟨v2, g2, rv2⟩ := r2.get e2
      have z1 : its.toArray[j] = v1 := by
        have : its[j]? = some its[j] := List.getElem?_eq_getElem h1
        rw [this] at g1
        simpa using Option.some.inj g1
      have z2 : its2.toArray[j] = v2 := by
        have : its2[j]? = some its2[j] := List.getElem?_eq_getElem h2
        rw [this] at g2
        simpa using Option.some.inj g2
      rw [z1, z2]
      exact (hq j _ _ e1 e2).at rv1 rv2
    · have z : its.toArray.size = xs.length := by simp only [List.size_toArray]; omega
      rw [z]
      exact ⟨.bl _, H, I, rfl, q⟩
/-- xs == [] -/
theorem rEqL_nil {K : PySem.W.Frag} {H : Hp} {Q : VK} {a b : Addr} {xs : List V} (ha : SqL K H a xs) (hb : SqL K H b []) (q : Q (.bl (decide (xs = []))) H) : rEqL K (.ref a) (.ref b) H Q := by
  refine ⟨a, b, xs, [], rfl, rfl, ha, hb, ?_⟩
  cases xs with
  | nil => exact .inr ⟨rfl, fun _ => true, fun j x y e => by simp at e, q⟩
  | cons x xs => exact .inl ⟨by simp, by simpa using q⟩

/-- sum(xs), a list of ints -/
theorem call_sum (hc : X.calm = true) : CallR X (.builtin "sum") (fun xs H Q => ∃ (p : Addr) (ns : List Int), xs = [.ref p] ∧ SqL X.K H p (ns.map V.int) ∧ Q (.int ns.sum) H) := by
  intro pins s σ H xs us Q I r h
  obtain ⟨p, ns, rfl, hq, q⟩ := h
  obtain ⟨u, rfl, rx⟩ := vals1 r
  cases rx
  obtain ⟨its, r', pl, hz⟩ := I.list hq
  have hi : IntsAre its ns := intsAre_of r'
  obtain ⟨zs, hx⟩ := hi.allInts.items
  have hl' : s.heap.IsList p (intItems zs) := hx ▸ pl.isList
  refine sum_intListG (I.ok.hd hc) hl' fun h' tk t' hk => ?_
  have e1 : ns = zs.toList.map (·.1) := by
    rw [← nums_intItems, ← hx]
    exact (show numsOf its.toArray.toList = ns from hi.numsOf).symm
  have e2 : preSum (numAt zs) zs.size = ns.sum := by
    rw [preSum_eq, List.take_of_length_le (by simp), e1]
  rw [e2]
  exact ⟨.int ns.sum, H, I.kept hk, ⟨_, rfl⟩, q⟩
end
end L2

set_option Elab.async false
set_option linter.all false
set_option maxRecDepth 100000
/-! Readings, one lemma a construct; a def of the text as a thing to call. -/
namespace L2
open PySem PySem.Spec PyProof.Rows

/-- a def of the text, by its name -/
structure Fn (P : Program) (w : World) (K : PySem.W.Frag) (mg : Str → Option Value) (base : Heap) (x : Str) (k : Nat) (ps : List Str) (sp : Sp) : Prop where
  ex : ∃ f fd, FnOk P w K mg base CX0 k f fd ps sp ∧ mg x = some (.ref f) ∧ PySem.W.keepIn K (.ref f) = true ∧ Binds K fd ps []
section
variable {X : Cx} {k : Nat} {ps : List Str} {sp : Sp} {x : Str} {p pos : Pos} {e : Expr} {es : List Expr} {t : TA}
theorem pe_fn {j : Nat} (F : Fn X.prog X.w X.K X.mg X.base x k ps sp) (hr : Room j X.A) (hj : k ≤ j) (hg : Gl X x) (ha : PA X (e :: es) t) (hdb : (x == ("__debug__" : Str)) = false := by decide)
    (he : starEach (e :: es) X.env = (false, eval e X.env) :: starEach es X.env := by rfl) (hpl : (backTo pos (starEach es X.env)).any (·.1) = false := by rfl) :
    PE X (.Call (.Name x p) (e :: es) [] pos) (tCall sp [] E0 t) := by
  obtain ⟨f, fd, G, hm, hk, hb⟩ := F.ex
  exact pe_call G (hr.mono hj) hg hm hk hb .nil pass0 ha hdb he hpl
theorem pe_globI {i : Int} (hg : Gl X x) (hm : ∃ t, X.mg x = some (.int i t)) (hd : (x == ("__debug__" : Str)) = false := by decide) : PE X (.Name x pos) (tC (.int i)) := by
  obtain ⟨t, hm⟩ := hm
  exact pe_glob hg hm ⟨t, rfl⟩ hd
end

section
variable {σ : St} {H : Hp} {Q : VK} {D : Ends} {ta tb tc : TE} {t u : TS} {tt uu : TT} {tA : TA}
theorem r_var {i : Nat} {v : V} (e : σ[i]? = some (some v)) (q : Q v H) : tVar i σ H Q := ⟨v, e, q⟩
theorem r_c {v : V} (q : Q v H) : tC v σ H Q := q
theorem r_op {r : R2} (q : ta σ H fun x H1 => tb σ H1 fun y H2 => r x y H2 Q) : tOp r ta tb σ H Q := q
theorem r_un {r : V → Hp → VK → Prop} (q : ta σ H fun x H1 => r x H1 Q) : tUn r ta σ H Q := q
theorem r_I0 {g : Int → Int → V} {i j : Int} (q : Q (g i j) H) : rI0 g (.int i) (.int j) H Q := ⟨i, j, rfl, rfl, q⟩
theorem r_I {C : Int → Int → Prop} {g : Int → Int → V} {i j : Int} (c : C i j) (q : Q (g i j) H) : rI C g (.int i) (.int j) H Q := ⟨i, j, rfl, rfl, c, q⟩
theorem r_U {g : Int → V} {i : Int} (q : Q (g i) H) : rU g (.int i) H Q := ⟨i, rfl, q⟩
theorem r_EqI {i j : Int} (q : Q (.bl (decide (i = j))) H) : rEq (.int i) (.int j) H Q := ⟨rfl, by rw [show decide (V.int i = V.int j) = decide (i = j) by simp]; exact q⟩
theorem r_NeI {i j : Int} (q : Q (.bl (!decide (i = j))) H) : rNe (.int i) (.int j) H Q := ⟨rfl, by rw [show decide (V.int i = V.int j) = decide (i = j) by simp]; exact q⟩
theorem r_EqS {i j : Str} (q : Q (.bl (decide (i = j))) H) : rEq (.str i) (.str j) H Q := ⟨rfl, by rw [show decide (V.str i = V.str j) = decide (i = j) by simp]; exact q⟩
theorem r_NeS {i j : Str} (q : Q (.bl (!decide (i = j))) H) : rNe (.str i) (.str j) H Q := ⟨rfl, by rw [show decide (V.str i = V.str j) = decide (i = j) by simp]; exact q⟩
theorem r_test {q' : Bool → Hp → Prop} (q : ta σ H fun x H' => ∃ k, x = .bl k ∧ q' k H') : tTest ta σ H q' := q
theorem r_tB {q' : Bool → Hp → Prop} (q : ta σ H fun x H' => ∃ k, x = .bl k ∧ q' k H') : tB ta σ H q' := q
theorem r_bl {k : Bool} {q' : Bool → Prop} (q : q' k) : ∃ k', V.bl k = .bl k' ∧ q' k' := ⟨k, rfl, q⟩
theorem r_and {q' : Bool → Hp → Prop} (q : tt σ H fun c H1 => if c = true then uu σ H1 q' else q' false H1) : tAnd tt uu σ H q' := q
theorem r_or {q' : Bool → Hp → Prop} (q : tt σ H fun c H1 => if c = true then q' true H1 else uu σ H1 q') : tOr tt uu σ H q' := q
theorem r_not {q' : Bool → Hp → Prop} (q : tt σ H fun c H1 => q' (!c) H1) : tNot tt σ H q' := q
theorem r_andV (q : ta σ H fun x H1 => ∃ c, x = .bl c ∧ if c = true then tb σ H1 Q else Q (.bl false) H1) : tAndV ta tb σ H Q := q
theorem r_orV (q : ta σ H fun x H1 => ∃ c, x = .bl c ∧ if c = true then Q (.bl true) H1 else tb σ H1 Q) : tOrV ta tb σ H Q := q
theorem r_notV (q : ta σ H fun x H1 => ∃ c, x = .bl c ∧ Q (.bl (!c)) H1) : tNotV ta σ H Q := q
theorem r_if (q : tt σ H fun c H1 => if c = true then ta σ H1 Q else tb σ H1 Q) : tIf tt ta tb σ H Q := q
theorem r_next (q : D.nx σ H) : tNext D σ H := q
theorem r_seq (q : t { D with nx := u D } σ H) : tSeq t u D σ H := q
theorem r_drop (q : ta σ H fun _ H1 => D.nx σ H1) : tDrop ta D σ H := q
theorem r_ret (q : ta σ H D.rt) : tRet ta D σ H := q
theorem r_ifS (q : tt σ H fun b H1 => if b = true then t D σ H1 else u D σ H1) : tIfS tt t u D σ H := q
theorem r_asg {g : TG} (q : ta σ H fun x H1 => g x σ H1 D.nx) : tAsg ta g D σ H := q
theorem r_name {i : Nat} {v : V} {q' : St → Hp → Prop} (q : q' (σ.set i (some v)) H) : gName i v σ H q' := q
theorem r_gnil {q' : St → Hp → Prop} (q : q' σ H) : gNil [] σ H q' := ⟨rfl, q⟩
theorem r_gcons {g : TG} {gs : TGs} {v : V} {r : List V} {q' : St → Hp → Prop} (q : g v σ H fun σ' H' => gs r σ' H' q') : gCons g gs (v :: r) σ H q' := ⟨v, r, rfl, q⟩
theorem r_gtup {K : PySem.W.Frag} {n : Nat} {gs : TGs} {a : Addr} {xs : List V} {q' : St → Hp → Prop} (h : SqT K H a xs) (hn : xs.length = n) (q : gs xs σ H q') : gTup K n gs (.ref a) σ H q' := ⟨a, xs, rfl, h, hn, q⟩
theorem r_gsub {g : TSet} {v : V} {q' : St → Hp → Prop} (q : ta σ H fun o H1 => tb σ H1 fun i H2 => g o i v H2 fun H3 => q' σ H3) : gSub ta tb g v σ H q' := q
theorem r_augS {tget : V → V → Hp → VK → Prop} {tip : TIp} {tset : TSet} (q : ta σ H fun o H1 => tb σ H1 fun i H2 => tget o i H2 fun x H3 => tc σ H3 fun y H4 => tip x y H4 fun z H5 => tset o i z H5 fun H6 => D.nx σ H6) :
    tAugS ta tb tc tget tip tset D σ H := q
theorem r_nil {q' : List V → Hp → Prop} (q : q' [] H) : tNil σ H q' := q
theorem r_cons {q' : List V → Hp → Prop} (q : ta σ H fun x H1 => tA σ H1 fun xs H2 => q' (x :: xs) H2) : tCons ta tA σ H q' := q
theorem r_tup (q : tA σ H fun xs H1 => xs.length ≤ sizeLine ∧ ∀ p, H1 p = none → Q (.ref p) (upd H1 p (.tup xs))) : tTup tA σ H Q := q
theorem r_lst (q : tA σ H fun xs H1 => xs.length ≤ sizeLine ∧ ∀ p, H1 p = none → Q (.ref p) (upd H1 p (.lst xs))) : tLst tA σ H Q := q
theorem r_call {sp : Sp} (q : tA σ H fun vs H1 => sp (vs ++ []) H1 Q E0) : tCall sp [] E0 tA σ H Q := q
theorem r_cb {r : List V → Hp → VK → Prop} (q : tA σ H fun vs H1 => r vs H1 Q) : tCB r tA σ H Q := q
theorem r_bm {K : PySem.W.Frag} {T : String} {r : V → List V → Hp → VK → Prop} (q : ta σ H fun x H1 => tyV K T x H1 ∧ tA σ H1 fun xs H2 => r x xs H2 Q) : tBM K T r ta tA σ H Q := q
theorem r_app {l : Addr} {xs : List V} {y : V} (h : H l = some (.lst xs)) (hz : xs.length < sizeLine) (q : Q .non (upd H l (.lst (xs ++ [y])))) : rAppend (.ref l) [y] H Q := ⟨l, xs, y, rfl, rfl, h, hz, q⟩
theorem r_ixL {K : PySem.W.Frag} {p : Addr} {xs : List V} {i : Int} {v : V} (h : SqL K H p xs) (e : atI xs i = some v) (q : Q v H) : rIxL K (.ref p) (.int i) H Q := ⟨p, xs, i, v, rfl, rfl, h, e, q⟩
theorem r_ixT {K : PySem.W.Frag} {p : Addr} {xs : List V} {i : Int} {v : V} (h : SqT K H p xs) (e : atI xs i = some v) (q : Q v H) : rIxT K (.ref p) (.int i) H Q := ⟨p, xs, i, v, rfl, rfl, h, e, q⟩
theorem r_setL {p : Addr} {xs : List V} {k : Int} {j : Nat} {v : V} {q' : Hp → Prop} (h : H p = some (.lst xs)) (e : ixN xs.length k = some j) (q : q' (upd H p (.lst (xs.set j v)))) : rSetL (.ref p) (.int k) v H q' := ⟨p, xs, k, j, rfl, rfl, h, e, q⟩
theorem r_sl {r : V → Option Int → Option Int → Hp → VK → Prop} {tl th : TO} (q : ta σ H fun x H1 => tl σ H1 fun l H2 => th σ H2 fun u H3 => r x l u H3 Q) : tSl r ta tl th σ H Q := q
theorem r_noPart {q' : Option Int → Hp → Prop} (q : q' none H) : tNoPart σ H q' := q
theorem r_part {q' : Option Int → Hp → Prop} (q : ta σ H fun x H1 => ∃ i, x = .int i ∧ q' (some i) H1) : tPart ta σ H q' := q
theorem r_exI {i : Int} {q' : Int → Prop} (q : q' i) : ∃ i', V.int i = .int i' ∧ q' i' := ⟨i, rfl, q⟩
theorem r_isi {K : PySem.W.Frag} {x : V} {T : String} {t : Value} {b : Bool} (ty : TyOf K H x t) (e : PySem.W.kitOne K t (.type T) = some b) (q : Q (.bl b) H) : rIsi K [x, .ty T] H Q := ⟨x, T, t, b, rfl, ty, e, q⟩
theorem r_rng1 {q' : It → Hp → Prop} (q : tA σ H fun vs H1 => ∃ j : Int, vs = [.int j] ∧ -(2 ^ 62) ≤ j ∧ j < 2 ^ 62 ∧ q' (Itr 0 j.toNat) H1) : iRng1 tA σ H q' := q
theorem r_ilist {K : PySem.W.Frag} {q' : It → Hp → Prop} (q : ta σ H fun x H1 => ∃ a, x = .ref a ∧ (∃ xs, SqL K H1 a xs) ∧ q' (Itl K a) H1) : iList K ta σ H q' := q
end
theorem Same.new {H : Hp} {p : Addr} {o : HO} (h : H p = none) : Same H (upd H p o) := fun b u e => by rw [upd_ne (ne_of_none e h)]; exact e
theorem Same.out {H H' : Hp} {p : Addr} {o o' : HO} (h : H p = none) (s : Same (upd H p o) H') : Same H H' := (Same.new h).trans s
theorem Same.setp {H H' : Hp} {p : Addr} {o : HO} (h : H p = none) (s : Same H H') : Same H (upd H' p o) := fun b u e => by rw [upd_ne (ne_of_none e h)]; exact s b u e
theorem Same.seqT {K : PySem.W.Frag} {H H' : Hp} {a : Addr} {xs : List V} (e : Same H H') (h : SqT K H a xs) : SqT K H' a xs := by
  rcases h with (h | ⟨o, h⟩) | h
  · exact .inl (.inl (e _ _ h))
  · exact .inl (.inr ⟨o, e _ _ h⟩)
  · exact .inr h
theorem atI_ints {ns : List Int} {i : Int} (h0 : 0 ≤ i) (h1 : i < (ns.length : Int)) : atI (ns.map V.int) i = some (V.int (ns.getD i.toNat 0)) := by
  obtain ⟨j, rfl⟩ : ∃ j : Nat, i = (j : Int) := ⟨i.toNat, by omega⟩
  refine atI_nat ?_
  have hj : j < ns.length := by omega
  rw [List.getElem?_map, List.getElem?_eq_getElem hj]
  simp [List.getD, hj]
/-- for k in range(..) by its invariant -/
theorem r_for {wi : TI} {g : TG} {tb : TS} {D : Ends} {σ : St} {H : Hp} (q : wi σ H fun J H1 => ∃ W : Nat → Nat → St → Hp → Prop, (∃ m, W 0 m σ H1) ∧ ∀ i m σ H, W i m σ H →
    (J.stop i H ∧ D.nx σ H) ∨ (J.go i H ∧ ∃ N : St → Hp → Prop, (∀ σ' H', N σ' H' → ∃ m', m' < m ∧ W (i + 1) m' σ' H') ∧ ∀ x H', J.yld i H x H' → g x σ H' fun σ2 H2 => tb { D with nx := N, ct := N, bk := D.nx } σ2 H2)) : tFor wi g tb D σ H := q

/-- a comprehension over a range: ys at each turn -/
theorem comp_range {lo : Int} {n : Nat} {g : TG} {tt : TT} {te : TE} {k : Nat} {σ0 : St} {D : Addr} {H1 : Hp} {Q : Hp → Prop} (Pv : Nat → List V → Hp → Prop) (h0 : Pv 0 [] (upd H1 D (.lst [])))
    (hs : ∀ i ys H, i < n → Pv i ys H → g (.int (lo + i)) σ0 H fun σ3 H3 => (σ3.length = σ0.length ∧ ∀ j, k ≤ j → σ3[j]? = σ0[j]?) ∧ tt σ3 H3 fun b H4 =>
      if b = true then te σ3 H4 fun y H5 => H5 D = some (.lst ys) ∧ ys.length < sizeLine ∧ Pv (i + 1) (ys ++ [y]) (upd H5 D (.lst (ys ++ [y]))) else Pv (i + 1) ys H4)
    (hd : ∀ ys H, Pv n ys H → Q H) : CompBody (Itr lo n) g tt te k σ0 D H1 Q := by
  refine ⟨fun i m ys H => m = n - i ∧ i ≤ n ∧ Pv i ys H, ⟨n, by simp, Nat.zero_le _, h0⟩, ?_⟩
  rintro i m ys H ⟨rfl, hi, p⟩
  by_cases hlt : i < n
  · refine .inr ⟨hlt, Pv (i + 1), fun ys' H' p' => ⟨n - (i + 1), by omega, rfl, hlt, p'⟩, fun x H2 y => ?_⟩
    obtain ⟨e, y⟩ := y
    subst e y
    exact hs i ys _ hlt p
  · have e : i = n := by omega
    subst e
    exact .inl ⟨Nat.le_refl _, hd ys H p⟩
/-- .. over a list that stays -/
theorem comp_list {K : PySem.W.Frag} {a : Addr} {xs : List V} {g : TG} {tt : TT} {te : TE} {k : Nat} {σ0 : St} {D : Addr} {H1 : Hp} {Q : Hp → Prop} (Pv : Nat → List V → Hp → Prop) (h0 : Pv 0 [] (upd H1 D (.lst []))) (hl : ∀ i ys H, i ≤ xs.length → Pv i ys H → SqL K H a xs)
    (hs : ∀ i x ys H, xs[i]? = some x → Pv i ys H → g x σ0 H fun σ3 H3 => (σ3.length = σ0.length ∧ ∀ j, k ≤ j → σ3[j]? = σ0[j]?) ∧ tt σ3 H3 fun b H4 =>
      if b = true then te σ3 H4 fun y H5 => H5 D = some (.lst ys) ∧ ys.length < sizeLine ∧ Pv (i + 1) (ys ++ [y]) (upd H5 D (.lst (ys ++ [y]))) else Pv (i + 1) ys H4)
    (hd : ∀ ys H, Pv xs.length ys H → Q H) : CompBody (Itl K a) g tt te k σ0 D H1 Q := by
  refine ⟨fun i m ys H => m = xs.length - i ∧ i ≤ xs.length ∧ Pv i ys H, ⟨xs.length, by simp, Nat.zero_le _, h0⟩, ?_⟩
  rintro i m ys H ⟨rfl, hi, p⟩
  have q := hl i ys H hi p
  by_cases hlt : i < xs.length
  · refine .inr ⟨⟨xs, xs[i], q, by simp [hlt]⟩, Pv (i + 1), fun ys' H' p' => ⟨xs.length - (i + 1), by omega, rfl, hlt, p'⟩, fun x H2 y => ?_⟩
    obtain ⟨e, y⟩ := y
    subst e
    exact hs i x ys _ (y xs q) p
  · have e : i = xs.length := by omega
    subst e
    exact .inl ⟨⟨xs, q, Nat.le_refl _⟩, hd ys H p⟩
/-! built-in functions by names of their own -/
def rLen (K : PySem.W.Frag) : List V → Hp → VK → Prop := fun xs H Q => ∃ p ys, xs = [.ref p] ∧ (SqL K H p ys ∨ SqT K H p ys) ∧ Q (.int ys.length) H
def rSum (K : PySem.W.Frag) : List V → Hp → VK → Prop := fun xs H Q => ∃ (p : Addr) (ns : List Int), xs = [.ref p] ∧ SqL K H p (ns.map V.int) ∧ Q (.int ns.sum) H
def rMin : List V → Hp → VK → Prop := fun xs H Q => ∃ i j, xs = [.int i, .int j] ∧ Q (.int (if j < i then j else i)) H
def rMax : List V → Hp → VK → Prop := fun xs H Q => ∃ i j, xs = [.int i, .int j] ∧ Q (.int (if j > i then j else i)) H
def rListOf (K : PySem.W.Frag) : List V → Hp → VK → Prop := fun xs H Q => ∃ p ys, xs = [.ref p] ∧ (SqL K H p ys ∨ SqT K H p ys) ∧ ∀ l, H l = none → Q (.ref l) (upd H l (.lst ys))
def rIntOf : List V → Hp → VK → Prop := fun xs H Q => (∃ i, xs = [.int i] ∧ Q (.int i) H) ∨ ∃ k, xs = [.bl k] ∧ Q (.int (if k then 1 else 0)) H
section
variable {X : Cx}
theorem cb_len : CallR X (.builtin "len") (rLen X.K) := call_len_seq
theorem cb_sum (hc : X.calm = true) : CallR X (.builtin "sum") (rSum X.K) := call_sum hc
theorem cb_max (hc : X.calm = true) : CallR X (.builtin "max") rMax := call_max2 hc
theorem cb_list : CallR X (.type "list") (rListOf X.K) := call_list_of
theorem cb_int : CallR X (.type "int") rIntOf := call_int1
end
section
variable {K : PySem.W.Frag} {H : Hp} {Q : VK}
theorem r_lenL {p : Addr} {ys : List V} (h : SqL K H p ys) (q : Q (.int ys.length) H) : rLen K [.ref p] H Q := ⟨p, ys, rfl, .inl h, q⟩
theorem r_lenT {p : Addr} {ys : List V} (h : SqT K H p ys) (q : Q (.int ys.length) H) : rLen K [.ref p] H Q := ⟨p, ys, rfl, .inr h, q⟩
theorem r_sum {p : Addr} {ns : List Int} (h : SqL K H p (ns.map V.int)) (q : Q (.int ns.sum) H) : rSum K [.ref p] H Q := ⟨p, ns, rfl, h, q⟩
theorem r_min {i j : Int} (q : Q (.int (if j < i then j else i)) H) : rMin [.int i, .int j] H Q := ⟨i, j, rfl, q⟩
theorem r_max {i j : Int} (q : Q (.int (if j > i then j else i)) H) : rMax [.int i, .int j] H Q := ⟨i, j, rfl, q⟩
theorem r_list {p : Addr} {ys : List V} (h : SqL K H p ys) (q : ∀ l, H l = none → Q (.ref l) (upd H l (.lst ys))) : rListOf K [.ref p] H Q := ⟨p, ys, rfl, .inl h, q⟩
theorem r_intB {k : Bool} (q : Q (.int (if k then 1 else 0)) H) : rIntOf [.bl k] H Q := .inr ⟨k, rfl, q⟩
theorem r_isiInt {i : Int} (q : Q (.bl true) H) : rIsi K [.int i, .ty "int"] H Q := r_isi (.int i) rfl q
theorem r_isiNoB {i : Int} (q : Q (.bl false) H) : rIsi K [.int i, .ty "bool"] H Q := r_isi (.int i) rfl q
theorem r_isiList {a : Addr} {xs : List V} (h : H a = some (.lst xs)) (q : Q (.bl true) H) : rIsi K [.ref a, .ty "list"] H Q := r_isi (.lst h) rfl q
theorem r_isiTup {a : Addr} {xs : List V} (h : H a = some (.tup xs)) (q : Q (.bl true) H) : rIsi K [.ref a, .ty "tuple"] H Q := r_isi (.tup h) rfl q
theorem r_isiStr {x : Str} (q : Q (.bl true) H) : rIsi K [.str x, .ty "str"] H Q := r_isi (.str x) rfl q
theorem r_disp {xs : List V} {P : Prop} (h : xs.length ≤ 1000) (q : P) : xs.length ≤ sizeLine ∧ P := ⟨Nat.le_of_lt (small1000 h), q⟩
end
section
variable {K : PySem.W.Frag} {H : Hp} {i : Int}
theorem r_tyL {p : Addr} {xs : List V} {q : Prop} (h : SqL K H p xs) (k : q) : tyV K "list" (.ref p) H ∧ q := ⟨.inl ⟨rfl, xs, h⟩, k⟩
theorem atI2 {a b : Int} (h0 : 0 ≤ i) (h1 : i < 2) : atI [V.int a, V.int b] i = some (V.int ([a, b].getD i.toNat 0)) := atI_ints (ns := [a, b]) h0 h1
theorem atI3 {a b c : Int} (h0 : 0 ≤ i) (h1 : i < 3) : atI [V.int a, V.int b, V.int c] i = some (V.int ([a, b, c].getD i.toNat 0)) := atI_ints (ns := [a, b, c]) h0 h1
theorem atI4 {a b c d : Int} (h0 : 0 ≤ i) (h1 : i < 4) : atI [V.int a, V.int b, V.int c, V.int d] i = some (V.int ([a, b, c, d].getD i.toNat 0)) := atI_ints (ns := [a, b, c, d]) h0 h1
theorem atI5 {a b c d e : Int} (h0 : 0 ≤ i) (h1 : i < 5) : atI [V.int a, V.int b, V.int c, V.int d, V.int e] i = some (V.int ([a, b, c, d, e].getD i.toNat 0)) := atI_ints (ns := [a, b, c, d, e]) h0 h1
theorem atI7 {a b c d e f g : Int} (h0 : 0 ≤ i) (h1 : i < 7) : atI [V.int a, V.int b, V.int c, V.int d, V.int e, V.int f, V.int g] i = some (V.int ([a, b, c, d, e, f, g].getD i.toNat 0)) := atI_ints (ns := [a, b, c, d, e, f, g]) h0 h1
end
theorem r_comp {wi : TI} {g : TG} {tt : TT} {te : TE} {k : Nat} {js : List Nat} {σ : St} {H : Hp} {Q : VK} (q : wi σ H fun J H1 => ∀ D, H1 D = none → CompBody J g tt te k (cst σ k js) D H1 fun H2 => Q (.ref D) H2) : tComp wi g tt te k js σ H Q := q
theorem r_tt {σ : St} {H : Hp} {q : Bool → Hp → Prop} (h : q true H) : tTT σ H q := h
theorem iteNT {A B : Prop} (h : B) : if (!true) = true then A else B := iteF h
theorem iteNF {A B : Prop} (h : A) : if (!false) = true then A else B := iteT h
theorem iteDT {c A B : Prop} [Decidable c] (hc : c) (h : A) : if decide c = true then A else B := by rw [decide_eq_true hc]; exact iteT h
theorem iteDF {c A B : Prop} [Decidable c] (hc : ¬ c) (h : B) : if decide c = true then A else B := by rw [decide_eq_false hc]; exact iteF h
theorem iteNDT {c A B : Prop} [Decidable c] (hc : ¬ c) (h : A) : if (!decide c) = true then A else B := by rw [decide_eq_false hc]; exact iteT h
theorem iteNDF {c A B : Prop} [Decidable c] (hc : c) (h : B) : if (!decide c) = true then A else B := by rw [decide_eq_true hc]; exact iteF h
theorem ix_listK {X : Cx} (K : PySem.W.Frag) (h : X.K = K) : IxR X (rIxL K) := h ▸ ix_list
theorem ix_tupK {X : Cx} (K : PySem.W.Frag) (h : X.K = K) : IxR X (rIxT K) := h ▸ ix_tup
theorem cb_lenK {X : Cx} (K : PySem.W.Frag) (h : X.K = K) : CallR X (.builtin "len") (rLen K) := h ▸ cb_len
theorem cb_sumK {X : Cx} (K : PySem.W.Frag) (h : X.K = K) (hc : X.calm = true) : CallR X (.builtin "sum") (rSum K) := h ▸ cb_sum hc
end L2

set_option Elab.async false
set_option linter.all false
set_option maxRecDepth 100000
namespace L2
open PySem PySem.Spec PyProof.Rows

/-- hi, hi - 1, .. (n of them) -/
def Itd (hi : Int) (n : Nat) : It := ⟨fun i _ => i < n, fun i H x H' => H' = H ∧ x = .int (hi - i), fun i _ => n ≤ i⟩
section
variable {X : Cx} {tg : Expr}
/-- range(i, j, -1) -/
def iRngD (ta : TA) : TI := fun σ H R => ta σ H fun vs H1 => ∃ i j : Int, vs = [.int i, .int j, .int (-1)] ∧ (-(2 ^ 62) ≤ i ∧ i < 2 ^ 62 ∧ -(2 ^ 62) ≤ j ∧ j < 2 ^ 62) ∧ R (Itd i (i - j).toNat) H1
/-- xs[i] as a value to be changed -/
theorem get_list : PGet X (rIxL X.K) := by
  intro pins s σ H o i ov iv Q I ro ri h
  obtain ⟨p, xs, k, z, rfl, rfl, hq, he, q⟩ := h
  cases ro
  obtain ⟨t, rfl⟩ := ri
  obtain ⟨its, r, pl, hz⟩ := I.list hq
  obtain ⟨j, h1, h2, h3, h4, h5⟩ := atI_get he
  obtain ⟨w, ew, rw'⟩ := r.get h2
  have hl := r.length
  have hn := line63
  have fin : EP X pins σ Q w s := ⟨z, H, I, rw', q⟩
  by_cases h0 : 0 ≤ k
  · have hj : k.toNat = j := by
      rw [seqIndex_of h0 h5] at h1
      exact Option.some.inj h1
    exact wpAny_getItem_list pl.isList h0 (by omega) (by rw [hj]; simpa using ew) fin
  · have hj : (k + (its.toArray.size : Int)).toNat = j := by
      rw [seqIndex_neg (by omega) h4] at h1
      rw [List.size_toArray, ← hl]
      exact Option.some.inj h1
    exact wpAny_getItem_list_neg pl.isList (by omega) (by rw [List.size_toArray] <;> omega) (by omega) (by rw [hj]; simpa using ew) fin
end
theorem r_rngD {tA : TA} {σ : St} {H : Hp} {q' : It → Hp → Prop} (q : tA σ H fun vs H1 => ∃ i j : Int, vs = [.int i, .int j, .int (-1)] ∧ (-(2 ^ 62) ≤ i ∧ i < 2 ^ 62 ∧ -(2 ^ 62) ≤ j ∧ j < 2 ^ 62) ∧ q' (Itd i (i - j).toNat) H1) : iRngD tA σ H q' := q
/-! a list of tuples of ints -/
/-- the rows of a table stand as tuples at the addresses as -/
def TabIs (H : Hp) (as : List Addr) (rows : List (List Int)) : Prop := as.length = rows.length ∧ ∀ (j : Nat) (a : Addr) (r : List Int), as[j]? = some a → rows[j]? = some r → H a = some (.tup (r.map V.int))
theorem TabIs.nil {H : Hp} : TabIs H [] [] := ⟨rfl, fun j a r e => by simp at e⟩
theorem TabIs.same {H H' : Hp} {as : List Addr} {rows : List (List Int)} (t : TabIs H as rows) (s : Same H H') : TabIs H' as rows := ⟨t.1, fun j a r e1 e2 => s _ _ (t.2 j a r e1 e2)⟩
theorem TabIs.at {H : Hp} {as : List Addr} {rows : List (List Int)} (t : TabIs H as rows) {j : Nat} {a : Addr} (e : as[j]? = some a) : ∃ r, rows[j]? = some r ∧ H a = some (.tup (r.map V.int)) := by
  have hj : j < as.length := (List.getElem?_eq_some_iff.mp e).1
  have hj' : j < rows.length := by rw [← t.1]; exact hj
  exact ⟨rows[j], List.getElem?_eq_getElem hj', t.2 j a _ e (List.getElem?_eq_getElem hj')⟩
theorem TabIs.mem {H : Hp} {as : List Addr} {rows : List (List Int)} (t : TabIs H as rows) {a : Addr} (h : a ∈ as) : ∃ r : List Int, H a = some (.tup (r.map V.int)) := by
  obtain ⟨j, hj, e⟩ := List.getElem_of_mem h
  obtain ⟨r, _, q⟩ := t.at (j := j) (by rw [List.getElem?_eq_getElem hj, e])
  exact ⟨r, q⟩
/-- a list's own change does not touch the tuples -/
theorem TabIs.lst {H : Hp} {as : List Addr} {rows : List (List Int)} (t : TabIs H as rows) {p : Addr} {xs : List V} {o : HO} (hp : H p = some (.lst xs)) : TabIs (upd H p o) as rows :=
  ⟨t.1, fun j a r e1 e2 => by rw [upd_ne (ne_of (t.2 j a r e1 e2) hp (by intro z; cases z))]; exact t.2 j a r e1 e2⟩
theorem TabIs.push {H : Hp} {as : List Addr} {rows : List (List Int)} (t : TabIs H as rows) {q : Addr} {r : List Int} (hq : H q = some (.tup (r.map V.int))) : TabIs H (as ++ [q]) (rows ++ [r]) := by
  refine ⟨by simp [t.1], fun j a r' e1 e2 => ?_⟩
  by_cases hj : j < as.length
  · rw [List.getElem?_append_left hj] at e1
    rw [List.getElem?_append_left (by rw [← t.1]; exact hj)] at e2
    exact t.2 j a r' e1 e2
  · have l1 : as.length ≤ j := by omega
    rw [List.getElem?_append_right l1] at e1
    rw [List.getElem?_append_right (by rw [← t.1]; exact l1), ← t.1] at e2
    have hj0 : j - as.length = 0 := by
      have := (List.getElem?_eq_some_iff.mp e1).1
      simp at this
      omega
    rw [hj0] at e1 e2
    simp at e1 e2
    subst e1 e2
    exact hq
theorem TabIs.set {H : Hp} {as : List Addr} {rows : List (List Int)} (t : TabIs H as rows) {q : Addr} {r : List Int} (hq : H q = some (.tup (r.map V.int))) (k : Nat) : TabIs H (as.set k q) (rows.set k r) := by
  refine ⟨by simp [t.1], fun j a r' e1 e2 => ?_⟩
  rw [List.getElem?_set] at e1 e2
  by_cases hk : k = j
  · subst hk
    rw [if_pos rfl] at e1 e2
    have h1 : k < as.length := by
      by_cases h : k < as.length
      · exact h
      · rw [if_neg h] at e1; cases e1
    rw [if_pos h1] at e1
    rw [if_pos (by rw [← t.1]; exact h1)] at e2
    cases e1
    cases e2
    exact hq
  · rw [if_neg hk] at e1 e2
    exact t.2 j a r' e1 e2
theorem atI_refs {as : List Addr} {i : Int} (h0 : 0 ≤ i) (h1 : i < (as.length : Int)) : atI (as.map V.ref) i = some (V.ref (as.getD i.toNat 0)) := by
  obtain ⟨j, rfl⟩ : ∃ j : Nat, i = (j : Int) := ⟨i.toNat, by omega⟩
  refine atI_nat ?_
  have hj : j < as.length := by omega
  rw [List.getElem?_map, List.getElem?_eq_getElem hj]
  simp [List.getD, hj]
theorem atI_refs_last {as : List Addr} (h : as ≠ []) : atI (as.map V.ref) (-1) = some (V.ref (as.getD (as.length - 1) 0)) := by
  obtain ⟨bs, b, rfl⟩ : ∃ bs b, as = bs ++ [b] := ⟨as.dropLast, as.getLast h, (List.dropLast_concat_getLast h).symm⟩
  rw [List.map_append]
  have e : atI (bs.map V.ref ++ [V.ref b]) (-1) = some (V.ref b) := atI_last _ _
  rw [show List.map V.ref [b] = [V.ref b] from rfl, e]
  simp [List.getD]
theorem TabIs.get {H : Hp} {as : List Addr} {rows : List (List Int)} (t : TabIs H as rows) {j : Nat} (h : j < rows.length) : H (as.getD j 0) = some (.tup ((rows.getD j []).map V.int)) := by
  have hj : j < as.length := by rw [t.1]; exact h
  refine t.2 j _ _ ?_ ?_
  · rw [List.getElem?_eq_getElem hj]; simp [List.getD, hj]
  · rw [List.getElem?_eq_getElem h]; simp [List.getD, h]
theorem getD_at {α : Type} {l : List α} {j : Nat} {d : α} (h : j < l.length) : l.getD j d = l[j] := by simp [List.getD, h]
theorem getD_mem {α : Type} {l : List α} {j : Nat} {d : α} (h : j < l.length) : l.getD j d ∈ l := by rw [getD_at h]; exact List.getElem_mem h
theorem two_of {r : List Int} (h : r.length = 2) : r = [r.getD 0 0, r.getD 1 0] := by
  match r, h with
  | [l, f], _ => rfl
def Two (rows : List (List Int)) : Prop := ∀ r ∈ rows, r.length = 2
theorem TabIs.two {H : Hp} {as : List Addr} {rows : List (List Int)} (t : TabIs H as rows) (tw : Two rows) {j : Nat} (h : j < rows.length) : H (as.getD j 0) = some (.tup [.int ((rows.getD j []).getD 0 0), .int ((rows.getD j []).getD 1 0)]) := by
  have hg := t.get h
  have e := two_of (tw (rows.getD j []) (getD_mem h))
  generalize rows.getD j [] = r at hg e
  rw [e] at hg
  exact hg
end L2

set_option Elab.async false
set_option linter.all false
set_option maxRecDepth 100000
namespace L2
open PySem PySem.Spec PyProof.Rows

/-- two lists side by side: a new tuple each turn -/
def Itz (K : PySem.W.Frag) (l1 l2 : Addr) : It :=
  ⟨fun i H => ∃ xs ys x y, SqL K H l1 xs ∧ SqL K H l2 ys ∧ xs[i]? = some x ∧ ys[i]? = some y,
   fun i H v H' => ∃ T x y, v = .ref T ∧ H T = none ∧ H' = upd H T (.tup [x, y]) ∧ ∀ xs ys, SqL K H l1 xs → SqL K H l2 ys → xs[i]? = some x ∧ ys[i]? = some y,
   fun i H => ∃ xs ys, SqL K H l1 xs ∧ SqL K H l2 ys ∧ min xs.length ys.length = i⟩
theorem turn_zip {P : Program} {w : World} {K : PySem.W.Frag} {es : List Expr} {kt : Nat} {pt : Pos} (z TI TO i1 i2 l1 l2 : Addr) (D : ZipApart z TI TO i1 i2 l1 l2) :
    Turn P w K (.Tuple es kt pt) (Itz K l1 l2) [z, TI, TO, i1, i2] z (fun i h => IsZip h z TI TO .none ∧ IsPair h TI (.ref i1) (.ref i2) ∧ (∃ a b, IsPair h TO a b) ∧ h.IsListIter i1 l1 i ∧ h.IsListIter i2 l2 i) where
  mem := by simp
  obj := fun i h st b hb => by
    obtain ⟨hz, hTI, ⟨a, b', hTO⟩, ⟨o1, e1, c1, d1⟩, ⟨o2, e2, c2, d2⟩⟩ := st
    have hb' : b = z ∨ b = TI ∨ b = TO ∨ b = i1 ∨ b = i2 := by simpa using hb
    rcases hb' with rfl | rfl | rfl | rfl | rfl
    · exact ⟨_, hz, fun v q => by cases (show Data.fields _ = Data.cell v from q)⟩
    · exact ⟨_, hTI, fun v q => by cases (show Data.seq _ _ = Data.cell v from q)⟩
    · exact ⟨_, hTO, fun v q => by cases (show Data.seq _ _ = Data.cell v from q)⟩
    · exact ⟨o1, e1, fun v q => by rw [d1] at q; cases q⟩
    · exact ⟨o2, e2, fun v q => by rw [d2] at q; cases q⟩
  keep := fun i h h' st k => by
    obtain ⟨hz, hTI, ⟨a, b, hTO⟩, h1, h2⟩ := st
    exact ⟨k z (by simp) _ hz, k TI (by simp) _ hTI, ⟨a, b, k TO (by simp) _ hTO⟩, h1.at fun o e => k i1 (by simp) o e, h2.at fun o e => k i2 (by simp) o e⟩
  item := by
    intro X hP hw hK hc i pins s σ H E I hf st hg
    subst hP hw hK
    obtain ⟨xs, ys, x, y, q1, q2, ex, ey⟩ := hg
    obtain ⟨hz, hTI, hTO, h1, h2⟩ := st
    obtain ⟨its1, r1, p1, z1⟩ := I.list q1
    obtain ⟨its2, r2, p2, z2⟩ := I.list q2
    have L1 := r1.length
    have L2 := r2.length
    have W := WalksT.zip2 (prog := X.prog) (w := X.w) (I.ok.hd hc) z TI TO i1 i2 l1 l2 D its1.toArray its2.toArray
    have hx : i < xs.length := (List.getElem?_eq_some_iff.mp ex).1
    have hy : i < ys.length := (List.getElem?_eq_some_iff.mp ey).1
    refine W.item i s _ _ (by simp only [List.size_toArray]; omega) ⟨hz, hTI, hTO, h1, h2, p1.isList, p2.isList⟩ fun T vals h' tk hv hT hTup mid kk => ?_
    refine ⟨.ref T, rfl, W.go es kt pt i T _ _ _ mid fun h'' st' kk' => ?_⟩
    obtain ⟨u1, u2, g1, g2, rfl⟩ := hv
    obtain ⟨w1, e1, rx⟩ := r1.get ex
    obtain ⟨w2, e2, ry⟩ := r2.get ey
    have ew1 : u1 = w1 := by
      have : its1[i]? = some u1 := by simpa using g1
      rw [this] at e1; exact Option.some.inj e1
    have ew2 : u2 = w2 := by
      have : its2[i]? = some u2 := by simpa using g2
      rw [this] at e2; exact Option.some.inj e2
    subst ew1 ew2
    have nT : H T = none := I.hok.fresh hT
    have tw : T ∉ [z, TO, i1, i2] := W.apart i T _ mid
    have keep : ∀ b o, b ∉ [z, TI, TO, i1, i2] → s.heap.get? b = some o → h''.get? b = some o := fun b o hb e => by
      have hb' : b ∉ [z, TO, i1, i2] := fun hm => hb (by
        have : b = z ∨ b = TO ∨ b = i1 ∨ b = i2 := by simpa using hm
        rcases this with rfl | rfl | rfl | rfl <;> simp)
      exact kk' b o hb' (kk b o hb' e)
    have neT : ∀ b o, s.heap.get? b = some o → b ≠ T := fun b o e => Nat.ne_of_lt (Nat.lt_of_lt_of_le (Heap.lt_size e) hT)
    have nin : ∀ b u, H b = some u → b ∉ [z, TI, TO, i1, i2] := fun b u e hm => by
      rw [(hf b hm).1] at e; cases e
    have tupT : IsTup h'' T #[u1, u2] := by
      obtain ⟨o, e, c, n, d⟩ := hTup
      exact ⟨o, kk' T o tw e, c, n, d⟩
    have hok : HOk X.prog X.w (upd H T (.tup [x, y])) h'' := fun b u e => by
      by_cases hb : b = T
      · subst hb
        rw [upd_same] at e
        cases e
        exact ⟨by show 2 ≤ sizeLine; decide, [u1, u2], .cons rx (.cons ry .nil), tupT⟩
      · rw [upd_ne hb] at e
        refine (I.hok b u e).stay (fun c v hcc q => keep c v ?_ q) (fun c q => by rw [upd_ne (ne_of_none q nT)]; exact q) fun c zs q => by rw [upd_ne (ne_of_none q nT)]; exact q
        rcases hcc with rfl | hcc
        · exact nin _ _ e
        · exact nin _ _ hcc
    have I2 : Inv X pins σ (upd H T (.tup [x, y])) { s with heap := h'', toks := tk } := by
      refine I.step (g' := s.gens) (d' := s.drawn) (ch := [z, TI, TO, i1, i2]) (fun b hb => ?_) (fun b o _ _ hb e _ => keep b o hb e) (fun b o _ _ hb e _ => ⟨o.slots, keep b o hb e⟩) (fun b o _ e n => by rw [upd_ne (neT b o e)]; exact n)
        (fun b o hb e => ⟨o, keep b o hb e⟩) (fun b zs e => by rw [upd_ne (ne_of_none e nT)]; exact e) (fun b o u e => by rw [upd_ne (ne_of_none e nT)]; exact e) (fun b ps e => ⟨#[], by rw [upd_ne (ne_of_none e nT), e]; simp⟩) (fun m hm => ?_) hok I.bare
      · obtain ⟨f0, f1, f2, f3, f4, f5⟩ := hf b hb
        exact ⟨f3, f1, f4, f5⟩
      · obtain ⟨o, es', ep, ho, r⟩ := hm
        exact ⟨o, es', ep, keep _ o (fun hm => (hf _ hm).2.1 rfl) ho, r⟩
    obtain ⟨sz, sTI, sTO, s1, s2, _, _⟩ := st'
    refine ⟨.ref T, _, I2, rfl, ⟨T, x, y, rfl, nT, rfl, fun xs' ys' q1' q2' => ⟨by rw [I.list_inj q1' q1]; exact ex, by rw [I.list_inj q2' q2]; exact ey⟩⟩, ⟨sz, sTI, sTO, s1, s2⟩, fun b hb => ?_⟩
    obtain ⟨o, e, _⟩ : ∃ o, s.heap.get? b = some o ∧ True := by
      obtain ⟨a, b', hTO⟩ := hTO
      obtain ⟨o1, e1, _⟩ := h1
      obtain ⟨o2, e2, _⟩ := h2
      have hb' : b = z ∨ b = TI ∨ b = TO ∨ b = i1 ∨ b = i2 := by simpa using hb
      rcases hb' with rfl | rfl | rfl | rfl | rfl
      · exact ⟨_, hz, trivial⟩
      · exact ⟨_, hTI, trivial⟩
      · exact ⟨_, hTO, trivial⟩
      · exact ⟨_, e1, trivial⟩
      · exact ⟨_, e2, trivial⟩
    rw [upd_ne (neT b o e)]
    exact (hf b hb).1
  done := by
    intro X hP hw hK hc i pins s σ H E I hf st hg
    subst hP hw hK
    obtain ⟨xs, ys, q1, q2, en⟩ := hg
    obtain ⟨hz, hTI, hTO, h1, h2⟩ := st
    obtain ⟨its1, r1, p1, z1⟩ := I.list q1
    obtain ⟨its2, r2, p2, z2⟩ := I.list q2
    have L1 := r1.length
    have L2 := r2.length
    have W := WalksT.zip2 (prog := X.prog) (w := X.w) (I.ok.hd hc) z TI TO i1 i2 l1 l2 D its1.toArray its2.toArray
    have en' : min its1.toArray.size its2.toArray.size = i := by simp only [List.size_toArray]; omega
    refine W.done s _ _ (by rw [en']; exact ⟨hz, hTI, hTO, h1, h2, p1.isList, p2.isList⟩) fun h' tk kk => ⟨rfl, ?_⟩
    have keep : ∀ b o, b ∉ [z, TI, TO, i1, i2] → s.heap.get? b = some o → h'.get? b = some o := fun b o hb e => by
      refine kk b o (fun hm => hb ?_) e
      have : b = z ∨ b = TO ∨ b = i1 ∨ b = i2 := by simpa using hm
      rcases this with rfl | rfl | rfl | rfl <;> simp
    have nin : ∀ b u, H b = some u → b ∉ [z, TI, TO, i1, i2] := fun b u e hm => by
      rw [(hf b hm).1] at e; cases e
    refine I.step (g' := s.gens) (d' := s.drawn) (ch := [z, TI, TO, i1, i2]) (fun b hb => ?_) (fun b o _ _ hb e _ => keep b o hb e) (fun b o _ _ hb e _ => ⟨o.slots, keep b o hb e⟩) (fun b o _ e n => n)
      (fun b o hb e => ⟨o, keep b o hb e⟩) (fun b zs e => e) (fun b o u e => e) (fun b ps e => ⟨#[], by rw [e]; simp⟩) (fun m hm => ?_) (fun b u e => ?_) I.bare
    · obtain ⟨f0, f1, f2, f3, f4, f5⟩ := hf b hb
      exact ⟨f3, f1, f4, f5⟩
    · obtain ⟨o, es', ep, ho, r⟩ := hm
      exact ⟨o, es', ep, keep _ o (fun hm => (hf _ hm).2.1 rfl) ho, r⟩
    · refine (I.hok b u e).stay (fun c v hcc q => keep c v ?_ q) (fun _ q => q) fun _ _ q => q
      rcases hcc with rfl | hcc
      · exact nin _ _ e
      · exact nin _ _ hcc
  self := fun _ _ _ _ _ st h => wpAny_pyIter_zip st.1 h
section
variable {X : Cx}
def iZip (K : PySem.W.Frag) (ta : TA) : TI := fun σ H R => ta σ H fun vs H1 => ∃ l1 l2, vs = [.ref l1, .ref l2] ∧ (∃ xs, SqL K H1 l1 xs) ∧ (∃ ys, SqL K H1 l2 ys) ∧ R (Itz K l1 l2) H1
theorem pi_zip {a b : Expr} {ta : TA} {p pos : Pos} {es : List Expr} {kt : Nat} {pt : Pos} (hg : Gl X "zip") (hm : X.mg "zip" = none) (ha : PA X [a, b] ta) (hs : starEach [a, b] X.env = [(false, eval a X.env), (false, eval b X.env)] := by rfl)
    (hs2 : starEach [b] X.env = [(false, eval b X.env)] := by rfl) : PI X (.Tuple es kt pt) (.Call (.Name "zip" p) [a, b] [] pos) (iZip X.K ta) := by
  intro pins s σ H R I h
  refine Call_ (ld_blt I hg hm boot_zip (PyProof.Rows.callWith_type1 (thn (ha pos pins s σ H _ I h) fun us s1 ⟨vs, H1, I1, r1, q1⟩ => ?_) (by rw [hs, hs2]) (by rw [hs2]; rfl)))
  obtain ⟨l1, l2, e, ⟨xs, q1⟩, ⟨ys, q2⟩, q⟩ := q1
  subst e
  obtain ⟨u1, u2, rfl, e1, e2⟩ := vals2 r1
  cases e1
  cases e2
  obtain ⟨its1, r1, p1, z1⟩ := I1.list q1
  obtain ⟨its2, r2, p2, z2⟩ := I1.list q2
  have lt1 : l1 < s1.heap.objs.size := by obtain ⟨o, n, e, _⟩ := p1; exact Heap.lt_size e
  have lt2 : l2 < s1.heap.objs.size := by obtain ⟨o, n, e, _⟩ := p2; exact Heap.lt_size e
  refine call_zip_2 p1.isList p2.isList fun h' hz hTI hTO hi1 hi2 hsz hk => ?_
  refine wpAny_pyIter_zip hz ?_
  refine ⟨s1.heap.objs.size + 4, [s1.heap.objs.size + 4, s1.heap.objs.size + 2, s1.heap.objs.size + 3, s1.heap.objs.size, s1.heap.objs.size + 1], _, _, H1, rfl, I1.kept (t' := s1.toks) hk, turn_zip _ _ _ _ _ _ _ (PySem.W.ktu_apart _ _ _ lt1 lt2), ⟨hz, hTI, ⟨_, _, hTO⟩, hi1, hi2⟩, fun b hb => ?_, q⟩
  have hb' : b = s1.heap.objs.size + 4 ∨ b = s1.heap.objs.size + 2 ∨ b = s1.heap.objs.size + 3 ∨ b = s1.heap.objs.size ∨ b = s1.heap.objs.size + 1 := by simpa using hb
  have hge : s1.heap.objs.size ≤ b := by
    rcases hb' with rfl | rfl | rfl | rfl | rfl
    · exact Nat.le_add_right _ _
    · exact Nat.le_add_right _ _
    · exact Nat.le_add_right _ _
    · exact Nat.le_refl _
    · exact Nat.le_add_right _ _
  exact I1.fpOk hge (I1.hok.fresh hge)
/-- over two lists that stay -/
theorem for_zip {K : PySem.W.Frag} {l1 l2 : Addr} {xs ys : List V} {g : TG} {tb : TS} {D : Ends} {σ : St} {H : Hp} (hlen : xs.length = ys.length) (Pv : Nat → St → Hp → Prop) (h0 : Pv 0 σ H) (hl : ∀ i σ H, i ≤ xs.length → Pv i σ H → SqL K H l1 xs ∧ SqL K H l2 ys)
    (hs : ∀ i x y T σ H, xs[i]? = some x → ys[i]? = some y → H T = none → Pv i σ H → g (.ref T) σ (upd H T (.tup [x, y])) fun σ2 H2 => tb { D with nx := Pv (i + 1), ct := Pv (i + 1), bk := D.nx } σ2 H2) (hd : ∀ σ H, Pv xs.length σ H → D.nx σ H) :
    ∃ W : Nat → Nat → St → Hp → Prop, (∃ m, W 0 m σ H) ∧ ∀ i m σ H, W i m σ H →
      ((Itz K l1 l2).stop i H ∧ D.nx σ H) ∨ ((Itz K l1 l2).go i H ∧ ∃ N : St → Hp → Prop, (∀ σ' H', N σ' H' → ∃ m', m' < m ∧ W (i + 1) m' σ' H') ∧ ∀ x H', (Itz K l1 l2).yld i H x H' → g x σ H' fun σ2 H2 => tb { D with nx := N, ct := N, bk := D.nx } σ2 H2) := by
  refine ⟨fun i m σ H => m = xs.length - i ∧ i ≤ xs.length ∧ Pv i σ H, ⟨xs.length, by simp, Nat.zero_le _, h0⟩, ?_⟩
  rintro i m σ H ⟨rfl, hi, p⟩
  obtain ⟨q1, q2⟩ := hl i σ H hi p
  by_cases hlt : i < xs.length
  · have hlt2 : i < ys.length := by omega
    refine .inr ⟨⟨xs, ys, xs[i], ys[i], q1, q2, by simp [hlt], by simp [hlt2]⟩, Pv (i + 1), fun σ' H' p' => ⟨xs.length - (i + 1), by omega, rfl, hlt, p'⟩, fun v H' y => ?_⟩
    obtain ⟨T, x, y, e1, e2, e3, e4⟩ := y
    subst e1 e3
    obtain ⟨g1, g2⟩ := e4 xs ys q1 q2
    exact hs i x y T σ H g1 g2 e2 p
  · have e : i = xs.length := by omega
    subst e
    exact .inl ⟨⟨xs, ys, q1, q2, by omega⟩, hd σ H p⟩
/-- xs != ys -/
def rNeL (K : PySem.W.Frag) : R2 := fun x y H Q => ∃ a b xs ys, x = .ref a ∧ y = .ref b ∧ SqL K H a xs ∧ SqL K H b ys ∧
  ((xs.length ≠ ys.length ∧ Q (.bl true) H) ∨ (xs.length = ys.length ∧ ∃ e : Nat → Bool, (∀ j x y, xs[j]? = some x → ys[j]? = some y → EqW x y (e j)) ∧ Q (.bl (!(List.range xs.length).all e)) H))
theorem op_neL (hu : X.A.units < cLine) : OpR X (compareOp .NotEq) (rNeL X.K) := by
  intro pins s σ H x y v u Q I rx ry h
  obtain ⟨a, b, xs, ys, rfl, rfl, ha, hb, h⟩ := h
  cases rx
  cases ry
  obtain ⟨its, r1, p1, _⟩ := I.list ha
  obtain ⟨its2, r2, p2, _⟩ := I.list hb
  have l1 := r1.length
  have l2 := r2.length
  rcases h with ⟨hn, q⟩ | ⟨he, e, hq, q⟩
  · refine SeqAt.RcNeAt.lists_lengths p1.isList p2.isList ?_ hu X.prog X.w X.xe _ ⟨.bl true, H, I, rfl, q⟩
    simp only [List.size_toArray, bne_iff_ne, ne_eq]
    omega
  · refine SeqAt.RcNeAt.lists (e := e) p1.isList p2.isList (by simp only [List.size_toArray]; omega) hu (fun j h1 h2 => ?_) X.prog X.w X.xe _ ?_
    · simp only [List.size_toArray] at h1 h2
      have e1 : xs[j]? = some xs[j] := List.getElem?_eq_getElem (by omega)
      have e2 : ys[j]? = some ys[j] := List.getElem?_eq_getElem (by omega)
      obtain ⟨v1, g1, rv1⟩ := r1.get e1
      obtain ⟨v2, g2, rv2⟩ := r2.get e2
      have z1 : its.toArray[j] = v1 := by
        have : its[j]? = some its[j] := List.getElem?_eq_getElem h1
        rw [this] at g1
        simpa using Option.some.inj g1
      have z2 : its2.toArray[j] = v2 := by
        have : its2[j]? = some its2[j] := List.getElem?_eq_getElem h2
        rw [this] at g2
        simpa using Option.some.inj g2
      rw [z1, z2]
      exact (hq j _ _ e1 e2).at rv1 rv2
    · have z : its.toArray.size = xs.length := by simp only [List.size_toArray]; omega
      rw [z]
      exact ⟨.bl _, H, I, rfl, q⟩
end
theorem r_zip {K : PySem.W.Frag} {tA : TA} {σ : St} {H : Hp} {q' : It → Hp → Prop} (q : tA σ H fun vs H1 => ∃ l1 l2, vs = [.ref l1, .ref l2] ∧ (∃ xs, SqL K H1 l1 xs) ∧ (∃ ys, SqL K H1 l2 ys) ∧ q' (Itz K l1 l2) H1) : iZip K tA σ H q' := q
end L2

set_option Elab.async false
set_option linter.all false
set_option maxRecDepth 100000
namespace L2
open PySem PySem.Spec PyProof.Rows

theorem set0 {σ0 : St} {x : Option V} : (σ0.set 0 x).length = σ0.length ∧ ∀ j, 1 ≤ j → (σ0.set 0 x)[j]? = σ0[j]? :=
  ⟨List.length_set .., fun j hj => List.getElem?_set_ne (by omega)⟩

section
variable {K : PySem.W.Frag} {tt : TT} {te : TE} {σ0 : St} {D : Addr} {H1 : Hp} {Q : Hp → Prop}
end
/-- a list by its places -/
def tab (n : Nat) (F : Nat → Int) : List Int := (List.range n).map F
theorem tab_len {n : Nat} {F : Nat → Int} : (tab n F).length = n := by simp [tab]
theorem r_rep {l : Addr} {k : Int} {xs : List V} {H : Hp} {Q : VK} (h : H l = some (.lst xs)) (h1 : -(2 ^ 63) ≤ k) (h2 : k < 2 ^ 63) (hz : xs.length * k.toNat ≤ 1000) (q : ∀ p, H p = none → Q (.ref p) (upd H p (.lst (List.replicate k.toNat xs).flatten))) : rRep (.ref l) (.int k) H Q :=
  ⟨l, k, xs, rfl, rfl, h, h1, h2, Nat.le_of_lt (small1000 hz), q⟩
theorem r_slT {K : PySem.W.Frag} {H : Hp} {Q : VK} {a : Addr} {xs ys : List V} {lo hi : Option Int} (h : SqT K H a xs) (hn : ¬ (HT.sIx xs.length 0 lo = 0 ∧ HT.sIx xs.length xs.length hi = xs.length)) (e : cutV xs lo hi = ys) (q : ∀ p, H p = none → Q (.ref p) (upd H p (.tup ys))) : rSlT K (.ref a) lo hi H Q := ⟨a, xs, rfl, h, hn, by rw [e]; exact q⟩
end L2

set_option Elab.async false
set_option linter.all false
set_option maxRecDepth 100000
namespace L2
open PySem PySem.Spec PyProof.Rows
section
variable {X : Cx}
/-- a dict of the module's with texts as keys and ints as values: in, item -/
def rInD (d : Addr) (D : List (PyData × PyData)) : R2 := fun x y H Q => ∃ z, x = .str z ∧ y = .ref d ∧ Q (.bl (Spec.lookup (.str z) D).isSome) H
/-- isinstance(x, tuple), any tuple that is read -/
def rIsiT (K : PySem.W.Frag) : List V → Hp → VK → Prop := fun xs H Q => ∃ a ys, xs = [.ref a, .ty "tuple"] ∧ SqT K H a ys ∧ Q (.bl true) H
theorem call_isiT : CallR X (.builtin "isinstance") (rIsiT X.K) := by
  intro pins s σ H xs us Q I r h
  obtain ⟨a, ys, rfl, hq, q⟩ := h
  obtain ⟨u, w, rfl, rx, ry⟩ := vals2 r
  cases rx
  cases ry
  obtain ⟨its, _, ⟨o, h1, h2, _⟩, _⟩ := I.tuple hq
  exact PySem.W.kia_one PySem.W.kitx_tuple I.kIn ⟨o, h1, h2⟩ (show PySem.W.kitOne X.K (.type "tuple") (.type "tuple") = some true from rfl) (fun z => nomatch z) fun tk => ⟨.bl true, H, I.tok _, rfl, q⟩
end
section
variable {K : PySem.W.Frag} {H : Hp} {Q : VK}
theorem r_inD {d : Addr} {D : List (PyData × PyData)} {z : Str} (q : Q (.bl (Spec.lookup (.str z) D).isSome) H) : rInD d D (.str z) (.ref d) H Q := ⟨z, rfl, rfl, q⟩
theorem r_isiTT {a : Addr} {ys : List V} (h : SqT K H a ys) (q : Q (.bl true) H) : rIsiT K [.ref a, .ty "tuple"] H Q := ⟨a, ys, rfl, h, q⟩
end
theorem iteP {c A B : Prop} [Decidable c] (hc : c) (h : A) : if c then A else B := by rw [if_pos hc]; exact h
theorem iteN {c A B : Prop} [Decidable c] (hc : ¬ c) (h : B) : if c then A else B := by rw [if_neg hc]; exact h
theorem r_cat {l b : Addr} {xs zs : List V} {H : Hp} {Q : VK} (h1 : H l = some (.lst xs)) (h2 : H b = some (.lst zs)) (hz : xs.length + zs.length ≤ 1000) (q : ∀ p, H p = none → Q (.ref p) (upd H p (.lst (xs ++ zs)))) : rCat (.ref l) (.ref b) H Q :=
  ⟨l, b, xs, zs, rfl, rfl, h1, h2, Nat.le_of_lt (small1000 hz), q⟩
end L2

set_option Elab.async false
set_option linter.all false
set_option maxRecDepth 100000
namespace L2
open PySem PySem.Spec PyProof.Rows

/-- places and items: a new tuple each turn -/
def Ite (K : PySem.W.Frag) (l : Addr) : It :=
  ⟨fun i H => ∃ xs x, SqL K H l xs ∧ xs[i]? = some x,
   fun i H v H' => ∃ T x, v = .ref T ∧ H T = none ∧ H' = upd H T (.tup [.int (i : Nat), x]) ∧ ∀ xs, SqL K H l xs → xs[i]? = some x,
   fun i H => ∃ xs, SqL K H l xs ∧ xs.length = i⟩
theorem turn_enum {P : Program} {w : World} {K : PySem.W.Frag} {es : List Expr} {kt : Nat} {pt : Pos} (z i1 l : Addr) (n1 : z ≠ i1) (n2 : l ≠ z) (n3 : l ≠ i1) :
    Turn P w K (.Tuple es kt pt) (Ite K l) [z, i1] z (fun i h => (∃ old, IsEnum h z i1 (i : Nat) old) ∧ h.IsListIter i1 l i) where
  mem := by simp
  obj := fun i h st b hb => by
    obtain ⟨⟨old, hz⟩, ⟨o1, e1, c1, d1⟩⟩ := st
    have hb' : b = z ∨ b = i1 := by simpa using hb
    rcases hb' with rfl | rfl
    · exact ⟨_, hz, fun v q => by cases (show Data.fields _ = Data.cell v from q)⟩
    · exact ⟨o1, e1, fun v q => by rw [d1] at q; cases q⟩
  keep := fun i h h' st k => by
    obtain ⟨⟨old, hz⟩, h1⟩ := st
    exact ⟨⟨old, k z (by simp) _ hz⟩, h1.at fun o e => k i1 (by simp) o e⟩
  item := by
    intro X hP hw hK hc i pins s σ H E I hf st hg
    subst hP hw hK
    obtain ⟨xs, x, q1, ex⟩ := hg
    obtain ⟨hz, h1⟩ := st
    obtain ⟨its1, r1, p1, z1⟩ := I.list q1
    have L1 := r1.length
    have W := WalksT.enumerate (prog := X.prog) (w := X.w) (I.ok.hd hc) z i1 l n1 n2 n3 its1.toArray
    have hx : i < xs.length := (List.getElem?_eq_some_iff.mp ex).1
    refine W.item i s _ _ (by simp only [List.size_toArray]; omega) ⟨hz, h1, p1.isList⟩ fun T vals h' tk hv hT hTup mid kk => ?_
    refine ⟨.ref T, rfl, W.go es kt pt i T _ _ _ mid fun h'' st' kk' => ?_⟩
    obtain ⟨t1, u1, g1, rfl⟩ := hv
    obtain ⟨w1, e1, rx⟩ := r1.get ex
    have ew1 : u1 = w1 := by
      have : its1[i]? = some u1 := by simpa using g1
      rw [this] at e1; exact Option.some.inj e1
    subst ew1
    have nT : H T = none := I.hok.fresh hT
    have tw : T ∉ [z, i1] := W.apart i T _ mid
    have keep : ∀ b o, b ∉ [z, i1] → s.heap.get? b = some o → h''.get? b = some o := fun b o hb e => kk' b o hb (kk b o hb e)
    have neT : ∀ b o, s.heap.get? b = some o → b ≠ T := fun b o e => Nat.ne_of_lt (Nat.lt_of_lt_of_le (Heap.lt_size e) hT)
    have nin : ∀ b u, H b = some u → b ∉ [z, i1] := fun b u e hm => by
      rw [(hf b hm).1] at e; cases e
    have tupT : IsTup h'' T #[.int (i : Nat) t1, u1] := by
      obtain ⟨o, e, c, n, d⟩ := hTup
      exact ⟨o, kk' T o tw e, c, n, d⟩
    have hok : HOk X.prog X.w (upd H T (.tup [.int (i : Nat), x])) h'' := fun b u e => by
      by_cases hb : b = T
      · subst hb
        rw [upd_same] at e
        cases e
        exact ⟨by show 2 ≤ sizeLine; decide, [.int (i : Nat) t1, u1], .cons ⟨_, rfl⟩ (.cons rx .nil), tupT⟩
      · rw [upd_ne hb] at e
        refine (I.hok b u e).stay (fun c v hcc q => keep c v ?_ q) (fun c q => by rw [upd_ne (ne_of_none q nT)]; exact q) fun c zs q => by rw [upd_ne (ne_of_none q nT)]; exact q
        rcases hcc with rfl | hcc
        · exact nin _ _ e
        · exact nin _ _ hcc
    have I2 : Inv X pins σ (upd H T (.tup [.int (i : Nat), x])) { s with heap := h'', toks := tk } := by
      refine I.step (g' := s.gens) (d' := s.drawn) (ch := [z, i1]) (fun b hb => ?_) (fun b o _ _ hb e _ => keep b o hb e) (fun b o _ _ hb e _ => ⟨o.slots, keep b o hb e⟩) (fun b o _ e n => by rw [upd_ne (neT b o e)]; exact n)
        (fun b o hb e => ⟨o, keep b o hb e⟩) (fun b zs e => by rw [upd_ne (ne_of_none e nT)]; exact e) (fun b o u e => by rw [upd_ne (ne_of_none e nT)]; exact e) (fun b ps e => ⟨#[], by rw [upd_ne (ne_of_none e nT), e]; simp⟩) (fun m hm => ?_) hok I.bare
      · obtain ⟨f0, f1, f2, f3, f4, f5⟩ := hf b hb
        exact ⟨f3, f1, f4, f5⟩
      · obtain ⟨o, es', ep, ho, r⟩ := hm
        exact ⟨o, es', ep, keep _ o (fun hm => (hf _ hm).2.1 rfl) ho, r⟩
    obtain ⟨sz, s1, _⟩ := st'
    refine ⟨.ref T, _, I2, rfl, ⟨T, x, rfl, nT, rfl, fun xs' q1' => by rw [I.list_inj q1' q1]; exact ex⟩, ⟨sz, s1⟩, fun b hb => ?_⟩
    obtain ⟨o, e, _⟩ : ∃ o, s.heap.get? b = some o ∧ True := by
      obtain ⟨old, hz⟩ := hz
      obtain ⟨o1, e1, _⟩ := h1
      have hb' : b = z ∨ b = i1 := by simpa using hb
      rcases hb' with rfl | rfl
      · exact ⟨_, hz, trivial⟩
      · exact ⟨_, e1, trivial⟩
    rw [upd_ne (neT b o e)]
    exact (hf b hb).1
  done := by
    intro X hP hw hK hc i pins s σ H E I hf st hg
    subst hP hw hK
    obtain ⟨xs, q1, en⟩ := hg
    obtain ⟨hz, h1⟩ := st
    obtain ⟨its1, r1, p1, z1⟩ := I.list q1
    have L1 := r1.length
    have W := WalksT.enumerate (prog := X.prog) (w := X.w) (I.ok.hd hc) z i1 l n1 n2 n3 its1.toArray
    have en' : its1.toArray.size = i := by simp only [List.size_toArray]; omega
    refine W.done s _ _ (by rw [en']; exact ⟨hz, h1, p1.isList⟩) fun h' tk kk => ⟨rfl, ?_⟩
    have nin : ∀ b u, H b = some u → b ∉ [z, i1] := fun b u e hm => by
      rw [(hf b hm).1] at e; cases e
    refine I.step (g' := s.gens) (d' := s.drawn) (ch := [z, i1]) (fun b hb => ?_) (fun b o _ _ hb e _ => kk b o hb e) (fun b o _ _ hb e _ => ⟨o.slots, kk b o hb e⟩) (fun b o _ e n => n)
      (fun b o hb e => ⟨o, kk b o hb e⟩) (fun b zs e => e) (fun b o u e => e) (fun b ps e => ⟨#[], by rw [e]; simp⟩) (fun m hm => ?_) (fun b u e => ?_) I.bare
    · obtain ⟨f0, f1, f2, f3, f4, f5⟩ := hf b hb
      exact ⟨f3, f1, f4, f5⟩
    · obtain ⟨o, es', ep, ho, r⟩ := hm
      exact ⟨o, es', ep, kk _ o (fun hm => (hf _ hm).2.1 rfl) ho, r⟩
    · refine (I.hok b u e).stay (fun c v hcc q => kk c v ?_ q) (fun _ q => q) fun _ _ q => q
      rcases hcc with rfl | hcc
      · exact nin _ _ e
      · exact nin _ _ hcc
  self := fun _ _ _ _ _ st h => by
    obtain ⟨⟨old, hz⟩, _⟩ := st
    exact wpAny_pyIter_enum hz h
section
variable {X : Cx}
def iEnum (K : PySem.W.Frag) (ta : TA) : TI := fun σ H R => ta σ H fun vs H1 => ∃ l, vs = [.ref l] ∧ (∃ xs, SqL K H1 l xs) ∧ R (Ite K l) H1
theorem pi_enum {a : Expr} {ta : TA} {p pos : Pos} {es : List Expr} {kt : Nat} {pt : Pos} (hg : Gl X "enumerate") (hm : X.mg "enumerate" = none) (ha : PA X [a] ta) (hs : starEach [a] X.env = [(false, eval a X.env)] := by rfl) : PI X (.Tuple es kt pt) (.Call (.Name "enumerate" p) [a] [] pos) (iEnum X.K ta) := by
  intro pins s σ H R I h
  refine Call_ (ld_blt I hg hm PyProof.Rows.boot_enumerate (PyProof.Rows.callWith_type1 (thn (ha pos pins s σ H _ I h) fun us s1 ⟨vs, H1, I1, r1, q1⟩ => ?_) (by rw [hs]; rfl) (by rfl)))
  obtain ⟨l1, e, ⟨xs, q1⟩, q⟩ := q1
  subst e
  obtain ⟨u1, rfl, e1⟩ : ∃ u1, us = [u1] ∧ RelV (.ref l1) u1 := by
    cases r1 with
    | cons r rr => cases rr; exact ⟨_, rfl, r⟩
  cases e1
  obtain ⟨its1, r1, p1, z1⟩ := I1.list q1
  have lt1 : l1 < s1.heap.objs.size := by obtain ⟨o, n, e, _⟩ := p1; exact Heap.lt_size e
  refine call_enumerate_list p1.isList fun h' hz hi1 hsz hk => ?_
  refine wpAny_pyIter_enum hz ?_
  refine ⟨s1.heap.objs.size + 1, [s1.heap.objs.size + 1, s1.heap.objs.size], _, _, H1, rfl, I1.kept (t' := s1.toks) hk, turn_enum _ _ _ (Nat.succ_ne_self _) (Nat.ne_of_lt (Nat.lt_succ_of_lt lt1)) (Nat.ne_of_lt lt1), ⟨⟨_, hz⟩, hi1⟩, fun b hb => ?_, q⟩
  have hb' : b = s1.heap.objs.size + 1 ∨ b = s1.heap.objs.size := by simpa using hb
  have hge : s1.heap.objs.size ≤ b := by
    rcases hb' with rfl | rfl
    · exact Nat.le_add_right _ _
    · exact Nat.le_refl _
  exact I1.fpOk hge (I1.hok.fresh hge)
/-- over a list that stays -/
theorem for_enum {K : PySem.W.Frag} {l : Addr} {xs : List V} {g : TG} {tb : TS} {D : Ends} {σ : St} {H : Hp} (Pv : Nat → St → Hp → Prop) (h0 : Pv 0 σ H) (hl : ∀ i σ H, i ≤ xs.length → Pv i σ H → SqL K H l xs)
    (hs : ∀ i x T σ H, xs[i]? = some x → H T = none → Pv i σ H → g (.ref T) σ (upd H T (.tup [.int (i : Nat), x])) fun σ2 H2 => tb { D with nx := Pv (i + 1), ct := Pv (i + 1), bk := D.nx } σ2 H2) (hd : ∀ σ H, Pv xs.length σ H → D.nx σ H) :
    ∃ W : Nat → Nat → St → Hp → Prop, (∃ m, W 0 m σ H) ∧ ∀ i m σ H, W i m σ H →
      ((Ite K l).stop i H ∧ D.nx σ H) ∨ ((Ite K l).go i H ∧ ∃ N : St → Hp → Prop, (∀ σ' H', N σ' H' → ∃ m', m' < m ∧ W (i + 1) m' σ' H') ∧ ∀ x H', (Ite K l).yld i H x H' → g x σ H' fun σ2 H2 => tb { D with nx := N, ct := N, bk := D.nx } σ2 H2) := by
  refine ⟨fun i m σ H => m = xs.length - i ∧ i ≤ xs.length ∧ Pv i σ H, ⟨xs.length, by simp, Nat.zero_le _, h0⟩, ?_⟩
  rintro i m σ H ⟨rfl, hi, p⟩
  have q1 := hl i σ H hi p
  by_cases hlt : i < xs.length
  · refine .inr ⟨⟨xs, xs[i], q1, by simp [hlt]⟩, Pv (i + 1), fun σ' H' p' => ⟨xs.length - (i + 1), by omega, rfl, hlt, p'⟩, fun v H' y => ?_⟩
    obtain ⟨T, x, e1, e2, e3, e4⟩ := y
    subst e1 e3
    exact hs i x T σ H (e4 xs q1) e2 p
  · have e : i = xs.length := by omega
    subst e
    exact .inl ⟨⟨xs, q1, rfl⟩, hd σ H p⟩
theorem pg_tupK {es : List Expr} {k : Nat} {t : TGs} {n : Nat} {pos : Pos} (K : PySem.W.Frag) (hK : X.K = K) (hc : X.calm = true) (h : PGs X es t)
    (hn : (assignEach es X.env).length = n := by rfl) (hst : (assignEach es X.env).findIdx? (·.1) = none := by rfl) : PG X (.Tuple es k pos) (gTup K n t) := hK ▸ pg_tup hc h hn hst
end
theorem r_rng2 {tA : TA} {σ : St} {H : Hp} {q' : It → Hp → Prop} (q : tA σ H fun vs H1 => ∃ i j : Int, vs = [.int i, .int j] ∧ (-(2 ^ 62) ≤ i ∧ i < 2 ^ 62 ∧ -(2 ^ 62) ≤ j ∧ j < 2 ^ 62) ∧ q' (Itr i (j - i).toNat) H1) : iRng2 tA σ H q' := q
theorem r_enum {K : PySem.W.Frag} {tA : TA} {σ : St} {H : Hp} {q' : It → Hp → Prop} (q : tA σ H fun vs H1 => ∃ l, vs = [.ref l] ∧ (∃ xs, SqL K H1 l xs) ∧ q' (Ite K l) H1) : iEnum K tA σ H q' := q
theorem set01 {σ0 : St} {x y : Option V} : ((σ0.set 0 x).set 1 y).length = σ0.length ∧ ∀ j, 2 ≤ j → ((σ0.set 0 x).set 1 y)[j]? = σ0[j]? :=
  ⟨by rw [List.length_set, List.length_set], fun j hj => by rw [List.getElem?_set_ne (by omega), List.getElem?_set_ne (by omega)]⟩
section
variable {K : PySem.W.Frag} {tt : TT} {te : TE} {σ0 : St} {D : Addr} {H1 : Hp} {Q : Hp → Prop}
/-- [f(x, y) for x, y in zip(xs, ys)] -/
theorem compZ {l1 l2 : Addr} {xs ys : List V} (f : Nat → V) (hD : H1 D = none) (h1 : SqL K H1 l1 xs) (h2 : SqL K H1 l2 ys) (hlen : xs.length = ys.length) (hn : xs.length ≤ 1000)
    (he : ∀ i x y H' q, xs[i]? = some x → ys[i]? = some y → Same H1 H' → (∀ H'', Same H' H'' → q (f i) H'') → te ((σ0.set 0 (some x)).set 1 (some y)) H' q)
    (hq : ∀ H', Same H1 H' → H' D = some (.lst ((List.range xs.length).map f)) → Q H') : CompBody (Itz K l1 l2) (gTup K 2 (gCons (gName 0) (gCons (gName 1) gNil))) tTT te 2 σ0 D H1 Q := by
  refine ⟨fun i m zs H => m = xs.length - i ∧ i ≤ xs.length ∧ Same H1 H ∧ H D = some (.lst zs) ∧ zs = (List.range i).map f, ⟨xs.length, by simp, Nat.zero_le _, Same.new hD, upd_same, rfl⟩, ?_⟩
  rintro i m zs H ⟨rfl, hi, sm, hd, rfl⟩
  have q1 := sm.seq h1
  have q2 := sm.seq h2
  by_cases hlt : i < xs.length
  · have hlt2 : i < ys.length := by omega
    refine .inr ⟨⟨xs, ys, xs[i], ys[i], q1, q2, by simp [hlt], by simp [hlt2]⟩, fun zs' H' => Same H1 H' ∧ H' D = some (.lst zs') ∧ zs' = (List.range (i + 1)).map f, fun zs' H' p' => ⟨xs.length - (i + 1), by omega, rfl, hlt, p'⟩, fun v H' y => ?_⟩
    obtain ⟨T, x, y, e1, e2, e3, e4⟩ := y
    subst e1 e3
    obtain ⟨g1, g2⟩ := e4 xs ys q1 q2
    refine r_gtup (xs := [x, y]) (SqT.of upd_same) rfl (r_gcons (r_name (r_gcons (r_name (r_gnil ⟨set01, ?_⟩)))))
    refine r_tt (iteT (he i x y _ _ g1 g2 (sm.trans (Same.new e2)) fun H3 s3 => ?_))
    refine ⟨s3 _ _ (Same.new e2 _ _ hd), small1000 (by rw [List.length_map, List.length_range]; omega), Same.setp hD (sm.trans ((Same.new e2).trans s3)), upd_same, ?_⟩
    rw [List.range_succ, List.map_append]
    rfl
  · have e : i = xs.length := by omega
    subst e
    exact .inl ⟨⟨xs, ys, q1, q2, by omega⟩, hq H sm hd⟩
end
theorem tab_at? {n i : Nat} {F : Nat → Int} (h : i < n) : ((tab n F).map V.int)[i]? = some (V.int (F i)) := by simp [tab, h]
theorem atI_tab {n i : Nat} {F : Nat → Int} (h : i < n) : atI ((tab n F).map V.int) (0 + (i : Int)) = some (V.int (F i)) := by
  rw [Int.zero_add]
  exact atI_nat (tab_at? h)
theorem TabIs.cat {H : Hp} {as bs : List Addr} {rows rows' : List (List Int)} (t : TabIs H as rows) (u : TabIs H bs rows') : TabIs H (as ++ bs) (rows ++ rows') := by
  refine ⟨by simp [t.1, u.1], fun j a r e1 e2 => ?_⟩
  by_cases hj : j < as.length
  · rw [List.getElem?_append_left hj] at e1
    rw [List.getElem?_append_left (by rw [← t.1]; exact hj)] at e2
    exact t.2 j a r e1 e2
  · have l1 : as.length ≤ j := by omega
    rw [List.getElem?_append_right l1] at e1
    rw [List.getElem?_append_right (by rw [← t.1]; exact l1), ← t.1] at e2
    exact u.2 _ a r e1 e2
theorem r_slLE {K : PySem.W.Frag} {H : Hp} {Q : VK} {a : Addr} {xs : List V} {lo hi : Option Int} (h : SqL K H a xs) (q : ∀ p, H p = none → Q (.ref p) (upd H p (.lst (cutV xs lo hi)))) : rSlL K (.ref a) lo hi H Q := ⟨a, xs, rfl, h, q⟩
end L2

set_option Elab.async false
set_option linter.all false
set_option maxRecDepth 100000
/-! A set's table: a free slot is found. -/
namespace L2
open PySem PySem.Spec PyProof.Rows
open PySem.SetTable (Probe Met leap runEnd bits)

/-- the next run -/
def lp (m : Nat) (p : Probe) : Probe := { p with j := (leap m p.i p.perturb).1, more := runEnd m (leap m p.i p.perturb).1 - (leap m p.i p.perturb).1, i := (leap m p.i p.perturb).1, perturb := (leap m p.i p.perturb).2 }
section
variable {t : SetTable} {hs : Nat → Int} {h : Int}
variable (hd : t.dummies = #[]) (hn : ∀ i, t.place[i]? ≠ none → hs i ≠ h)
include hd hn
end
/-- the runs' starts -/
def sq (m : Nat) (x : Nat × Nat) : Nat × Nat := leap m x.1 x.2
/-! a table laid anew -/
end L2

set_option Elab.async false
set_option linter.all false
set_option maxRecDepth 100000
namespace L2
open PySem PySem.Spec PyProof.Rows
open PySem.SetTable (Probe Met leap runEnd bits)
end L2

set_option Elab.async false
set_option linter.all false
set_option maxRecDepth 100000
namespace L2
open PySem PySem.Spec PyProof.Rows
open PySem.SetTable (Probe Met leap runEnd bits)
/-- a set of n tuples, whose hashes are among HS -/
def SetT (h : Heap) (S : Addr) (n : Nat) (HS : List Int) : Prop :=
  ∃ o es ep t, h.get? S = some o ∧ o.ExactSet ∧ o.data = .set es ep t ∧ es.size = n ∧ t.place.size = n ∧ t.dummies = #[] ∧ (t.mask = 7 ∧ n ≤ 4 ∨ t.mask = 31 ∧ n ≤ 18) ∧ ∀ e ∈ es.toList, e.1 ∈ HS
theorem SetT.keeps {h h' : Heap} {S : Addr} {n : Nat} {HS : List Int} (x : SetT h S n HS) (k : ∀ o, h.get? S = some o → h'.get? S = some o) : SetT h' S n HS := by
  obtain ⟨o, es, ep, t, ho, r⟩ := x
  exact ⟨o, es, ep, t, k o ho, r⟩
section
variable {prog : Program} {w : World} {A : Around} {E : Value → Shared → Prop} {s : Shared}
end
end L2

set_option Elab.async false
set_option linter.all false
set_option maxRecDepth 100000
namespace L2
open PySem PySem.Spec PyProof.Rows
section
variable {prog : Program} {w : World} {A : Around} {R : Result → Shared → Prop} {I : Addr} {fp wr : List Addr} {G : Array GenState → Array GenState → Prop} {n : Nat} {P : Nat → Value → Prop} {St : Nat → Shared → Prop}
end
end L2

set_option Elab.async false
set_option linter.all false
set_option maxRecDepth 100000
namespace L2
open PySem PySem.Spec PyProof.Rows
section
variable {prog : Program} {w : World} {A : Around} {E : Value → Shared → Prop} {s : Shared}
end
end L2

set_option Elab.async false
set_option linter.all false
set_option maxRecDepth 100000
namespace L2
open PySem PySem.Spec PyProof.Rows
section
variable {X : Cx}
end
end L2

set_option Elab.async false
set_option linter.all false
set_option maxRecDepth 100000
namespace L2
open PySem PySem.Spec PyProof.Rows
/-- a comprehension over a tuple that stays -/
theorem comp_tup {K : PySem.W.Frag} {a : Addr} {xs : List V} {g : TG} {tt : TT} {te : TE} {k : Nat} {σ0 : St} {D : Addr} {H1 : Hp} {Q : Hp → Prop} (Pv : Nat → List V → Hp → Prop) (h0 : Pv 0 [] (upd H1 D (.lst []))) (hl : ∀ i ys H, i ≤ xs.length → Pv i ys H → SqT K H a xs)
    (hs : ∀ i x ys H, xs[i]? = some x → Pv i ys H → g x σ0 H fun σ3 H3 => (σ3.length = σ0.length ∧ ∀ j, k ≤ j → σ3[j]? = σ0[j]?) ∧ tt σ3 H3 fun b H4 =>
      if b = true then te σ3 H4 fun y H5 => H5 D = some (.lst ys) ∧ ys.length < sizeLine ∧ Pv (i + 1) (ys ++ [y]) (upd H5 D (.lst (ys ++ [y]))) else Pv (i + 1) ys H4)
    (hd : ∀ ys H, Pv xs.length ys H → Q H) : CompBody (Itt K a) g tt te k σ0 D H1 Q := by
  refine ⟨fun i m ys H => m = xs.length - i ∧ i ≤ xs.length ∧ Pv i ys H, ⟨xs.length, by simp, Nat.zero_le _, h0⟩, ?_⟩
  rintro i m ys H ⟨rfl, hi, p⟩
  have q := hl i ys H hi p
  by_cases hlt : i < xs.length
  · refine .inr ⟨⟨xs, xs[i], q, by simp [hlt]⟩, Pv (i + 1), fun ys' H' p' => ⟨xs.length - (i + 1), by omega, rfl, hlt, p'⟩, fun x H2 y => ?_⟩
    obtain ⟨e, y⟩ := y
    subst e
    exact hs i x ys _ (y xs q) p
  · have e : i = xs.length := by omega
    subst e
    exact .inl ⟨⟨xs, q, Nat.le_refl _⟩, hd ys H p⟩
theorem rNeL_nil {K : PySem.W.Frag} {H : Hp} {Q : VK} {a b : Addr} (ha : SqL K H a []) (hb : SqL K H b []) (q : Q (.bl false) H) : rNeL K (.ref a) (.ref b) H Q :=
  ⟨a, b, [], [], rfl, rfl, ha, hb, .inr ⟨rfl, fun _ => true, fun j x y e => by simp at e, q⟩⟩
theorem r_itup {K : PySem.W.Frag} {ta : TE} {σ : St} {H : Hp} {q' : It → Hp → Prop} (q : ta σ H fun x H1 => ∃ a, x = .ref a ∧ (∃ xs, SqT K H1 a xs) ∧ q' (Itt K a) H1) : iTup K ta σ H q' := q
end L2

set_option Elab.async false
set_option linter.all false
set_option maxRecDepth 100000
namespace L2
open PySem PySem.Spec PyProof.Rows

/-! ### an exception of an own class that leaves a def -/
/-- behind a call: the exception at a of the class C, the tuple of its arguments at t (tracked), the abstract heap H'; B is what stays whatever frame it leaves next -/
def CX1 (P : Program) (w : World) : CXT := fun outer H s E e s' =>
  ∃ (a C t : Addr) (H' : Hp) (B : Heap), e = .ref a ∧ s'.os = s.os ∧ AllBare s'.gens ∧ Un (frs outer) [] H H' s.heap s'.heap ∧ HOk P w H' B ∧
    (∀ b o, s.heap.get? b = some o → b ∉ frs outer → (∃ o', B.get? b = some o') ∧ (H b = none → B.get? b = some o)) ∧
    Heap.FlyingW B outer a (.ref C) (.ref t) s'.heap ∧ E (.ref C) (some t) H'

theorem un_fly {fs : List Addr} {H H' : Hp} {h h' B : Heap} (kB : ∀ b o, h.get? b = some o → b ∉ fs → (∃ o', B.get? b = some o') ∧ (H b = none → B.get? b = some o)) (st : B.StaysIn h')
    (fr : ∀ b o, h.get? b = some o → b ∈ fs → ∃ sl, h'.get? b = some { o with slots := sl }) (free : ∀ b o, h.get? b = some o → H b = none → H' b = none)
    (tups : ∀ b xs, H b = some (.tup xs) → H' b = some (.tup xs)) (frzs : ∀ b o u, H b = some (.frz o u) → H' b = some (.frz o u)) (tbls : ∀ b ps, H b = some (.tbl ps) → ∃ more, H' b = some (.tbl (ps ++ more))) :
    Un fs [] H H' h h' where
  keep := fun b o e n hb _ => st b o ((kB b o e hb).2 n)
  slot := fun b o e n hb _ => fr b o e hb
  free := fun b o e n _ => free b o e n
  there := fun b o e _ => by
    by_cases hb : b ∈ fs
    · obtain ⟨sl, q⟩ := fr b o e hb; exact ⟨_, q⟩
    · obtain ⟨o', q⟩ := (kB b o e hb).1; exact ⟨o', st _ _ q⟩
  tups := tups
  frzs := frzs
  tbls := tbls

theorem HOk.none_of {P : Program} {w : World} {H : Hp} {h : Heap} {a : Addr} (x : HOk P w H h) (e : h.get? a = none) : H a = none := by
  cases q : H a with
  | none => rfl
  | some u =>
    have := x a u q
    exfalso
    cases u with
    | lst xs => obtain ⟨_, _, _, _, e'⟩ := this; rw [e] at e'; cases e'
    | tup xs => obtain ⟨_, _, _, _, e', _⟩ := this; rw [e] at e'; cases e'
    | dK kvs => obtain ⟨_, _, _, _, o, _, _, e', _⟩ := this; rw [e] at e'; cases e'
    | dT kvs => obtain ⟨_, _, _, _, o, _, _, e', _⟩ := this; rw [e] at e'; cases e'
    | set S n => obtain ⟨o, _, _, _, e', _⟩ := this; rw [e] at e'; cases e'
    | ins C dx fs => obtain ⟨_, _, _, e', _⟩ := this; rw [e] at e'; cases e'
    | own y => obtain ⟨_, e'⟩ := this; rw [e] at e'; cases e'
    | xd fs => obtain ⟨_, ⟨_, _, _, e', _⟩, _⟩ := this; rw [e] at e'; cases e'
    | rng lo hi => obtain ⟨_, _, _, e'⟩ := this; rw [e] at e'; cases e'
    | frz ob u => obtain ⟨e', _⟩ := this; rw [e] at e'; cases e'
    | tbl ps => have e' : h.get? a = some _ := this; rw [e] at e'; cases e'
    | met f y => have e' : h.get? a = some _ := this; rw [e] at e'; cases e'
    | ext φ => obtain ⟨_, ⟨_, e'⟩, _⟩ := this; rw [e] at e'; cases e'
/-- what is tracked stays where untracked things are hidden -/
theorem HOk.hide {P : Program} {w : World} {H : Hp} {h : Heap} {l : List Addr} (x : HOk P w H h) (n : ∀ b ∈ l, H b = none) : HOk P w H (PySem.W.hideAll h l) := fun a o e =>
  (x a o e).stay (fun b u hb q => PySem.W.hideAll_get l q fun z => by
    rcases hb with rfl | hb
    · rw [n _ z] at e; cases e
    · rw [n _ z] at hb; cases hb) (fun _ q => q) fun _ _ q => q
/-- a new object laid and tracked, by its address alone -/
theorem HOk.laidN {P : Program} {w : World} {H : Hp} {h h' : Heap} {a : Addr} {o : HO} (x : HOk P w H h) (k : ∀ b u, h.get? b = some u → h'.get? b = some u) (hn : H a = none) (new : ObjOk P w (upd H a o) h' a o) : HOk P w (upd H a o) h' := fun b u e => by
  by_cases hb : b = a
  · subst hb; rw [upd_same] at e; cases e; exact new
  · rw [upd_ne hb] at e
    exact (x b u e).stay (fun c v _ q => k c v q) (fun c q => by rw [upd_ne (ne_of_none q hn)]; exact q) fun c xs q => by rw [upd_ne (ne_of_none q hn)]; exact q

section
variable {P : Program} {w : World} {K : PySem.W.Frag} {mg : Str → Option Value} {base : Heap} {N : List Str} {qual : Str} {scope : Scope} {f : Addr} {cd : Value} {A : Around} {outer : List Env} {s₀ : Shared} {H₀ : Hp} {E : XK}

theorem mem_frs {env : Env} {l : List Env} {b : Addr} (hb : b ∈ frs (env :: l)) : env.frame = some b ∨ b ∈ frs l := by
  unfold frs at hb ⊢
  rw [List.filterMap_cons] at hb
  cases q : env.frame with
  | none => rw [q] at hb; exact .inr hb
  | some c =>
    rw [q] at hb
    rcases List.mem_cons.mp hb with e | hb
    · exact .inl (by rw [e])
    · exact .inr hb

/-- an exception of a callee passes -/
theorem passX : Passes (CX1 P w) (cxOf (CX1 P w) P w K mg base N qual scope f cd A outer s₀ H₀ E) E := by
  intro pins σ H s e s' I ⟨a, C, t, H', B, he, os, bare, un, hok, kB, fl, hE⟩
  subst he
  show wpAny _ _ (leaving _ (.ref a)) _ _ s'
  refine wpAny_leaves_onW (base := B) I.ok.frames rfl fl fun h' fl' up => ?_
  have st := I.stack
  have fr : ∀ b o, s.heap.get? b = some o → b ∈ frs (cxOf (CX1 P w) P w K mg base N qual scope f cd A outer s₀ H₀ E).stack → ∃ sl, h'.get? b = some { o with slots := sl } := fun b o ho hb => by
    obtain ⟨_, o', ho', hd⟩ := st.mem hb
    rw [ho] at ho'; cases ho'
    obtain ⟨sl, q⟩ := un.slot b o ho (I.stkFree b hb) hb (by simp)
    obtain ⟨sl', q'⟩ := up b _ q hd
    exact ⟨sl', q'⟩
  have u2 : Un (frs (cxOf (CX1 P w) P w K mg base N qual scope f cd A outer s₀ H₀ E).stack) [] H H' s.heap h' :=
    un_fly kB fl'.1 fr (fun b o e n => un.free b o e n (by simp)) un.tups un.frzs un.tbls
  have J := I.call' (s' := { s' with heap := h' }) (ch := []) os u2 (hok.kept fl'.1) bare (fun _ z => nomatch z)
  refine ⟨a, C, t, H', B, rfl, J.os, J.bare, J.base, hok, fun b o e hb => ?_, fl', hE⟩
  obtain ⟨o', e1⟩ := I.base.there b o e (by show b ∉ []; simp)
  have nb : b ∉ frs (cxOf (CX1 P w) P w K mg base N qual scope f cd A outer s₀ H₀ E).stack := fun z => by
    rcases mem_frs z with q | q
    · have q : s₀.heap.objs.size = b := Option.some.inj q
      exact absurd (Heap.lt_size e) (by rw [q]; exact Nat.lt_irrefl _)
    · exact hb q
  refine ⟨(kB b o' e1 nb).1, fun n => ?_⟩
  exact (kB b o (I.base.keep b o e n hb (by show b ∉ []; simp)) nb).2 (I.base.free b o e n (by show b ∉ []; simp))

/-- an exception of an own class is made in a def's body and leaves it -/
def Raises (X : Cx) (E : XK) : Prop := ∀ (pins : List (Addr × Obj)) (σ : St) (H : Hp) (s : Shared) (h' : Heap) (e C : Addr) (us : List Value) (vs : List V), Inv X pins σ H s → Heap.MadeExcOf s.heap h' e (.ref C) us → Vals vs us → vs.length ≤ sizeLine →
  (∀ t, H t = none → E (.ref C) (some t) (upd H t (.tup vs))) → X.xe (.ref e) { s with heap := h' }

theorem raiseX : Raises (cxOf (CX1 P w) P w K mg base N qual scope f cd A outer s₀ H₀ E) E := by
  intro pins σ H s h' e C us vs I hx rv hz hE
  show wpAny _ _ (leaving _ (.ref e)) _ _ _
  obtain ⟨t, he, htn, ht⟩ := hx.there
  have tn : H t = none := I.hok.none_of htn
  have en : H e = none := I.hok.none_of hx.new
  have st := I.stack
  have st' : h'.FunFrames base (cxOf (CX1 P w) P w K mg base N qual scope f cd A outer s₀ H₀ E).stack := st.of_keeps fun b o hb _ => ⟨o, hx.keeps b o hb, rfl⟩
  have stF : ∀ b ∈ frs (cxOf (CX1 P w) P w K mg base N qual scope f cd A outer s₀ H₀ E).stack, H b = none := I.stkFree
  have tnf : t ∉ frs (cxOf (CX1 P w) P w K mg base N qual scope f cd A outer s₀ H₀ E).stack := fun z => by
    obtain ⟨_, o, ho, _⟩ := st.mem z
    rw [htn] at ho; cases ho
  have tne : t ≠ e := fun z => by
    subst z
    rw [he] at ht
    injection ht with ht
    have := congrArg Obj.data ht
    cases this
  refine wpAny_leaving_firstW (base := PySem.W.hideAll h' (e :: frs (cxOf (CX1 P w) P w K mg base N qual scope f cd A outer s₀ H₀ E).stack)) (a0 := .ref t) (L := s₀.heap.objs.size) I.ok.frames
    (PySem.W.funFrames_hide st' fun env henv b hb => List.mem_cons_of_mem _ (List.mem_filterMap.mpr ⟨env, henv, hb⟩)) rfl he (fun b o q => PySem.W.of_hideAll _ q) (PySem.W.hideAll_none _ List.mem_cons_self) rfl rfl rfl fun h'' hL => ?_
  obtain ⟨k1, k2, k3, k4⟩ := hL
  have hok' : HOk P w (upd H t (.tup vs)) h' := I.hok.laidN hx.keeps tn ⟨hz, us, rv, ⟨_, ht, rfl, _, rfl⟩⟩
  have hokB : HOk P w (upd H t (.tup vs)) (PySem.W.hideAll h' (e :: frs (cxOf (CX1 P w) P w K mg base N qual scope f cd A outer s₀ H₀ E).stack)) := hok'.hide fun b hb => by
    rcases List.mem_cons.mp hb with rfl | hb
    · rw [upd_ne (Ne.symm tne)]; exact en
    · rw [upd_ne (show b ≠ t from fun z => tnf (z ▸ hb))]; exact stF b hb
  have kB : ∀ b o, s.heap.get? b = some o → b ∉ frs (cxOf (CX1 P w) P w K mg base N qual scope f cd A outer s₀ H₀ E).stack →
      (∃ o', (PySem.W.hideAll h' (e :: frs (cxOf (CX1 P w) P w K mg base N qual scope f cd A outer s₀ H₀ E).stack)).get? b = some o') ∧ (H b = none → (PySem.W.hideAll h' (e :: frs (cxOf (CX1 P w) P w K mg base N qual scope f cd A outer s₀ H₀ E).stack)).get? b = some o) := fun b o ho hb => by
    have q := PySem.W.hideAll_get (e :: frs (cxOf (CX1 P w) P w K mg base N qual scope f cd A outer s₀ H₀ E).stack) (hx.keeps b o ho) fun z => by
      rcases List.mem_cons.mp z with rfl | z
      · rw [hx.new] at ho; cases ho
      · exact hb z
    exact ⟨⟨o, q⟩, fun _ => q⟩
  have fr : ∀ b o, s.heap.get? b = some o → b ∈ frs (cxOf (CX1 P w) P w K mg base N qual scope f cd A outer s₀ H₀ E).stack → ∃ sl, h''.get? b = some { o with slots := sl } := fun b o ho hb => by
    obtain ⟨_, o', ho', hd⟩ := st.mem hb
    rw [ho] at ho'; cases ho'
    exact k4 b o (hx.keeps b o ho) hd
  have ne : ∀ {b o}, H b = some o → b ≠ t := fun {b o} q z => by rw [z, tn] at q; cases q
  have u2 : Un (frs (cxOf (CX1 P w) P w K mg base N qual scope f cd A outer s₀ H₀ E).stack) [] H (upd H t (.tup vs)) s.heap h'' :=
    un_fly kB k1 fr (fun b o ho n => by rw [upd_ne fun z => by rw [z, htn] at ho; cases ho]; exact n) (fun b xs q => by rw [upd_ne (ne q)]; exact q) (fun b o u q => by rw [upd_ne (ne q)]; exact q)
      (fun b ps q => ⟨#[], by rw [upd_ne (ne q), q]; simp⟩)
  have J := I.call' (s' := { s with heap := h'' }) (ch := []) rfl u2 (hokB.kept k1) I.bare (fun _ z => nomatch z)
  obtain ⟨_, _, k2'⟩ := k2
  refine ⟨e, C, t, _, _, rfl, J.os, J.bare, J.base, hokB, fun b o hb nb => ?_, ⟨k1, PySem.W.hideAll_none _ List.mem_cons_self, k2', k3⟩, hE t tn⟩
  obtain ⟨o', e1⟩ := I.base.there b o hb (by show b ∉ []; simp)
  have nb' : b ∉ frs (cxOf (CX1 P w) P w K mg base N qual scope f cd A outer s₀ H₀ E).stack := fun z => by
    rcases mem_frs z with q | q
    · have q : s₀.heap.objs.size = b := Option.some.inj q
      exact absurd (Heap.lt_size hb) (by rw [q]; exact Nat.lt_irrefl _)
    · exact nb q
  refine ⟨(kB b o' e1 nb').1, fun n => ?_⟩
  exact (kB b o (I.base.keep b o hb n nb (by show b ∉ []; simp)) nb').2 (I.base.free b o hb n (by show b ∉ []; simp))
end
end L2

set_option Elab.async false
set_option linter.all false
set_option maxRecDepth 100000
namespace L2
open PySem PySem.Spec PyProof.Rows

/-! ### raise C(..), C an own class under ValueError -/
abbrev bmV : List Value := [.type "ValueError", .type "Exception", .type "BaseException", .type "object"]
abbrev ExcCls (K : PySem.W.Frag) (C : Addr) : Prop := PySem.W.excIn K C bmV "ValueError.__new__" = true

theorem exc_of {K : PySem.W.Frag} {h : Heap} {C : Addr} {bmB : List Value} {newId : String} (X : K.In h) (z : PySem.W.excIn K C bmB newId = true) :
    ∃ nm qn N bs bm hd sn sub ab col dd k0 k1 k2 k3 k5 mN, h.get? C = some (excClassObj nm qn C N bs bm hd sn sub ab col dd k0 k1 k2 k3 k5 newId) ∧ h.Ns N mN ∧ mN "__init__" = none ∧ OwnTail h bmB bm := by
  unfold PySem.W.excIn at z
  cases e : K.lookup C with
  | none => rw [e] at z; cases z
  | some o =>
    rw [e] at z
    obtain ⟨oc, od, data, sl⟩ := o
    split at z
    next dd cd sl' heq =>
      injection heq with heq
      cases heq
      split at z
      next C' bm a0 a1 a2 a3 n a5 hm hs =>
        rw [Bool.and_eq_true, Bool.and_eq_true, Bool.and_eq_true, Bool.and_eq_true, Bool.and_eq_true] at z
        obtain ⟨⟨⟨⟨⟨z1, z2⟩, z3⟩, z4⟩, z5⟩, z6⟩ := z
        obtain rfl := beq_iff_eq.mp z1
        obtain rfl := beq_iff_eq.mp z2
        have z6 := beq_iff_eq.mp z6
        cases cd with
        | mk nm bs mro ns qn hd sn sub ab col del =>
          have hm' : mro = _ := hm
          subst hm'
          cases del with
          | true => cases z3
          | false =>
            cases sl with
            | mk l =>
              have hs' : l = _ := hs
              subst hs'
              exact ⟨nm, qn, ns, bs, bm, hd, sn, sub, ab, col, od, a0, a1, a2, a3, a5, _, X _ _ e, .of_isNs (PySem.W.isNs_of_in X z5), PySem.W.nsMap_none_of_in X z5 z6, PySem.W.tail_of_in X z4⟩
      next => cases z
    next => cases z

/-- raise C(e, ..) -/
def tRaise (C : Addr) (E : XK) (t : TA) : TS := fun _ σ H => t σ H fun vs H1 => vs.length ≤ sizeLine ∧ ∀ p, H1 p = none → E (.ref C) (some p) (upd H1 p (.tup vs))
theorem ps_raise {X : Cx} {E : XK} {C : Addr} {x : Str} {np cpos pos : Pos} {e : Expr} {es : List Expr} {t : TA} (hR : Raises X E) (hh : X.A.handled = none) (hg : Gl X x) (hm : X.mg x = some (.ref C)) (q : ExcCls X.K C) (ha : PA X (e :: es) t)
    (hd : (x == ("__debug__" : Str)) = false := by decide) (he : starEach (e :: es) X.env = (false, eval e X.env) :: starEach es X.env := by rfl) (hpl : (backTo cpos (starEach es X.env)).any (·.1) = false := by rfl) :
    PS X (.Raise (some (.Call (.Name x np) (e :: es) [] cpos)) none pos) (tRaise C E t) := by
  intro pins s σ H D I h
  obtain ⟨nm, qn, Nn, bs, bm, hd', sn, sub, ab, col, dd, k0, k1, k2, k3, k5, mN, hC, hN, hni, T⟩ := exc_of I.mod.kin q
  refine wpAny_Raise_call_subT (C := C) (nm := nm) (q := qn) (N := Nn) (bs := bs) (bm := bm) (hdct := hd') (sn := sn) (sub := sub) (ab := ab) (col := col) (dd := dd) (k0 := k0) (k1 := k1) (k2 := k2) (k3 := k3) (k5 := k5)
    F.excBase_ValueError (mN := mN) (T.hasType F.excBase_ValueError.hasBase) hh ?_ hni (ld_glob I hg hm ⟨rfl, ?_⟩ hd)
  · rw [he]; show (false || (backTo cpos (starEach es X.env)).any (·.1)) = false; rw [hpl]; rfl
  · have h2 := ha cpos pins s σ H _ I h
    rw [he] at h2 ⊢
    refine Calls.evalArgs_plain (wpAny_mono h2 (fun us s₂ hh2 => ?_) fun _ _ y => y)
    obtain ⟨vs, H1, I1, rv, hz, hE⟩ := hh2
    exact ⟨rfl, by rw [← rv.length]; exact hz, I1.bk _ _ hC, hN.keeps I1.bk, T.keeps I1.bk, fun h' e hx => hR pins σ H1 s₂ h' e C us vs I1 hx rv hz hE⟩
theorem r_raise {C : Addr} {E : XK} {t : TA} {D : Ends} {σ : St} {H : Hp} (q : t σ H fun vs H1 => vs.length ≤ sizeLine ∧ ∀ p, H1 p = none → E (.ref C) (some p) (upd H1 p (.tup vs))) : tRaise C E t D σ H := q

/-! ### defs that may raise -/
/-- a def (or method) of the text, defaults and all -/
structure FunD (K : PySem.W.Frag) (x qual : Str) (st : Stmt) (f : Addr) (fd : FuncData) (dV : Value) : Prop where
  ex : ∃ (oc : Value) (od : Option Addr) (kV doc pm : Value) (an : Option Addr) (cdv ct : Value) (osl : Array (Option Value)),
    fd = PySem.W.fnOf x qual (defArgs st) (defBody st) (defScope st) dV kV doc pm an cdv ct ∧ K.lookup f = some ⟨oc, od, .func fd, osl⟩ ∧ PySem.W.codeIn K cdv qual = true
theorem Fun.d {K : PySem.W.Frag} {x qual : Str} {st : Stmt} {f : Addr} {fd : FuncData} (F : Fun K x qual st f fd) : FunD K x qual st f fd .none := ⟨F.ex⟩
section
variable {P : Program} {w : World} {K : PySem.W.Frag} {mg : Str → Option Value} {base : Heap}
theorem FunD.okX {x qual : Str} {st : Stmt} {f : Addr} {fd : FuncData} {dV : Value} {N ps : List Str} {k : Nat} {sp : Sp} (F : FunD K x qual st f fd dV) (S : FnScope N ps (defScope st)) (len : ∀ vs H Q E, sp vs H Q E → vs.length = ps.length)
    (hbody : ∀ (cdv : Value) (A : Around) (outer : List Env) (s : Shared) (H : Hp) (vs : List V) (Q : VK) (E : XK), Room k (A.deeper (envOfC qual (defScope st) s.heap.objs.size f cdv)) → sp vs H Q E →
      ∃ t, PSs (cxOf (CX1 P w) P w K mg base N qual (defScope st) f cdv A outer s H E) (defBody st) t ∧ t { nx := fun _ H' => Q .non H', rt := Q } (start N vs) H) : FnOk P w K mg base (CX1 P w) (k + 1) f fd ps sp := by
  obtain ⟨oc, od, kV, doc, pm, an, cdv, ct, osl, rfl, lk, hcd⟩ := F.ex
  exact fn_of lk hcd S len fun A outer s H vs Q E hr hsp => hbody cdv A outer s H vs Q E hr hsp
theorem FunD.ok {x qual : Str} {st : Stmt} {f : Addr} {fd : FuncData} {dV : Value} {N ps : List Str} {k : Nat} {sp : Sp} (F : FunD K x qual st f fd dV) (S : FnScope N ps (defScope st)) (len : ∀ vs H Q E, sp vs H Q E → vs.length = ps.length)
    (hbody : ∀ (cdv : Value) (A : Around) (outer : List Env) (s : Shared) (H : Hp) (vs : List V) (Q : VK) (E : XK), Room k (A.deeper (envOfC qual (defScope st) s.heap.objs.size f cdv)) → sp vs H Q E →
      ∃ t, PSs (cxOf CX0 P w K mg base N qual (defScope st) f cdv A outer s H E).nox (defBody st) t ∧ t { nx := fun _ H' => Q .non H', rt := Q } (start N vs) H) : FnOk P w K mg base CX0 (k + 1) f fd ps sp := by
  obtain ⟨oc, od, kV, doc, pm, an, cdv, ct, osl, rfl, lk, hcd⟩ := F.ex
  refine fn_of lk hcd S len fun A outer s H vs Q E hr hsp => ?_
  obtain ⟨t, h, q⟩ := hbody cdv A outer s H vs Q E hr hsp
  exact ⟨t, h.nox, q⟩
/-- a def that may raise, by its name -/
structure FnX (P : Program) (w : World) (K : PySem.W.Frag) (mg : Str → Option Value) (base : Heap) (x : Str) (k : Nat) (ps : List Str) (sp : Sp) : Prop where
  ex : ∃ f fd, FnOk P w K mg base (CX1 P w) k f fd ps sp ∧ mg x = some (.ref f) ∧ PySem.W.keepIn K (.ref f) = true ∧ Binds K fd ps []
/-- a method of the class at C; ds: the defaults that fill up -/
structure MtF (P : Program) (w : World) (K : PySem.W.Frag) (mg : Str → Option Value) (base : Heap) (CX : CXT) (C : Addr) (m : Str) (k : Nat) (ps : List Str) (dvs : List V) (sp : Sp) : Prop where
  ex : ∃ f fd ds, FnOk P w K mg base CX k f fd ps sp ∧ Meth K C m f ∧ Binds K fd ps ds ∧ Vals dvs ds
/-- the making of an instance of the class at C -/
structure MkF (P : Program) (w : World) (K : PySem.W.Frag) (mg : Str → Option Value) (base : Heap) (C : Addr) (k : Nat) (ps : List Str) (dvs : List V) (sp : Sp) : Prop where
  ex : ∃ f fd ds, FnOk P w K mg base CX0 k f fd ps sp ∧ Mk K C f ∧ Binds K fd ps ds ∧ Vals dvs ds
end
section
variable {X : Cx} {k : Nat} {ps : List Str} {sp : Sp} {x m : Str} {C : Addr} {p pos apos : Pos} {e o : Expr} {es : List Expr} {ta : TE} {t : TA} {E : XK} {CX : CXT} {dvs : List V}
theorem pe_fnX {j : Nat} (F : FnX X.prog X.w X.K X.mg X.base x k ps sp) (hr : Room j X.A) (hj : k ≤ j) (hp : Passes (CX1 X.prog X.w) X E) (hg : Gl X x) (ha : PA X (e :: es) t) (hdb : (x == ("__debug__" : Str)) = false := by decide)
    (he : starEach (e :: es) X.env = (false, eval e X.env) :: starEach es X.env := by rfl) (hpl : (backTo pos (starEach es X.env)).any (·.1) = false := by rfl) :
    PE X (.Call (.Name x p) (e :: es) [] pos) (tCall sp [] E t) := by
  obtain ⟨f, fd, G, hm, hk, hb⟩ := F.ex
  exact pe_call G (hr.mono hj) hg hm hk hb .nil hp ha hdb he hpl
theorem pe_mk {j : Nat} (F : MkF X.prog X.w X.K X.mg X.base C k ps dvs sp) (hr : Room j X.A) (hj : k + 1 ≤ j) (hg : Gl X x) (hm : X.mg x = some (.ref C)) (ha : PA X (e :: es) t) (hdb : (x == ("__debug__" : Str)) = false := by decide)
    (he : starEach (e :: es) X.env = (false, eval e X.env) :: starEach es X.env := by rfl) (hpl : (backTo pos (starEach es X.env)).any (·.1) = false := by rfl) : PE X (.Call (.Name x p) (e :: es) [] pos) (tMake C sp dvs E0 t) := by
  obtain ⟨f, fd, ds, G, M, hb, hd⟩ := F.ex
  exact pe_make M G (hr.mono hj) hg hm hb hd pass0 ha hdb he hpl
theorem pe_mt {pl : Sem Bool} {j : Nat} (F : MtF X.prog X.w X.K X.mg X.base CX C m k ps dvs sp) (c : Cls X.K C) (hr : Room j X.A) (hj : k ≤ j) (hp : Passes CX X E) (he : PE X o ta) (ha : PA X (e :: es) t)
    (hst : starEach (e :: es) X.env = (false, eval e X.env) :: starEach es X.env := by rfl) (hpl : (backTo pos (starEach es X.env)).any (·.1) = false := by rfl)
    (ht : eval (.Call (.Attribute o m apos) (e :: es) [] pos) X.env = (do
      let ov ← eval o X.env
      standAt apos.atName
      let (f, first) ← holding [ov] (getMethod ov m pl)
      callWith pos f first (backTo pos (starEach (e :: es) X.env)) (backToKw pos (keywordEach [] X.env))) := by rfl) :
    PE X (.Call (.Attribute o m apos) (e :: es) [] pos) (tMeth C m sp dvs E ta t) := by
  obtain ⟨f, fd, ds, G, hm, hb, hd⟩ := F.ex
  exact pe_meth he c hm G (hr.mono hj) hb hd hp ha hst hpl ht
theorem pe_mt0 {pl : Sem Bool} {j : Nat} (F : MtF X.prog X.w X.K X.mg X.base CX C m k ps dvs sp) (c : Cls X.K C) (hr : Room j X.A) (hj : k ≤ j) (hp : Passes CX X E) (he : PE X o ta)
    (ht : eval (.Call (.Attribute o m apos) [] [] pos) X.env = (do
      let ov ← eval o X.env
      standAt apos.atName
      let (f, first) ← holding [ov] (getMethod ov m pl)
      callWith pos f first (backTo pos (starEach [] X.env)) (backToKw pos (keywordEach [] X.env))) := by rfl) :
    PE X (.Call (.Attribute o m apos) [] [] pos) (tMeth C m sp dvs E ta tNil) := by
  obtain ⟨f, fd, ds, G, hm, hb, hd⟩ := F.ex
  exact pe_meth0 he c hm G (hr.mono hj) hb hd hp ht
end
theorem hu4 {k : Nat} {A : Around} (hr : Room k A) : A.units + 4 < cLine := by have := hr.units; omega
end L2

set_option Elab.async false
set_option linter.all false
set_option maxRecDepth 100000
namespace L2
open PySem PySem.Spec PyProof.Rows

/-! ### try: body / except D as n: suite -/
/-- within the suite: the exception e is handled -/
def Cx.suite (X : Cx) (pn : List (Addr × Obj)) (e : Addr) : Cx := { X with A := X.A.mark (some (.ref e)), calm := false, pn := pn, xe := fun _ _ => False }
theorem Cx.Ok.suite {X : Cx} (ok : X.Ok) (pn : List (Addr × Obj)) (e : Addr) : (X.suite pn e).Ok :=
  ⟨ok.mod, ok.kind, ok.glob, ok.blt, ok.above, ok.inj, ok.has, ok.cab, (fun z => nomatch z), ok.frames, ok.stk, ok.exf, ok.bs, ok.bsz, ok.noex, ok.exfs, ok.funs, ok.frf⟩
section
variable {X : Cx} {pins pn : List (Addr × Obj)} {σ : St} {H : Hp} {s : Shared} {e : Addr} {xe : Value → Shared → Prop}
theorem Inv.suite (I : Inv X pins σ H s) (hp : ∀ p ∈ pn, s.heap.get? p.1 = some p.2 ∧ H p.1 = none ∧ p.1 ≠ X.env.locals ∧ p.1 ∉ X.fs ∧ ∀ v, p.2.data ≠ .cell v) : Inv (X.suite pn e) [] σ H s :=
  ⟨I.ok.suite pn e, I.os, I.bare, I.base, I.loc, I.cell, I.free, I.freeC, fun p h => hp p (by have h : p ∈ pn ++ [] := h; simpa using h), I.hok, I.len⟩
end

/-- the suite's ends: the name is gone behind it -/
def Ends.un (D : Ends) (i : Nat) : Ends := { nx := fun σ H => D.nx (σ.set i none) H, rt := D.rt, bk := fun σ H => D.bk (σ.set i none) H, ct := fun σ H => D.ct (σ.set i none) H }
end L2

set_option Elab.async false
set_option linter.all false
set_option maxRecDepth 100000
namespace L2
open PySem PySem.Spec PyProof.Rows PySem.W PySem.Builtin PySem.Builtin.ObjectAttr PySem.Builtin.Getset_descriptor

/-! ### isinstance(e, D) of a caught exception: nothing is known of its own dict -/
/-- what the class of an exception must have -/
structure XCls (K : Frag) (D : Addr) : Prop where
  ga : findIn K (.ref D) "__getattribute__" = some (some (.builtin "BaseException.__getattribute__"))
  gt : findIn K (.ref D) "__getattr__" = some none
  hd : hasDictIn K D = true
  ca : findIn K (.ref D) "__class__" = some (some (.builtin "object.__class__"))
  sp : specialIn K (.builtin "object.__class__") "__get__" = some (some (.builtin "getset_descriptor.__get__"))
  tk : takesIn K (.builtin "object.__class__") = some true
  mo : mroIn K D (.type "object") = some true
  mb : mroIn K D (.type "BaseException") = some true
section
variable {prog : Program} {w : World} {A : Around} {E : Value → Shared → Prop} {s : Shared} {K : Frag} {x D : Addr}
end
end L2

set_option Elab.async false
set_option linter.all false
set_option maxRecDepth 100000
namespace L2
open PySem PySem.Spec PyProof.Rows

/-! ### zip of three lists of one length -/
abbrev t3 (a b c : Value) : Obj := { cls := .type "tuple", data := .seq #[a, b, c] }
structure Ap3 (z TI TO i1 i2 i3 l1 l2 l3 : Addr) : Prop where
  nd : [z, TI, TO, i1, i2, i3].Nodup
  n1 : l1 ∉ [z, TO, i1, i2, i3]
  n2 : l2 ∉ [z, TO, i1, i2, i3]
  n3 : l3 ∉ [z, TO, i1, i2, i3]
structure Z3 (h : Heap) (z TI TO i1 i2 i3 l1 l2 l3 : Addr) (f0 : Value) (k : Nat) : Prop where
  hz : IsZip h z TI TO f0
  hTI : h.get? TI = some (t3 (.ref i1) (.ref i2) (.ref i3))
  hTO : ∃ a b c, h.get? TO = some (t3 a b c)
  it1 : h.IsListIter i1 l1 k
  it2 : h.IsListIter i2 l2 k
  it3 : h.IsListIter i3 l3 k
structure L3 (h : Heap) (l1 l2 l3 : Addr) (xs ys zs : Array Value) : Prop where
  p1 : h.IsList l1 xs
  p2 : h.IsList l2 ys
  p3 : h.IsList l3 zs
theorem L3.mono {h h' : Heap} {l1 l2 l3 : Addr} {xs ys zs : Array Value} (L : L3 h l1 l2 l3 xs ys zs) (k : ∀ c o, c = l1 ∨ c = l2 ∨ c = l3 → h.get? c = some o → h'.get? c = some o) : L3 h' l1 l2 l3 xs ys zs :=
  ⟨L.p1.at fun o e => k l1 o (.inl rfl) e, L.p2.at fun o e => k l2 o (.inr (.inl rfl)) e, L.p3.at fun o e => k l3 o (.inr (.inr rfl)) e⟩
theorem upd3 {prog : Program} {w : World} {A : Around} {E : Value → Shared → Prop} {s : Shared} {T : Addr} {a b c x : Value} {k : Nat} {Q : Unit → Shared → Prop} (hT : s.heap.get? T = some (t3 a b c))
    (h : ∀ h', h'.get? T = some { cls := .type "tuple", data := .seq ((#[a, b, c] : Array Value).setIfInBounds k x) } → Heap.SameBut T s.heap h' → Q () { s with heap := h' }) : wpAny (model prog w) A (updateSeq T (·.setIfInBounds k x)) Q E s := by
  refine wpAny_updateSeq hT rfl ?_
  refine h _ ?_ (Heap.SameBut.update ..)
  rw [Heap.get?_update_self _ hT rfl]
  simp [Obj.mapSeq]

section
variable {prog : Program} {w : World} {A : Around} {E : Value → Shared → Prop} {s : Shared} {z TI TO i1 i2 i3 l1 l2 l3 : Addr} {k : Nat} {xs ys zs : Array Value}
theorem zip3_item {x y u : Value} {Q : Value → Shared → Prop} (D : Ap3 z TI TO i1 i2 i3 l1 l2 l3) (S : Z3 s.heap z TI TO i1 i2 i3 l1 l2 l3 .none k) (L : L3 s.heap l1 l2 l3 xs ys zs)
    (hx : xs[k]? = some x) (hy : ys[k]? = some y) (hu : zs[k]? = some u)
    (hQ : ∀ h', Z3 h' z TI TO i1 i2 i3 l1 l2 l3 (rawInt s.heap.objs.size) (k + 1) → h'.get? s.heap.objs.size = some (t3 x y u) → (∀ c o, c ∉ [z, TO, i1, i2, i3] → s.heap.get? c = some o → h'.get? c = some o) →
      Q (.ref s.heap.objs.size) { s with heap := h' }) :
    wpAny (model prog w) A (Builtin.«zip.__next__» ⟨[.ref z], []⟩) (fun fin s' => ∃ v, fin = .done (.ret v) ∧ Q v s') E s := by
  obtain ⟨nd, n1, n2, n3⟩ := D
  simp only [List.nodup_cons, List.mem_cons, List.not_mem_nil, or_false, not_or] at nd n1 n2 n3
  obtain ⟨⟨zI, zO, z1, z2, z3⟩, ⟨IO, I1, I2, I3⟩, ⟨O1, O2, O3⟩, ⟨i12, i13⟩, i23, _⟩ := nd
  obtain ⟨hz, hTI, ⟨a, b, c, hTO⟩, it1, it2, it3⟩ := S
  show wpAny _ _ (field (.ref z) 2 >>= _) _ _ _
  refine wpAny_bind (wpAny_field hz rfl (x := .bool false) rfl ?_)
  show wpAny _ _ (field (.ref z) 3 >>= _) _ _ _
  refine wpAny_bind (wpAny_field hz rfl (x := .ref TI) rfl ?_)
  refine wpAny_bind (wpAny_seqItems hTI rfl ?_)
  show wpAny _ _ (Builtin.SmallTypes.ownedTupleIsFree (.ref z) >>= _) _ _ _
  refine wpAny_bind ?_
  unfold Builtin.SmallTypes.ownedTupleIsFree
  refine wpAny_bind (wpAny_field hz rfl (x := .none) rfl (wpAny_pure ?_))
  simp only [if_true]
  refine wpAny_bind (wpAny_rule ?_)
  refine wpAny_bind (wpAny_field hz rfl (x := .ref TO) rfl ?_)
  refine wpAny_bind (wpAny_setField_rec hz (by simp) fun g1 gz gs1 => ?_)
  have gz : IsZip g1 z TI TO .ellipsis := gz
  refine wpAny_bind ?_
  simp only [List.zipIdx_cons, List.zipIdx_nil, List.forIn_cons, List.forIn_nil]
  -- the first
  refine wpAny_bind (wpAny_bind (wpAny_onRaise ?_))
  show wpAny _ _ (Builtin.SmallTypes.nextOf (.ref i1) >>= _) _ _ _
  refine wpAny_bind (wpAny_nextOf_list_item (it1.extBut gs1.extBut (Ne.symm z1)) (L.p1.extBut gs1.extBut n1.1) hx fun g2 j1 gs2 => wpAny_pure ?_)
  have O2' : g2.get? TO = some (t3 a b c) := gs2.extBut _ _ O1 (gs1.extBut _ _ (Ne.symm zO) hTO)
  refine wpAny_bind (wpAny_seqItems O2' rfl ?_)
  refine wpAny_bind (upd3 O2' fun g3 hO3 gs3 => ?_)
  have O3' : g3.get? TO = some (t3 x b c) := hO3
  refine wpAny_bind (wpAny_letGo (wpAny_pure ?_))
  -- the second
  have e13 : ∀ c o, c ≠ z → c ≠ TO → c ≠ i1 → s.heap.get? c = some o → g3.get? c = some o := fun c o c1 c2 c3 e => gs3.extBut _ _ c2 (gs2.extBut _ _ c3 (gs1.extBut _ _ c1 e))
  refine wpAny_bind (wpAny_bind (wpAny_onRaise ?_))
  show wpAny _ _ (Builtin.SmallTypes.nextOf (.ref i2) >>= _) _ _ _
  refine wpAny_bind (wpAny_nextOf_list_item (it2.at fun o e => e13 _ o (Ne.symm z2) (Ne.symm O2) (Ne.symm i12) e) (L.p2.at fun o e => e13 _ o n2.1 n2.2.1 n2.2.2.1 e) hy fun g4 j2 gs4 => wpAny_pure ?_)
  have O4' : g4.get? TO = some (t3 x b c) := gs4.extBut _ _ O2 O3'
  refine wpAny_bind (wpAny_seqItems O4' rfl ?_)
  refine wpAny_bind (upd3 O4' fun g5 hO5 gs5 => ?_)
  have O5' : g5.get? TO = some (t3 x y c) := hO5
  refine wpAny_bind (wpAny_letGo (wpAny_pure ?_))
  -- the third
  have e35 : ∀ c o, c ≠ TO → c ≠ i2 → g3.get? c = some o → g5.get? c = some o := fun c o c2 c4 e => gs5.extBut _ _ c2 (gs4.extBut _ _ c4 e)
  refine wpAny_bind (wpAny_bind (wpAny_onRaise ?_))
  show wpAny _ _ (Builtin.SmallTypes.nextOf (.ref i3) >>= _) _ _ _
  refine wpAny_bind (wpAny_nextOf_list_item (it3.at fun o e => e35 _ o (Ne.symm O3) (Ne.symm i23) (e13 _ o (Ne.symm z3) (Ne.symm O3) (Ne.symm i13) e))
    (L.p3.at fun o e => e35 _ o n3.2.1 n3.2.2.2.1 (e13 _ o n3.1 n3.2.1 n3.2.2.1 e)) hu fun g6 j3 gs6 => wpAny_pure ?_)
  have O6' : g6.get? TO = some (t3 x y c) := gs6.extBut _ _ O3 O5'
  refine wpAny_bind (wpAny_seqItems O6' rfl ?_)
  refine wpAny_bind (upd3 O6' fun g7 hO7 gs7 => ?_)
  have O7' : g7.get? TO = some (t3 x y u) := hO7
  refine wpAny_bind (wpAny_letGo (wpAny_pure (wpAny_pure ?_)))
  -- the tuple
  have e57 : ∀ c o, c ≠ TO → c ≠ i3 → g5.get? c = some o → g7.get? c = some o := fun c o c2 c5 e => gs7.extBut _ _ c2 (gs6.extBut _ _ c5 e)
  refine wpAny_bind (wpAny_seqItems O7' rfl ?_)
  refine wpAny_bind (wpAny_newTuple ?_)
  have sz : g7.objs.size = s.heap.objs.size := by rw [gs7.1, gs6.1, gs5.1, gs4.1, gs3.1, gs2.1, gs1.1]
  have all : ∀ c o, c ∉ [z, TO, i1, i2, i3] → s.heap.get? c = some o → g7.get? c = some o := fun c o nc e => by
    simp only [List.mem_cons, List.not_mem_nil, or_false, not_or] at nc
    obtain ⟨c1, c2, c3, c4, c5⟩ := nc
    exact e57 c o c2 c5 (e35 c o c2 c4 (e13 c o c1 c2 c3 e))
  have gz7 : IsZip g7 z TI TO .ellipsis := e57 _ _ zO z3 (e35 _ _ zO z2 (gs3.extBut _ _ zO (gs2.extBut _ _ z1 gz)))
  have k1 : g7.IsListIter i1 l1 (k + 1) := j1.at fun o e => e57 _ o (Ne.symm O1) i13 (e35 _ o (Ne.symm O1) i12 (gs3.extBut _ _ (Ne.symm O1) e))
  have k2 : g7.IsListIter i2 l2 (k + 1) := j2.at fun o e => e57 _ o (Ne.symm O2) i23 (gs5.extBut _ _ (Ne.symm O2) e)
  have k3 : g7.IsListIter i3 l3 (k + 1) := j3.at fun o e => gs7.extBut _ _ (Ne.symm O3) e
  have kT : g7.get? TI = some (t3 (.ref i1) (.ref i2) (.ref i3)) := all TI _ (by simp only [List.mem_cons, List.not_mem_nil, or_false, not_or]; exact ⟨Ne.symm zI, IO, I1, I2, I3⟩) hTI
  show wpAny _ _ (Builtin.SmallTypes.ownedTupleHandOut (.ref z) (.ref g7.objs.size) >>= _) _ _ _
  refine wpAny_bind ?_
  unfold Builtin.SmallTypes.ownedTupleHandOut
  have gz8 : IsZip (g7.push (t3 x y u)) z TI TO .ellipsis := Heap.get?_push_of_some _ gz7
  refine wpAny_bind (wpAny_setField_rec gz8 (by simp) fun g9 hz9 gs9 => ?_)
  have gz9 : IsZip g9 z TI TO (rawInt g7.objs.size) := hz9
  refine wpAny_setField_rec gz9 (by simp) fun g10 hz10 gs10 => ?_
  have gz10 : IsZip g10 z TI TO (rawInt g7.objs.size) := hz10
  have up : ∀ c o, c ≠ z → g7.get? c = some o → g10.get? c = some o := fun c o c1 e => gs10.extBut _ _ c1 (gs9.extBut _ _ c1 (Heap.get?_push_of_some _ e))
  have zlt : g7.objs.size ≠ z := Nat.ne_of_gt (Heap.lt_size gz7)
  have hT10 : g10.get? g7.objs.size = some (t3 x y u) := gs10.extBut _ _ zlt (gs9.extBut _ _ zlt (Heap.get?_push_size _ rfl))
  rw [sz] at gz10 hT10
  refine wpAny_pure ⟨_, rfl, ?_⟩
  show Q (.ref g7.objs.size) _
  rw [sz]
  refine hQ g10 ⟨gz10, up _ _ (Ne.symm zI) kT, ⟨_, _, _, up _ _ (Ne.symm zO) O7'⟩, k1.at fun o e => up _ o (Ne.symm z1) e, k2.at fun o e => up _ o (Ne.symm z2) e, k3.at fun o e => up _ o (Ne.symm z3) e⟩ hT10 fun c o nc e => ?_
  refine up c o (fun q => ?_) (all c o nc e)
  simp only [List.mem_cons, List.not_mem_nil, or_false, not_or] at nc
  exact nc.1 q
theorem zip3_end {Q : Fin → Shared → Prop} (hh : A.handled = none) (D : Ap3 z TI TO i1 i2 i3 l1 l2 l3) (S : Z3 s.heap z TI TO i1 i2 i3 l1 l2 l3 .none k) (L : L3 s.heap l1 l2 l3 xs ys zs) (hx : xs[k]? = none)
    (hE : ∀ h' e, (∀ c o, c ∉ [z, TO, i1, i2, i3] → s.heap.get? c = some o → h'.get? c = some o) → (∃ o, h'.get? e = some o ∧ o.cls = .type "StopIteration") → E (.ref e) { s with heap := h' }) :
    wpAny (model prog w) A (Builtin.«zip.__next__» ⟨[.ref z], []⟩) Q E s := by
  obtain ⟨nd, n1, n2, n3⟩ := D
  simp only [List.nodup_cons, List.mem_cons, List.not_mem_nil, or_false, not_or] at nd n1 n2 n3
  obtain ⟨⟨zI, zO, z1, z2, z3⟩, _⟩ := nd
  obtain ⟨hz, hTI, ⟨a, b, c, hTO⟩, it1, it2, it3⟩ := S
  show wpAny _ _ (field (.ref z) 2 >>= _) _ _ _
  refine wpAny_bind (wpAny_field hz rfl (x := .bool false) rfl ?_)
  show wpAny _ _ (field (.ref z) 3 >>= _) _ _ _
  refine wpAny_bind (wpAny_field hz rfl (x := .ref TI) rfl ?_)
  refine wpAny_bind (wpAny_seqItems hTI rfl ?_)
  show wpAny _ _ (Builtin.SmallTypes.ownedTupleIsFree (.ref z) >>= _) _ _ _
  refine wpAny_bind ?_
  unfold Builtin.SmallTypes.ownedTupleIsFree
  refine wpAny_bind (wpAny_field hz rfl (x := .none) rfl (wpAny_pure ?_))
  simp only [if_true]
  refine wpAny_bind (wpAny_rule ?_)
  refine wpAny_bind (wpAny_field hz rfl (x := .ref TO) rfl ?_)
  refine wpAny_bind (wpAny_setField_rec hz (by simp) fun g1 gz gs1 => ?_)
  have gz : IsZip g1 z TI TO .ellipsis := gz
  refine wpAny_bind ?_
  simp only [List.zipIdx_cons, List.zipIdx_nil, List.forIn_cons, List.forIn_nil]
  refine wpAny_bind (wpAny_bind (wpAny_onRaise ?_))
  show wpAny _ _ (Builtin.SmallTypes.nextOf (.ref i1) >>= _) _ _ _
  refine wpAny_bind (wpAny_nextOf_list_end hh (it1.extBut gs1.extBut (Ne.symm z1)) (L.p1.extBut gs1.extBut n1.1) hx fun g2 e gs2 he => ?_)
  obtain ⟨oe, hoe, hce⟩ := he
  have gz2 : IsZip g2 z TI TO .ellipsis := gs2 _ _ z1 gz
  have hez : e ≠ z := fun q => by
    subst q
    rw [gz2] at hoe
    cases hoe
    simp at hce
  refine wpAny_setField_rec gz2 (by simp) fun g3 _ gs3 => ?_
  refine hE g3 e (fun c o nc e' => ?_) ⟨oe, gs3.extBut _ _ hez hoe, hce⟩
  simp only [List.mem_cons, List.not_mem_nil, or_false, not_or] at nc
  exact gs3.extBut _ _ nc.1 (gs2 _ _ nc.2.2.1 (gs1.extBut _ _ nc.1 e'))

theorem args_init4 (a b c d : Value) : argsOk "object.__init__" ⟨[a, b, c, d], []⟩ := by
  unfold argsOk
  rw [signature?_of (id := "object.__init__") (n := ['_', '_', 't', 'i', 'n', 'i', '_', '_']) (o := ['t', 'c', 'e', 'j', 'b', 'o']) (by kernel_rfl) F.owner_object]
  kernel_rfl
abbrev zg1 (h : Heap) (l1 : Addr) : Heap := h.push { cls := .type "list_iterator", data := .fields #[.ref l1, .int 0 0] }
abbrev zg2 (h : Heap) (l1 l2 : Addr) : Heap := (zg1 h l1).push { cls := .type "list_iterator", data := .fields #[.ref l2, .int 0 0] }
abbrev zg3 (h : Heap) (l1 l2 l3 : Addr) : Heap := (zg2 h l1 l2).push { cls := .type "list_iterator", data := .fields #[.ref l3, .int 0 0] }
abbrev zg4 (h : Heap) (l1 l2 l3 : Addr) : Heap := (zg3 h l1 l2 l3).push (t3 (.ref h.objs.size) (.ref (zg1 h l1).objs.size) (.ref (zg2 h l1 l2).objs.size))
abbrev zg5 (h : Heap) (l1 l2 l3 : Addr) : Heap := (zg4 h l1 l2 l3).push (t3 .none .none .none)
abbrev zg6 (h : Heap) (l1 l2 l3 : Addr) : Heap := (zg5 h l1 l2 l3).push { cls := .type "zip", data := .fields #[.none, .bool false, .bool false, .ref (zg3 h l1 l2 l3).objs.size, .ref (zg4 h l1 l2 l3).objs.size] }
set_option maxHeartbeats 4000000 in
theorem zip3_new (l1 l2 l3 : Addr) (xs ys zs : Array Value) : Meets (Builtin.«zip.__new__» ⟨[.type "zip", .ref l1, .ref l2, .ref l3], []⟩) (fun _ R s => L3 s.heap l1 l2 l3 xs ys zs ∧
      R (.ok (.ret (.ref (zg5 s.heap l1 l2 l3).objs.size))) { s with heap := zg6 s.heap l1 l2 l3 }) :=
  .of_wp fun prog w A R s h => by
    obtain ⟨hp, g, d, tk, os⟩ := s
    obtain ⟨⟨q1, q2, q3⟩, h⟩ := h
    have hsub := sub_zip
    have a1 : Heap.IsList (Shared.heap ⟨hp, g, d, tk, os⟩) l1 xs := q1
    have a2 : Heap.IsList (Shared.heap ⟨hp.push { cls := .type "list_iterator", data := .fields #[.ref l1, .int 0 0] }, g, d, tk, os⟩) l2 ys := Heap.IsList.push q2 _
    have a3 : Heap.IsList (Shared.heap ⟨(hp.push { cls := .type "list_iterator", data := .fields #[.ref l1, .int 0 0] }).push { cls := .type "list_iterator", data := .fields #[.ref l2, .int 0 0] }, g, d, tk, os⟩) l3 zs := Heap.IsList.push (Heap.IsList.push q3 _) _
    wp_walk using wpAny_pyIter_list a1, wpAny_pyIter_list a2, wpAny_pyIter_list a3
    exact ⟨_, rfl, h⟩
theorem call_zip3 {Q : Value → Shared → Prop} (L : L3 s.heap l1 l2 l3 xs ys zs)
    (h : ∀ h', Z3 h' (s.heap.objs.size + 5) (s.heap.objs.size + 3) (s.heap.objs.size + 4) s.heap.objs.size (s.heap.objs.size + 1) (s.heap.objs.size + 2) l1 l2 l3 .none 0 → (∀ c o, s.heap.get? c = some o → h'.get? c = some o) →
      Q (.ref (s.heap.objs.size + 5)) { s with heap := h' }) : wpAny (model prog w) A (call (.type "zip") [.ref l1, .ref l2, .ref l3]) Q E s := by
  have tc : checkTypeCall "zip" ⟨[.ref l1, .ref l2, .ref l3], []⟩ = pure () := by kernel_rfl
  have nc : checkBuiltinCall "zip.__new__" ⟨[.type "zip", .ref l1, .ref l2, .ref l3], []⟩ = pure () := by kernel_rfl
  refine callType_new F.called_zip (by decide) tc nc (fun obj => args_init4 obj _ _ _) F.entry_zip_new (zip3_new l1 l2 l3 xs ys zs) ⟨L, ?_⟩
  have z1 : (zg1 s.heap l1).objs.size = s.heap.objs.size + 1 := Heap.size_push ..
  have z2 : (zg2 s.heap l1 l2).objs.size = s.heap.objs.size + 2 := by rw [Heap.size_push, z1]
  have z3 : (zg3 s.heap l1 l2 l3).objs.size = s.heap.objs.size + 3 := by rw [Heap.size_push, z2]
  have z4 : (zg4 s.heap l1 l2 l3).objs.size = s.heap.objs.size + 4 := by rw [Heap.size_push, z3]
  have z5 : (zg5 s.heap l1 l2 l3).objs.size = s.heap.objs.size + 5 := by rw [Heap.size_push, z4]
  have up : ∀ {c o}, (zg3 s.heap l1 l2 l3).get? c = some o → (zg6 s.heap l1 l2 l3).get? c = some o := fun e => Heap.get?_push_of_some _ (Heap.get?_push_of_some _ (Heap.get?_push_of_some _ e))
  have g6 : (zg6 s.heap l1 l2 l3).get? (zg5 s.heap l1 l2 l3).objs.size = some _ := Heap.get?_push_size _ rfl
  have g5 : (zg6 s.heap l1 l2 l3).get? (zg4 s.heap l1 l2 l3).objs.size = some _ := Heap.get?_push_of_some _ (Heap.get?_push_size _ rfl)
  have g4 : (zg6 s.heap l1 l2 l3).get? (zg3 s.heap l1 l2 l3).objs.size = some _ := Heap.get?_push_of_some _ (Heap.get?_push_of_some _ (Heap.get?_push_size _ rfl))
  have g3 : (zg6 s.heap l1 l2 l3).get? (zg2 s.heap l1 l2).objs.size = some _ := up (Heap.get?_push_size _ rfl)
  have g2 : (zg6 s.heap l1 l2 l3).get? (zg1 s.heap l1).objs.size = some _ := up (Heap.get?_push_of_some _ (Heap.get?_push_size _ rfl))
  have g1 : (zg6 s.heap l1 l2 l3).get? s.heap.objs.size = some _ := up (Heap.get?_push_of_some _ (Heap.get?_push_of_some _ (Heap.get?_push_size _ rfl)))
  show _ ∧ _
  rw [z5, z3, z4] at g6
  rw [z4] at g5
  rw [z3, z1, z2] at g4
  rw [z2] at g3
  rw [z1] at g2
  rw [z5]
  exact ⟨⟨_, g6, rfl⟩, h _ ⟨g6, g4, ⟨_, _, _, g5⟩, ⟨_, g1, rfl, rfl⟩, ⟨_, g2, rfl, rfl⟩, ⟨_, g3, rfl, rfl⟩⟩ fun c o e => up (Heap.get?_push_of_some _ (Heap.get?_push_of_some _ (Heap.get?_push_of_some _ e)))⟩
end
end L2

set_option Elab.async false
set_option linter.all false
set_option maxRecDepth 100000
set_option maxHeartbeats 1000000
namespace L2
open PySem PySem.Spec PyProof.Rows

section
variable {prog : Program} {w : World} {A : Around}
theorem walk_zip3 (hh : A.handled = none) (z TI TO i1 i2 i3 l1 l2 l3 : Addr) (D : Ap3 z TI TO i1 i2 i3 l1 l2 l3) (xs ys zs : Array Value) (e1 : ys.size = xs.size) (e2 : zs.size = xs.size) :
    WalksT prog w A z [z, TI, TO, i1, i2, i3, l1, l2, l3] [z, TO, i1, i2, i3] xs.size
      (fun i vals => ∃ x y u, xs[i]? = some x ∧ ys[i]? = some y ∧ zs[i]? = some u ∧ vals = #[x, y, u])
      (fun i h => Z3 h z TI TO i1 i2 i3 l1 l2 l3 .none i ∧ L3 h l1 l2 l3 xs ys zs)
      (fun i T h => Z3 h z TI TO i1 i2 i3 l1 l2 l3 (rawInt T) (i + 1) ∧ L3 h l1 l2 l3 xs ys zs ∧ T ∉ [z, TO, i1, i2, i3]) where
  sub := fun c hc => by
    simp only [List.mem_cons, List.not_mem_nil, or_false] at hc ⊢
    rcases hc with rfl | rfl | rfl | rfl | rfl <;> simp
  frame := fun i h h' st hk => by
    obtain ⟨⟨hz, hTI, ⟨a, b, c, hTO⟩, t1, t2, t3⟩, L⟩ := st
    exact ⟨⟨hk z (by simp) _ hz, hk TI (by simp) _ hTI, ⟨a, b, c, hk TO (by simp) _ hTO⟩, t1.at fun o e => hk i1 (by simp) o e, t2.at fun o e => hk i2 (by simp) o e, t3.at fun o e => hk i3 (by simp) o e⟩,
      L.mono fun c o hc e => hk c (by rcases hc with rfl | rfl | rfl <;> simp) o e⟩
  item := fun i s Q E hi st hQ => by
    obtain ⟨S, L⟩ := st
    have hT : s.TypeIs (.ref z) "zip" := ⟨_, S.hz, rfl⟩
    unfold pyNext
    refine wpAny_bind (wpAny_attempt (wpAny_callSpecial?_slot (name := Str.ofString "__next__") hT F.slot_zip_next ?_))
    refine wpAny_call_entry F.slot_zip_next hT F.entry_zip_next ?_ (F.args_zip_next_1 _)
    refine zip3_item D S L (Array.getElem?_eq_getElem hi) (Array.getElem?_eq_getElem (by omega : i < ys.size)) (Array.getElem?_eq_getElem (by omega : i < zs.size)) fun h' S' hTup hk => wpAny_pure ?_
    refine hQ s.heap.objs.size #[xs[i], ys[i], zs[i]] h' s.toks ⟨_, _, _, Array.getElem?_eq_getElem hi, Array.getElem?_eq_getElem _, Array.getElem?_eq_getElem _, rfl⟩ (Nat.le_refl _) ⟨_, hTup, rfl, _, rfl⟩
      ⟨S', L.mono fun c o hc e => hk c o (by rcases hc with rfl | rfl | rfl; exact D.n1; exact D.n2; exact D.n3) e, fun hm => ?_⟩ fun c o hc e => hk c o hc e
    have lt : ∀ {c o}, s.heap.get? c = some o → s.heap.objs.size ≠ c := fun e => Nat.ne_of_gt (Heap.lt_size e)
    obtain ⟨hz, hTI, ⟨a, b, c, hTO⟩, ⟨_, q1, _⟩, ⟨_, q2, _⟩, ⟨_, q3, _⟩⟩ := S
    simp only [List.mem_cons, List.not_mem_nil, or_false] at hm
    rcases hm with q | q | q | q | q
    · exact lt hz q
    · exact lt hTO q
    · exact lt q1 q
    · exact lt q2 q
    · exact lt q3 q
  go := fun elts k pos i T s Q E hm hQ => by
    obtain ⟨⟨hz, hTI, ⟨a, b, c, hTO⟩, t1, t2, t3⟩, L, _⟩ := hm
    have nd := D.nd
    have n1 := D.n1
    have n2 := D.n2
    have n3 := D.n3
    simp only [List.nodup_cons, List.mem_cons, List.not_mem_nil, or_false, not_or] at nd n1 n2 n3
    obtain ⟨⟨zI, zO, z1, z2, z3⟩, _⟩ := nd
    refine wpAny_letOwnedTupleGo_zip hz fun h' hz' hs' => hQ h' ⟨⟨hz', hs'.extBut _ _ (Ne.symm zI) hTI, ⟨a, b, c, hs'.extBut _ _ (Ne.symm zO) hTO⟩, t1.extBut hs'.extBut (Ne.symm z1), t2.extBut hs'.extBut (Ne.symm z2), t3.extBut hs'.extBut (Ne.symm z3)⟩,
      L.mono fun c o hc e => hs'.extBut _ _ (by rcases hc with rfl | rfl | rfl; exact n1.1; exact n2.1; exact n3.1) e⟩ fun c o hc e => hs'.extBut _ _ (fun q => hc (by simp [q])) e
  apart := fun i T h hm => hm.2.2
  done := fun s Q E st hQ => by
    obtain ⟨S, L⟩ := st
    have hT : s.TypeIs (.ref z) "zip" := ⟨_, S.hz, rfl⟩
    unfold pyNext
    refine wpAny_bind (wpAny_attempt (wpAny_callSpecial?_slot (name := Str.ofString "__next__") hT F.slot_zip_next ?_))
    refine wpAny_call_entry F.slot_zip_next hT F.entry_zip_next ?_ (F.args_zip_next_1 _)
    refine zip3_end hh D S L (Array.getElem?_eq_none (Nat.le_refl _)) fun h' e hk he => ?_
    obtain ⟨o, ho, hc⟩ := he
    refine wpAny_bind (wpAny_isInstance (T := "StopIteration") (b := true) ⟨o, ho, hc⟩ isSubtype_stop ?_)
    exact wpAny_pure (hQ h' s.toks hk)
  self := fun i s Q E st hQ => wpAny_pyIter_zip st.1.hz hQ
end

/-- three lists of one length side by side: a new tuple each turn -/
def Itz3 (K : PySem.W.Frag) (l1 l2 l3 : Addr) : It :=
  ⟨fun i H => ∃ xs ys zs, SqL K H l1 xs ∧ SqL K H l2 ys ∧ SqL K H l3 zs ∧ ys.length = xs.length ∧ zs.length = xs.length ∧ i < xs.length,
   fun i H v H' => ∃ T x y u, v = .ref T ∧ H T = none ∧ H' = upd H T (.tup [x, y, u]) ∧ ∀ xs ys zs, SqL K H l1 xs → SqL K H l2 ys → SqL K H l3 zs → xs[i]? = some x ∧ ys[i]? = some y ∧ zs[i]? = some u,
   fun i H => ∃ xs ys zs, SqL K H l1 xs ∧ SqL K H l2 ys ∧ SqL K H l3 zs ∧ ys.length = xs.length ∧ zs.length = xs.length ∧ xs.length = i⟩
theorem turn_zip3 {P : Program} {w : World} {K : PySem.W.Frag} {es : List Expr} {kt : Nat} {pt : Pos} (z TI TO i1 i2 i3 l1 l2 l3 : Addr) (D : Ap3 z TI TO i1 i2 i3 l1 l2 l3) :
    Turn P w K (.Tuple es kt pt) (Itz3 K l1 l2 l3) [z, TI, TO, i1, i2, i3] z (fun i h => Z3 h z TI TO i1 i2 i3 l1 l2 l3 .none i) where
  mem := by simp
  obj := fun i h st b hb => by
    obtain ⟨hz, hTI, ⟨a, b', c', hTO⟩, ⟨o1, e1, c1, d1⟩, ⟨o2, e2, c2, d2⟩, ⟨o3, e3, c3, d3⟩⟩ := st
    have hb' : b = z ∨ b = TI ∨ b = TO ∨ b = i1 ∨ b = i2 ∨ b = i3 := by simpa using hb
    rcases hb' with rfl | rfl | rfl | rfl | rfl | rfl
    · exact ⟨_, hz, fun v q => by cases (show Data.fields _ = Data.cell v from q)⟩
    · exact ⟨_, hTI, fun v q => by cases (show Data.seq _ _ = Data.cell v from q)⟩
    · exact ⟨_, hTO, fun v q => by cases (show Data.seq _ _ = Data.cell v from q)⟩
    · exact ⟨o1, e1, fun v q => by rw [d1] at q; cases q⟩
    · exact ⟨o2, e2, fun v q => by rw [d2] at q; cases q⟩
    · exact ⟨o3, e3, fun v q => by rw [d3] at q; cases q⟩
  keep := fun i h h' st k => by
    obtain ⟨hz, hTI, ⟨a, b, c, hTO⟩, h1, h2, h3⟩ := st
    exact ⟨k z (by simp) _ hz, k TI (by simp) _ hTI, ⟨a, b, c, k TO (by simp) _ hTO⟩, h1.at fun o e => k i1 (by simp) o e, h2.at fun o e => k i2 (by simp) o e, h3.at fun o e => k i3 (by simp) o e⟩
  item := by
    intro X hP hw hK hc i pins s σ H E I hf st hg
    subst hP hw hK
    obtain ⟨xs, ys, zs, q1, q2, q3, len2, len3, hx⟩ := hg
    obtain ⟨its1, r1, p1, z1⟩ := I.list q1
    obtain ⟨its2, r2, p2, z2⟩ := I.list q2
    obtain ⟨its3, r3, p3, z3⟩ := I.list q3
    have L1 := r1.length
    have L2 := r2.length
    have L3' := r3.length
    have W := walk_zip3 (prog := X.prog) (w := X.w) (I.ok.hd hc) z TI TO i1 i2 i3 l1 l2 l3 D its1.toArray its2.toArray its3.toArray (by simp only [List.size_toArray]; omega) (by simp only [List.size_toArray]; omega)
    refine W.item i s _ _ (by simp only [List.size_toArray]; omega) ⟨st, ⟨p1.isList, p2.isList, p3.isList⟩⟩ fun T vals h' tk hv hT hTup mid kk => ?_
    refine ⟨.ref T, rfl, W.go es kt pt i T _ _ _ mid fun h'' st' kk' => ?_⟩
    obtain ⟨u1, u2, u3, g1, g2, g3, rfl⟩ := hv
    have ex : xs[i]? = some xs[i] := by simp [hx]
    have hy : i < ys.length := by omega
    have hu : i < zs.length := by omega
    have ey : ys[i]? = some ys[i] := by simp [hy]
    have eu : zs[i]? = some zs[i] := by simp [hu]
    obtain ⟨w1, e1, rx⟩ := r1.get ex
    obtain ⟨w2, e2, ry⟩ := r2.get ey
    obtain ⟨w3, e3, ru⟩ := r3.get eu
    have ew1 : u1 = w1 := by
      have : its1[i]? = some u1 := by simpa using g1
      rw [this] at e1; exact Option.some.inj e1
    have ew2 : u2 = w2 := by
      have : its2[i]? = some u2 := by simpa using g2
      rw [this] at e2; exact Option.some.inj e2
    have ew3 : u3 = w3 := by
      have : its3[i]? = some u3 := by simpa using g3
      rw [this] at e3; exact Option.some.inj e3
    subst ew1 ew2 ew3
    have nT : H T = none := I.hok.fresh hT
    have tw : T ∉ [z, TO, i1, i2, i3] := W.apart i T _ mid
    have keep : ∀ b o, b ∉ [z, TI, TO, i1, i2, i3] → s.heap.get? b = some o → h''.get? b = some o := fun b o hb e => by
      have hb' : b ∉ [z, TO, i1, i2, i3] := fun hm => hb (by
        have : b = z ∨ b = TO ∨ b = i1 ∨ b = i2 ∨ b = i3 := by simpa using hm
        rcases this with rfl | rfl | rfl | rfl | rfl <;> simp)
      exact kk' b o hb' (kk b o hb' e)
    have neT : ∀ b o, s.heap.get? b = some o → b ≠ T := fun b o e => Nat.ne_of_lt (Nat.lt_of_lt_of_le (Heap.lt_size e) hT)
    have nin : ∀ b u, H b = some u → b ∉ [z, TI, TO, i1, i2, i3] := fun b u e hm => by
      rw [(hf b hm).1] at e; cases e
    have tupT : IsTup h'' T #[u1, u2, u3] := by
      obtain ⟨o, e, c, n, d⟩ := hTup
      exact ⟨o, kk' T o tw e, c, n, d⟩
    have hok : HOk X.prog X.w (upd H T (.tup [xs[i], ys[i], zs[i]])) h'' := fun b u e => by
      by_cases hb : b = T
      · subst hb
        rw [upd_same] at e
        cases e
        exact ⟨by show 3 ≤ sizeLine; decide, [u1, u2, u3], .cons rx (.cons ry (.cons ru .nil)), tupT⟩
      · rw [upd_ne hb] at e
        refine (I.hok b u e).stay (fun c v hcc q => keep c v ?_ q) (fun c q => by rw [upd_ne (ne_of_none q nT)]; exact q) fun c ws q => by rw [upd_ne (ne_of_none q nT)]; exact q
        rcases hcc with rfl | hcc
        · exact nin _ _ e
        · exact nin _ _ hcc
    have I2 : Inv X pins σ (upd H T (.tup [xs[i], ys[i], zs[i]])) { s with heap := h'', toks := tk } := by
      refine I.step (g' := s.gens) (d' := s.drawn) (ch := [z, TI, TO, i1, i2, i3]) (fun b hb => ?_) (fun b o _ _ hb e _ => keep b o hb e) (fun b o _ _ hb e _ => ⟨o.slots, keep b o hb e⟩) (fun b o _ e n => by rw [upd_ne (neT b o e)]; exact n)
        (fun b o hb e => ⟨o, keep b o hb e⟩) (fun b ws e => by rw [upd_ne (ne_of_none e nT)]; exact e) (fun b o u e => by rw [upd_ne (ne_of_none e nT)]; exact e) (fun b ps e => ⟨#[], by rw [upd_ne (ne_of_none e nT), e]; simp⟩) (fun m hm => ?_) hok I.bare
      · obtain ⟨f0, f1, f2, f3, f4, f5⟩ := hf b hb
        exact ⟨f3, f1, f4, f5⟩
      · obtain ⟨o, es', ep, ho, r⟩ := hm
        exact ⟨o, es', ep, keep _ o (fun hm => (hf _ hm).2.1 rfl) ho, r⟩
    refine ⟨.ref T, _, I2, rfl, ⟨T, xs[i], ys[i], zs[i], rfl, nT, rfl, fun xs' ys' zs' q1' q2' q3' => ⟨by rw [I.list_inj q1' q1]; exact ex, by rw [I.list_inj q2' q2]; exact ey, by rw [I.list_inj q3' q3]; exact eu⟩⟩, st'.1, fun b hb => ?_⟩
    obtain ⟨o, e⟩ : ∃ o, s.heap.get? b = some o := by
      obtain ⟨hz, hTI, ⟨a, b', c', hTO⟩, ⟨_, q1, _⟩, ⟨_, q2, _⟩, ⟨_, q3, _⟩⟩ := st
      have hb' : b = z ∨ b = TI ∨ b = TO ∨ b = i1 ∨ b = i2 ∨ b = i3 := by simpa using hb
      rcases hb' with rfl | rfl | rfl | rfl | rfl | rfl
      · exact ⟨_, hz⟩
      · exact ⟨_, hTI⟩
      · exact ⟨_, hTO⟩
      · exact ⟨_, q1⟩
      · exact ⟨_, q2⟩
      · exact ⟨_, q3⟩
    rw [upd_ne (neT b o e)]
    exact (hf b hb).1
  done := by
    intro X hP hw hK hc i pins s σ H E I hf st hg
    subst hP hw hK
    obtain ⟨xs, ys, zs, q1, q2, q3, len2, len3, en⟩ := hg
    obtain ⟨its1, r1, p1, z1⟩ := I.list q1
    obtain ⟨its2, r2, p2, z2⟩ := I.list q2
    obtain ⟨its3, r3, p3, z3⟩ := I.list q3
    have L1 := r1.length
    have L2 := r2.length
    have L3' := r3.length
    have W := walk_zip3 (prog := X.prog) (w := X.w) (I.ok.hd hc) z TI TO i1 i2 i3 l1 l2 l3 D its1.toArray its2.toArray its3.toArray (by simp only [List.size_toArray]; omega) (by simp only [List.size_toArray]; omega)
    have en' : its1.toArray.size = i := by simp only [List.size_toArray]; omega
    refine W.done s _ _ (by rw [en']; exact ⟨st, ⟨p1.isList, p2.isList, p3.isList⟩⟩) fun h' tk kk => ⟨rfl, ?_⟩
    have keep : ∀ b o, b ∉ [z, TI, TO, i1, i2, i3] → s.heap.get? b = some o → h'.get? b = some o := fun b o hb e => by
      refine kk b o (fun hm => hb ?_) e
      have : b = z ∨ b = TO ∨ b = i1 ∨ b = i2 ∨ b = i3 := by simpa using hm
      rcases this with rfl | rfl | rfl | rfl | rfl <;> simp
    have nin : ∀ b u, H b = some u → b ∉ [z, TI, TO, i1, i2, i3] := fun b u e hm => by
      rw [(hf b hm).1] at e; cases e
    refine I.step (g' := s.gens) (d' := s.drawn) (ch := [z, TI, TO, i1, i2, i3]) (fun b hb => ?_) (fun b o _ _ hb e _ => keep b o hb e) (fun b o _ _ hb e _ => ⟨o.slots, keep b o hb e⟩) (fun b o _ e n => n)
      (fun b o hb e => ⟨o, keep b o hb e⟩) (fun b ws e => e) (fun b o u e => e) (fun b ps e => ⟨#[], by rw [e]; simp⟩) (fun m hm => ?_) (fun b u e => ?_) I.bare
    · obtain ⟨f0, f1, f2, f3, f4, f5⟩ := hf b hb
      exact ⟨f3, f1, f4, f5⟩
    · obtain ⟨o, es', ep, ho, r⟩ := hm
      exact ⟨o, es', ep, keep _ o (fun hm => (hf _ hm).2.1 rfl) ho, r⟩
    · refine (I.hok b u e).stay (fun c v hcc q => keep c v ?_ q) (fun _ q => q) fun _ _ q => q
      rcases hcc with rfl | hcc
      · exact nin _ _ e
      · exact nin _ _ hcc
  self := fun _ _ _ _ _ st h => wpAny_pyIter_zip st.hz h
theorem vals3 : ∀ {x y z : V} {us : List Value}, Vals [x, y, z] us → ∃ u v w, us = [u, v, w] ∧ RelV x u ∧ RelV y v ∧ RelV z w
  | _, _, _, _, .cons a (.cons b (.cons c .nil)) => ⟨_, _, _, rfl, a, b, c⟩
theorem ap3_out (n l : Nat) (h : l < n) : (l : Addr) ∉ ([n + 5, n + 4, n, n + 1, n + 2] : List Addr) := fun hm => by
  simp only [List.mem_cons, List.not_mem_nil, or_false] at hm
  have hm : @Eq Nat l (n + 5) ∨ @Eq Nat l (n + 4) ∨ @Eq Nat l n ∨ @Eq Nat l (n + 1) ∨ @Eq Nat l (n + 2) := hm
  omega
theorem ap3_new (n l1 l2 l3 : Nat) (h1 : l1 < n) (h2 : l2 < n) (h3 : l3 < n) : Ap3 (n + 5) (n + 3) (n + 4) n (n + 1) (n + 2) l1 l2 l3 :=
  ⟨(show List.Nodup ([n + 5, n + 3, n + 4, n, n + 1, n + 2] : List Nat) by simp), ap3_out n l1 h1, ap3_out n l2 h2, ap3_out n l3 h3⟩
section
variable {X : Cx}
def iZip3 (K : PySem.W.Frag) (ta : TA) : TI := fun σ H R => ta σ H fun vs H1 => ∃ l1 l2 l3, vs = [.ref l1, .ref l2, .ref l3] ∧ (∃ xs, SqL K H1 l1 xs) ∧ (∃ ys, SqL K H1 l2 ys) ∧ (∃ zs, SqL K H1 l3 zs) ∧ R (Itz3 K l1 l2 l3) H1
theorem pi_zip3 {a b c : Expr} {ta : TA} {p pos : Pos} {es : List Expr} {kt : Nat} {pt : Pos} (hg : Gl X "zip") (hm : X.mg "zip" = none) (ha : PA X [a, b, c] ta) (hs : starEach [a, b, c] X.env = [(false, eval a X.env), (false, eval b X.env), (false, eval c X.env)] := by rfl)
    (hs2 : starEach [b, c] X.env = [(false, eval b X.env), (false, eval c X.env)] := by rfl) : PI X (.Tuple es kt pt) (.Call (.Name "zip" p) [a, b, c] [] pos) (iZip3 X.K ta) := by
  intro pins s σ H R I h
  refine Call_ (ld_blt I hg hm boot_zip (PyProof.Rows.callWith_type1 (thn (ha pos pins s σ H _ I h) fun us s1 ⟨vs, H1, I1, r1, q1⟩ => ?_) (by rw [hs, hs2]) (by rw [hs2]; rfl)))
  obtain ⟨l1, l2, l3, e, ⟨xs, q1⟩, ⟨ys, q2⟩, ⟨zs, q3⟩, q⟩ := q1
  subst e
  obtain ⟨u1, u2, u3, rfl, e1, e2, e3⟩ := vals3 r1
  cases e1
  cases e2
  cases e3
  obtain ⟨its1, r1, p1, z1⟩ := I1.list q1
  obtain ⟨its2, r2, p2, z2⟩ := I1.list q2
  obtain ⟨its3, r3, p3, z3⟩ := I1.list q3
  have lt1 : l1 < s1.heap.objs.size := by obtain ⟨o, n, e, _⟩ := p1; exact Heap.lt_size e
  have lt2 : l2 < s1.heap.objs.size := by obtain ⟨o, n, e, _⟩ := p2; exact Heap.lt_size e
  have lt3 : l3 < s1.heap.objs.size := by obtain ⟨o, n, e, _⟩ := p3; exact Heap.lt_size e
  have ap : Ap3 (s1.heap.objs.size + 5) (s1.heap.objs.size + 3) (s1.heap.objs.size + 4) s1.heap.objs.size (s1.heap.objs.size + 1) (s1.heap.objs.size + 2) l1 l2 l3 := by
    exact ap3_new _ _ _ _ lt1 lt2 lt3
  refine call_zip3 ⟨p1.isList, p2.isList, p3.isList⟩ fun h' S hk => ?_
  refine wpAny_pyIter_zip S.hz ?_
  refine ⟨s1.heap.objs.size + 5, [s1.heap.objs.size + 5, s1.heap.objs.size + 3, s1.heap.objs.size + 4, s1.heap.objs.size, s1.heap.objs.size + 1, s1.heap.objs.size + 2], _, _, H1, rfl, I1.kept (t' := s1.toks) hk, turn_zip3 _ _ _ _ _ _ _ _ _ ap, S, fun b hb => ?_, q⟩
  have hge : s1.heap.objs.size ≤ b := by
    simp only [List.mem_cons, List.not_mem_nil, or_false] at hb
    rcases hb with rfl | rfl | rfl | rfl | rfl | rfl
    · exact Nat.le_add_right _ _
    · exact Nat.le_add_right _ _
    · exact Nat.le_add_right _ _
    · exact Nat.le_refl _
    · exact Nat.le_add_right _ _
    · exact Nat.le_add_right _ _
  exact I1.fpOk hge (I1.hok.fresh hge)
theorem r_zip3 {K : PySem.W.Frag} {tA : TA} {σ : St} {H : Hp} {q' : It → Hp → Prop} (q : tA σ H fun vs H1 => ∃ l1 l2 l3, vs = [.ref l1, .ref l2, .ref l3] ∧ (∃ xs, SqL K H1 l1 xs) ∧ (∃ ys, SqL K H1 l2 ys) ∧ (∃ zs, SqL K H1 l3 zs) ∧ q' (Itz3 K l1 l2 l3) H1) : iZip3 K tA σ H q' := q
theorem set012 {σ0 : St} {x y z : Option V} : (((σ0.set 0 x).set 1 y).set 2 z).length = σ0.length ∧ ∀ j, 3 ≤ j → (((σ0.set 0 x).set 1 y).set 2 z)[j]? = σ0[j]? :=
  ⟨by rw [List.length_set, List.length_set, List.length_set], fun j hj => by rw [List.getElem?_set_ne (by omega), List.getElem?_set_ne (by omega), List.getElem?_set_ne (by omega)]⟩
/-- [x for x, y, z in zip(xs, ys, zs) if p] -/
theorem compZ3 {K : PySem.W.Frag} {tt : TT} {te : TE} {σ0 : St} {D : Addr} {H1 : Hp} {Q : Hp → Prop} {l1 l2 l3 : Addr} {xs ys zs : List V} (p : Nat → Bool) (f : Nat → V) (hD : H1 D = none) (h1 : SqL K H1 l1 xs) (h2 : SqL K H1 l2 ys) (h3 : SqL K H1 l3 zs)
    (e2 : ys.length = xs.length) (e3 : zs.length = xs.length) (hn : xs.length ≤ 1000)
    (ht : ∀ i x y z H' (q : Bool → Hp → Prop), xs[i]? = some x → ys[i]? = some y → zs[i]? = some z → Same H1 H' → (∀ H'', Same H' H'' → q (p i) H'') → tt (((σ0.set 0 (some x)).set 1 (some y)).set 2 (some z)) H' q)
    (he : ∀ i x y z H' q, xs[i]? = some x → ys[i]? = some y → zs[i]? = some z → p i = true → Same H1 H' → (∀ H'', Same H' H'' → q (f i) H'') → te (((σ0.set 0 (some x)).set 1 (some y)).set 2 (some z)) H' q)
    (hq : ∀ H', Same H1 H' → H' D = some (.lst (((List.range xs.length).filter p).map f)) → Q H') : CompBody (Itz3 K l1 l2 l3) (gTup K 3 (gCons (gName 0) (gCons (gName 1) (gCons (gName 2) gNil)))) tt te 3 σ0 D H1 Q := by
  refine ⟨fun i m ws H => m = xs.length - i ∧ i ≤ xs.length ∧ Same H1 H ∧ H D = some (.lst ws) ∧ ws = ((List.range i).filter p).map f, ⟨xs.length, by simp, Nat.zero_le _, Same.new hD, upd_same, rfl⟩, ?_⟩
  rintro i m ws H ⟨rfl, hi, sm, hd, rfl⟩
  have q1 := sm.seq h1
  have q2 := sm.seq h2
  have q3 := sm.seq h3
  by_cases hlt : i < xs.length
  · refine .inr ⟨⟨xs, ys, zs, q1, q2, q3, e2, e3, hlt⟩, fun ws' H' => Same H1 H' ∧ H' D = some (.lst ws') ∧ ws' = ((List.range (i + 1)).filter p).map f, fun ws' H' p' => ⟨xs.length - (i + 1), by omega, rfl, hlt, p'⟩, fun v H' y => ?_⟩
    obtain ⟨T, x, y, u, e1', e2', e3', e4⟩ := y
    subst e1' e3'
    obtain ⟨g1, g2, g3⟩ := e4 xs ys zs q1 q2 q3
    refine r_gtup (xs := [x, y, u]) (SqT.of upd_same) rfl (r_gcons (r_name (r_gcons (r_name (r_gcons (r_name (r_gnil ⟨set012, ?_⟩)))))))
    refine ht i x y u _ _ g1 g2 g3 (sm.trans (Same.new e2')) fun H3 s3 => ?_
    have smT := sm.trans ((Same.new e2').trans s3)
    cases hp : p i with
    | true =>
      refine iteT (he i x y u _ _ g1 g2 g3 hp smT fun H4 s4 => ?_)
      refine ⟨s4 _ _ (s3 _ _ (Same.new e2' _ _ hd)), small1000 ?_, Same.setp hD (smT.trans s4), upd_same, ?_⟩
      · rw [List.length_map]
        have := List.length_filter_le p (List.range i)
        rw [List.length_range] at this
        omega
      · rw [List.range_succ, List.filter_append, List.map_append]
        simp [hp]
    | false =>
      refine iteF ⟨smT, s3 _ _ (Same.new e2' _ _ hd), ?_⟩
      rw [List.range_succ, List.filter_append, List.map_append]
      simp [hp]
  · have e : i = xs.length := by omega
    subst e
    exact .inl ⟨⟨xs, ys, zs, q1, q2, q3, e2, e3, rfl⟩, hq H sm hd⟩
end
end L2

set_option Elab.async false
set_option linter.all false
set_option maxRecDepth 100000
namespace L2
open PySem PySem.Spec PyProof.Rows

/-! ### texts -/
section
variable {X : Cx}
end
section
variable {prog : Program} {w : World} {A : Around} {E : Value → Shared → Prop} {s : Shared} {a : Addr}
end
section
variable {X : Cx}
end
end L2

set_option Elab.async false
set_option linter.all false
set_option maxRecDepth 100000
namespace L2
open PySem PySem.Spec PyProof.Rows

section
variable {X : Cx}
/-- any(xs), a list of truth values -/
def rAny (K : PySem.W.Frag) : List V → Hp → VK → Prop := fun xs H Q => ∃ (p : Addr) (bs : List Bool), xs = [.ref p] ∧ SqL K H p (bs.map V.bl) ∧ Q (.bl (bs.any id)) H
theorem bools_at : ∀ {bs : List Bool} {its : List Value}, Vals (bs.map V.bl) its → its = bs.map Value.bool
  | [], _, .nil => rfl
  | b :: bs, _, .cons e r => by
    have e : _ = Value.bool b := e
    rw [e, bools_at (bs := bs) r]
    rfl
theorem any_range (bs : List Bool) : (List.range bs.length).any (fun i => bs.getD i false) = bs.any id := by
  induction bs with
  | nil => rfl
  | cons b bs ih =>
    rw [List.length_cons, List.range_succ_eq_map, List.any_cons, List.any_cons, List.any_map]
    simp only [List.getD_cons_zero, id]
    congr 1
theorem call_any (hc : X.calm = true) : CallR X (.builtin "any") (rAny X.K) := by
  intro pins s σ H xs us Q I r h
  obtain ⟨p, bs, rfl, hq, q⟩ := h
  obtain ⟨u, rfl, rx⟩ := Vals.one r
  cases rx
  obtain ⟨its, r', pl, hz⟩ := I.list hq
  have e := bools_at r'
  subst e
  have ne : p ≠ s.heap.objs.size := by
    obtain ⟨o, n, e, _⟩ := pl
    exact Nat.ne_of_lt (Heap.lt_size e)
  refine call_any_walk (wpAny_pyIter_list pl.isList ?_)
  refine ⟨s.heap.objs.size, _, _, _, _, _, fun i => bs.getD i false, rfl, Walks.list (prog := X.prog) (w := X.w) (A := X.A.in1) (show X.A.in1.handled = none from I.ok.hd hc) s.heap.objs.size p ne (bs.map Value.bool).toArray, ⟨⟨_, Heap.get?_push_size _ rfl, rfl, rfl⟩, pl.isList.push _⟩, ?_, fun h' tk hk => ?_⟩
  · intro i v s' Q' E' hP hQ
    have hP : (bs.map Value.bool)[i]? = some v := by simpa using hP
    rw [List.getElem?_map] at hP
    cases e : bs[i]? with
    | none => rw [e] at hP; cases hP
    | some b =>
      rw [e] at hP
      cases hP
      have eb : bs.getD i false = b := by simp [List.getD, e]
      have hQ : Q' (bs.getD i false) s' := hQ
      rw [eb] at hQ
      exact wpAny_pure hQ
  · have ea : (List.range (bs.map Value.bool).toArray.size).any (fun i => bs.getD i false) = bs.any id := by
      rw [List.size_toArray, List.length_map]
      exact any_range bs
    rw [ea]
    refine ⟨.bl (bs.any id), H, I.kept (fun b o e => hk b o ?_ (Heap.get?_push_of_some _ e)), rfl, q⟩
    intro hm
    have : b = s.heap.objs.size := by simpa using hm
    exact absurd (Heap.lt_size e) (by rw [this]; exact Nat.lt_irrefl _)
/-- an expression that is not reached -/
theorem pe_never {e : Expr} : PE X e (fun _ _ _ => False) := fun _ _ _ _ _ _ h => h.elim
end
section
variable {K : PySem.W.Frag} {H : Hp} {Q : VK}
theorem r_any {p : Addr} {bs : List Bool} (h : SqL K H p (bs.map V.bl)) (q : Q (.bl (bs.any id)) H) : rAny K [.ref p] H Q := ⟨p, bs, rfl, h, q⟩
theorem r_callX {sp : Sp} {tA : TA} {σ : St} {dvs : List V} {E : XK} (q : tA σ H fun vs H1 => sp (vs ++ dvs) H1 Q E) : tCall sp dvs E tA σ H Q := q
theorem r_meth {C : Addr} {m : Str} {sp : Sp} {dvs : List V} {E : XK} {ta : TE} {tA : TA} {σ : St} (q : ta σ H fun x H1 => ∃ a dx fs, x = .ref a ∧ H1 a = some (.ins C dx fs) ∧ fs.lookup m = none ∧ tA σ H1 fun vs H2 => sp (x :: (vs ++ dvs)) H2 Q E) :
    tMeth C m sp dvs E ta tA σ H Q := q
theorem r_methA {C : Addr} {m : Str} {a dx : Addr} {fs : List (Str × V)} {q' : Prop} (h : H a = some (.ins C dx fs)) (l : fs.lookup m = none) (q : q') : ∃ a' dx fs, V.ref a = .ref a' ∧ H a' = some (.ins C dx fs) ∧ fs.lookup m = none ∧ q' := ⟨a, dx, fs, rfl, h, l, q⟩
theorem r_fld {ta : TE} {f : Str} {σ : St} (q : ta σ H fun x H1 => ∃ a C dx fs v, x = .ref a ∧ H1 a = some (.ins C dx fs) ∧ Cls K C ∧ NoAttr K C f ∧ fs.lookup f = some v ∧ Q v H1) : tFld K ta f σ H Q := q
end
open PySem.W in
theorem cls_some {K : Frag} {D : Addr} (h : hasDictIn K D = true) : (clsIn K D).isSome = true := by
  obtain ⟨cd, hc, _⟩ := any_some h
  rw [hc]
  rfl
open PySem.W in
theorem kit_cls_of {K : Frag} {C D : Addr} {b : Bool} (h1 : hasDictIn K D = true) (h2 : typeIn K (.ref D) = some (.type "type")) (h3 : subIn K (.ref C) (.ref D) = some b) : kitCls K (.ref C) (.ref D) = some b := by
  unfold kitCls
  dsimp only
  rw [cls_some h1, h2, if_pos (by decide +kernel), h3]
open PySem.W in
theorem kit_ff {K : Frag} {C D : Addr} {b : Bool} (h1 : hasDictIn K D = true) (h2 : typeIn K (.ref D) = some (.type "type")) (h3 : subIn K (.ref C) (.ref D) = some b) (h4 : (Value.ref C == Value.ref D) = false) : kitOne K (.ref C) (.ref D) = some b := by
  unfold kitOne
  rw [h4, if_neg Bool.false_ne_true]
  exact kit_cls_of h1 h2 h3
open PySem.W in
theorem exm_tt {K : Frag} {C D : Addr} (h1 : hasDictIn K D = true) (h2 : typeIn K (.ref D) = some (.type "type")) (h3 : subIn K (.ref C) (.ref D) = some true) (h4 : subIn K (.ref D) (.type "BaseException") = some true) : exmOne K (.ref C) (.ref D) = some true := by
  unfold exmOne
  rw [h4, if_pos (by decide +kernel)]
  exact kit_cls_of h1 h2 h3
theorem list1 {us : List Value} (h : us.length = 1) : ∃ a, us = [a] := match us, h with | [a], _ => ⟨a, rfl⟩
theorem list2 {us : List Value} (h : us.length = 2) : ∃ a b, us = [a, b] := match us, h with | [a, b], _ => ⟨a, b, rfl⟩
theorem list3 {us : List Value} (h : us.length = 3) : ∃ a b c, us = [a, b, c] := match us, h with | [a, b, c], _ => ⟨a, b, c, rfl⟩
theorem list6 {us : List Value} (h : us.length = 6) : ∃ a b c d e f, us = [a, b, c, d, e, f] := match us, h with | [a, b, c, d, e, f], _ => ⟨a, b, c, d, e, f, rfl⟩
theorem cb_tuple {X : Cx} : CallR X (.type "tuple") (fun xs H Q => ∃ p ys, xs = [.ref p] ∧ SqL X.K H p ys ∧ ∀ l, H l = none → Q (.ref l) (upd H l (.tup ys))) := fun pins s σ H xs us Q I r h => by
  obtain ⟨p, ys, e, hq, q⟩ := h
  exact call_tuple_of pins s σ H xs us Q I r ⟨p, ys, e, .inl ⟨hq, q⟩⟩
end L2

set_option Elab.async false
set_option linter.all false
set_option maxRecDepth 100000
/-! len(set(xs)) of a list of ints -/
namespace L2
open PySem PySem.Spec PyProof.Rows
/-- how many numbers of a list are unlike -/
def setN (ns : List Int) : Nat := (PyProof.Rows.firstMet (fun i => ns.getD i 0) ns.length).length
theorem ints_of : ∀ {ns : List Int} {its : List Value}, Vals (ns.map V.int) its → PyProof.Rows.IntsAre its ns
  | [], its, r => by cases r; exact .nil
  | k :: ks, its, r => by
    cases r with
    | cons h hr =>
      obtain ⟨t, rfl⟩ := h
      exact .cons _ _ (ints_of hr)
section
variable {X : Cx}
def tLenSetI (K : PySem.W.Frag) (ta : TA) : TE := fun σ H Q => ta σ H fun vs H1 => ∃ (l : Addr) (ns : List Int), vs = [.ref l] ∧ SqL K H1 l (ns.map V.int) ∧ ns.length ≤ 1000 ∧ Q (.int (setN ns)) H1
theorem pe_lensetI {a : Expr} {ta : TA} {p p2 pos pos2 : Pos} {k : Nat} (hr : Room k X.A) (hc : X.calm = true) (hg : Gl X "len") (hm : X.mg "len" = none) (hg2 : Gl X "set") (hm2 : X.mg "set" = none) (ha : PA X [a] ta)
    (he1 : starEach [Expr.Call (.Name "set" p2) [a] [] pos2] X.env = (false, eval (Expr.Call (.Name "set" p2) [a] [] pos2) X.env) :: starEach [] X.env := by rfl)
    (hp1 : (backTo pos (starEach [] X.env)).any (·.1) = false := by rfl)
    (he2 : starEach [a] X.env = (false, eval a X.env) :: starEach [] X.env := by rfl) (hp2 : (backTo pos2 (starEach [] X.env)).any (·.1) = false := by rfl) :
    PE X (.Call (.Name "len" p) [.Call (.Name "set" p2) [a] [] pos2] [] pos) (tLenSetI X.K ta) := by
  intro pins s σ H Q I h
  refine wpAny_Call_Name_kw (ld_blt I hg hm PySem.boot_len ?_)
  refine PyProof.Rows.callWith_builtin1 ?_ he1 hp1
  rw [he1]
  show wpAny _ _ (spliced ((false, eval (Expr.Call (.Name "set" p2) [a] [] pos2) X.env) :: backTo pos (starEach [] X.env))) _ _ s
  refine Calls.spliced_cons ?_
  refine wpAny_Call_Name_kw (ld_blt I hg2 hm2 PyProof.Rows.boot_set ?_)
  refine PyProof.Rows.callWith_type1 (thn (ha pos2 pins s σ H _ I h) fun us s1 ⟨vs, H1, I1, r1, q1⟩ => ?_) he2 hp2
  obtain ⟨l, ns, rfl, hl, hn, q⟩ := q1
  obtain ⟨u, rfl, ru⟩ := vals1 r1
  cases ru
  obtain ⟨its, ri, pl, _⟩ := I1.list hl
  have hlr : its.length = ns.length := by rw [← ri.length, List.length_map]
  refine PySem.call_set_list (I1.ok.hd hc) pl.isList (ints_of (by simpa using ri)) (by simp only [List.size_toArray, hlr]; exact Nat.lt_of_le_of_lt (Nat.succ_le_succ hn) (by decide)) fun h' tk hS hk => ?_
  have I2 : Inv X pins σ H1 { s1 with heap := h', toks := tk } := I1.kept fun b o e => hk b o (Heap.lt_size e) e
  refine Calls.spliced_nil ?_
  obtain ⟨o, es, ep, t, ho, hex, hd, _, _, _, hf, hz⟩ := hS
  have hz2 : es.size = setN ns := by rw [hz, List.size_toArray, hlr]; rfl
  have hle : setN ns ≤ 1000 := Nat.le_trans (PyProof.Rows.firstMet_length_le _ _) hn
  refine call_len_set ho hex hd hf (by omega) ⟨.int (setN ns), H1, I2.tok _, ⟨_, by rw [hz2]⟩, q⟩
theorem r_lensetI {K : PySem.W.Frag} {tA : TA} {σ : St} {H : Hp} {Q : VK} (q : tA σ H fun vs H1 => ∃ (l : Addr) (ns : List Int), vs = [.ref l] ∧ SqL K H1 l (ns.map V.int) ∧ ns.length ≤ 1000 ∧ Q (.int (setN ns)) H1) : tLenSetI K tA σ H Q := q
end
end L2

set_option Elab.async false
set_option linter.all false
set_option maxRecDepth 100000
namespace L2
open PySem PySem.Spec PyProof.Rows

theorem r_chain {r r' : R2} {ta tb tc : TE} {σ : St} {H : Hp} {Q : VK} (q : ta σ H fun x H1 => tb σ H1 fun y H2 => r x y H2 fun z H3 => ∃ k, z = .bl k ∧ (if k = true then tc σ H3 fun w' H4 => r' y w' H4 Q else Q (.bl false) H3)) : tChain r r' ta tb tc σ H Q := q
theorem rEqL_nl {K : PySem.W.Frag} {H : Hp} {Q : VK} {a b : Addr} {xs : List V} (ha : SqL K H a xs) (hb : SqL K H b []) (q : Q (.bl (decide (xs = []))) H) : rEqL K (.ref a) (.ref b) H Q := rEqL_nil ha hb q
theorem rNeL_nl {K : PySem.W.Frag} {H : Hp} {Q : VK} {a b : Addr} {xs : List V} (ha : SqL K H a xs) (hb : SqL K H b []) (q : Q (.bl (!decide (xs = []))) H) : rNeL K (.ref a) (.ref b) H Q := by
  cases xs with
  | nil => exact rNeL_nil ha hb q
  | cons x xs => exact ⟨a, b, _, _, rfl, rfl, ha, hb, .inl ⟨by simp, q⟩⟩
/-! ### the rows of a book, and what stands by them -/
inductive Rw where
  | claim (n d c a b w : Int)
  | carry (n d c : Int)
  | step (n d t s : Int) (k : Str) (m : Int) (l : Str)
  | offer (n d t c a : Int)
  | rule (n d t : Int) (bk : Bool) (ws : List (List Int))
  | pay (n d s p c : Int)
  | dun (n d s : Int)
def Rw.num : Rw → Int
  | .claim n .. => n | .carry n .. => n | .step n .. => n | .offer n .. => n | .rule n .. => n | .pay n .. => n | .dun n .. => n
def Rw.day : Rw → Int
  | .claim _ d .. => d | .carry _ d .. => d | .step _ d .. => d | .offer _ d .. => d | .rule _ d .. => d | .pay _ d .. => d | .dun _ d .. => d
def Rw.word : Rw → Str
  | .claim .. => "claim" | .carry .. => "carry" | .step .. => "step" | .offer .. => "offer" | .rule .. => "rule" | .pay .. => "pay" | .dun .. => "dun"
/-- tuples stay -/
def TupS (H H' : Hp) : Prop := ∀ b xs, H b = some (.tup xs) → H' b = some (.tup xs)
theorem Same.tupS {H H' : Hp} (s : Same H H') : TupS H H' := fun b xs e => s b _ e
theorem TupS.trans {H H1 H2 : Hp} (a : TupS H H1) (b : TupS H1 H2) : TupS H H2 := fun c xs e => b c xs (a c xs e)
theorem TupS.refl (H : Hp) : TupS H H := fun _ _ e => e
theorem TupS.lst {H : Hp} {p : Addr} {xs ys : List V} (h : H p = some (.lst xs)) : TupS H (upd H p (.lst ys)) := fun b zs e => by
  rw [upd_ne (ne_of e h (by intro z; cases z))]
  exact e
theorem TabIs.tupS {H H' : Hp} {as : List Addr} {rows : List (List Int)} (t : TabIs H as rows) (s : TupS H H') : TabIs H' as rows := ⟨t.1, fun j a r e1 e2 => s _ _ (t.2 j a r e1 e2)⟩
/-- the wins of a ruling: a tuple of pairs -/
def WsAt (H : Hp) (q : Addr) (ws : List (List Int)) : Prop := ∃ as, H q = some (.tup (List.map V.ref as)) ∧ TabIs H as ws ∧ (∀ x ∈ ws, x.length = 2) ∧ ws.length ≤ 1000
theorem WsAt.mono {H H' : Hp} {q : Addr} {ws : List (List Int)} (t : TupS H H') (h : WsAt H q ws) : WsAt H' q ws := by
  obtain ⟨as, h1, h2, h3⟩ := h
  exact ⟨as, t _ _ h1, h2.tupS t, h3⟩
/-- the row's tuple at p -/
def RowAt (H : Hp) (p : Addr) : Rw → Prop
  | .claim n d c a b w => H p = some (.tup [.int n, .str "claim", .int d, .int c, .int a, .int b, .int w])
  | .carry n d c => H p = some (.tup [.int n, .str "carry", .int d, .int c])
  | .step n d t s k m l => H p = some (.tup [.int n, .str "step", .int d, .int t, .int s, .str k, .int m, .str l])
  | .offer n d t c a => H p = some (.tup [.int n, .str "offer", .int d, .int t, .int c, .int a])
  | .rule n d t bk ws => ∃ q, H p = some (.tup [.int n, .str "rule", .int d, .int t, .bl bk, .ref q]) ∧ WsAt H q ws
  | .pay n d s q c => H p = some (.tup [.int n, .str "pay", .int d, .int s, .int q, .int c])
  | .dun n d s => H p = some (.tup [.int n, .str "dun", .int d, .int s])
theorem RowAt.mono {H H' : Hp} {p : Addr} {r : Rw} (t : TupS H H') (h : RowAt H p r) : RowAt H' p r := by
  cases r with
  | rule n d t' bk ws => obtain ⟨q, h1, h2⟩ := h; exact ⟨q, t _ _ h1, h2.mono t⟩
  | _ => exact t _ _ h
/-- what every row has -/
theorem RowAt.head {H : Hp} {p : Addr} {r : Rw} (h : RowAt H p r) : ∃ xs, H p = some (.tup (.int r.num :: .str r.word :: .int r.day :: xs)) := by
  cases r with
  | rule n d t' bk ws => obtain ⟨q, h1, h2⟩ := h; exact ⟨_, h1⟩
  | _ => exact ⟨_, h⟩
def RowsAt (H : Hp) (ps : List Addr) (rows : List Rw) : Prop := ps.length = rows.length ∧ ∀ (i : Nat) (p : Addr) (r : Rw), ps[i]? = some p → rows[i]? = some r → RowAt H p r
theorem RowsAt.mono {H H' : Hp} {ps : List Addr} {rows : List Rw} (t : TupS H H') (h : RowsAt H ps rows) : RowsAt H' ps rows := ⟨h.1, fun i p r e1 e2 => (h.2 i p r e1 e2).mono t⟩
theorem RowsAt.nil {H : Hp} : RowsAt H [] [] := ⟨rfl, fun i p r e => by simp at e⟩
theorem RowsAt.push {H : Hp} {ps : List Addr} {rows : List Rw} {p : Addr} {r : Rw} (h : RowsAt H ps rows) (hp : RowAt H p r) : RowsAt H (ps ++ [p]) (rows ++ [r]) := by
  refine ⟨by simp [h.1], fun i q r' e1 e2 => ?_⟩
  by_cases hi : i < ps.length
  · rw [List.getElem?_append_left hi] at e1
    rw [List.getElem?_append_left (by rw [← h.1]; exact hi)] at e2
    exact h.2 i q r' e1 e2
  · have l1 : ps.length ≤ i := by omega
    rw [List.getElem?_append_right l1] at e1
    rw [List.getElem?_append_right (by rw [← h.1]; exact l1), ← h.1] at e2
    by_cases h0 : i - ps.length = 0
    · rw [h0] at e1 e2
      cases e1
      cases e2
      exact hp
    · obtain ⟨k, hk⟩ : ∃ k, i - ps.length = k + 1 := ⟨i - ps.length - 1, by omega⟩
      rw [hk] at e1
      simp at e1

/-! rounds: the claims of each, a claim as its four numbers -/
abbrev Rds := List (List (List Int))
def putR (rs : Rds) : Rw → Rds
  | .claim _ _ c a b w => match rs with
    | [] => []
    | r :: t => (r ++ [[c, a, b, w]]) :: t
  | .rule .. => rs ++ [[]]
  | .carry _ _ c => match (rs.getD (rs.length - 2) []).find? (fun x => x.getD 0 0 == c) with
    | some x => rs.set (rs.length - 1) (rs.getD (rs.length - 1) [] ++ [x])
    | none => rs
  | _ => rs
/-- what a row needs for being put -/
def OkPut (rs : Rds) : Rw → Prop
  | .carry _ _ c => 2 ≤ rs.length ∧ ((rs.getD (rs.length - 2) []).any fun x => x.getD 0 0 == c) = true
  | _ => True
def roundsR (rows : List Rw) : Rds := rows.foldl putR [[]]
theorem roundsR_snoc (rows : List Rw) (r : Rw) : roundsR (rows ++ [r]) = putR (roundsR rows) r := by simp [roundsR]
structure RdsAt (H : Hp) (p : Addr) (ls : List Addr) (rs : Rds) : Prop where
  at_ : H p = some (.lst (ls.map V.ref))
  len : ls.length = rs.length
  nd : ls.Nodup
  np : p ∉ ls
  ro : ∀ (i : Nat) (l : Addr) (r : List (List Int)), ls[i]? = some l → rs[i]? = some r → ∃ cs, H l = some (.lst (cs.map V.ref)) ∧ TabIs H cs r
theorem RdsAt.same {H H' : Hp} {p : Addr} {ls : List Addr} {rs : Rds} (s : Same H H') (h : RdsAt H p ls rs) : RdsAt H' p ls rs :=
  ⟨s _ _ h.at_, h.len, h.nd, h.np, fun i l r e1 e2 => let ⟨cs, a, b⟩ := h.ro i l r e1 e2; ⟨cs, s _ _ a, b.same s⟩⟩

theorem TabIs.snoc {H : Hp} {cs : List Addr} {r : List (List Int)} {t : Addr} {x : List Int} (h : TabIs H cs r) (ht : H t = some (.tup (x.map V.int))) : TabIs H (cs ++ [t]) (r ++ [x]) :=
  h.cat ⟨rfl, fun j a y e1 e2 => by
    cases j with
    | zero => cases e1; cases e2; exact ht
    | succ j => simp at e1⟩
theorem RdsAt.push {H : Hp} {p l t : Addr} {ls cs : List Addr} {r : List (List Int)} {rs : Rds} {x : List Int} {i : Nat} (R : RdsAt H p ls rs) (e1 : ls[i]? = some l) (e2 : rs[i]? = some r) (c1 : H l = some (.lst (cs.map V.ref))) (c2 : TabIs H cs r) (ht : H t = some (.tup (x.map V.int))) :
    RdsAt (upd H l (.lst (cs.map V.ref ++ [.ref t]))) p ls (rs.set i (r ++ [x])) := by
  have ts : TupS H (upd H l (.lst (cs.map V.ref ++ [.ref t]))) := TupS.lst c1
  have hl : l ∈ ls := List.mem_of_getElem? e1
  have hi : i < ls.length := (List.getElem?_eq_some_iff.mp e1).1
  refine ⟨?_, by rw [List.length_set]; exact R.len, R.nd, R.np, fun j m r' f1 f2 => ?_⟩
  · rw [upd_ne (fun z => R.np (by rw [z]; exact hl))]
    exact R.at_
  · by_cases hj : i = j
    · subst hj
      rw [e1] at f1
      cases f1
      rw [List.getElem?_set_self (by rw [← R.len]; exact hi)] at f2
      cases f2
      refine ⟨cs ++ [t], by rw [upd_same, List.map_append]; rfl, ?_⟩
      exact (c2.tupS ts).snoc (ts _ _ ht)
    · rw [List.getElem?_set_ne hj] at f2
      obtain ⟨cs', a1, a2⟩ := R.ro j m r' f1 f2
      have ml : m ≠ l := fun z => hj (by
        refine (List.getElem?_inj hi R.nd).mp ?_
        rw [e1, f1, z])
      exact ⟨cs', by rw [upd_ne ml]; exact a1, a2.tupS ts⟩
theorem RdsAt.add {H : Hp} {p e : Addr} {ls : List Addr} {rs : Rds} (R : RdsAt H p ls rs) (ne : H e = none) :
    RdsAt (upd (upd H e (.lst [])) p (.lst (ls.map V.ref ++ [.ref e]))) p (ls ++ [e]) (rs ++ [[]]) := by
  have s1 : Same H (upd H e (.lst [])) := Same.new ne
  have hp1 := s1 _ _ R.at_
  have ts : TupS (upd H e (.lst [])) (upd (upd H e (.lst [])) p (.lst (ls.map V.ref ++ [.ref e]))) := TupS.lst hp1
  have pe : p ≠ e := fun z => by have := R.at_; rw [z, ne] at this; cases this
  have lne : ∀ l ∈ ls, l ≠ e := fun l hl z => by
    obtain ⟨i, hi, ei⟩ := List.getElem_of_mem hl
    have hir : i < rs.length := by rw [← R.len]; exact hi
    obtain ⟨cs, a1, _⟩ := R.ro i l rs[i] (by simp [hi, ei]) (by simp [hir])
    rw [z, ne] at a1
    cases a1
  refine ⟨by rw [upd_same, List.map_append]; rfl, by simp [R.len], ?_, ?_, fun i m r e1 e2 => ?_⟩
  · rw [List.nodup_append]
    exact ⟨R.nd, by simp, fun x hx y hy => by rw [List.mem_singleton.mp hy]; exact lne x hx⟩
  · intro z
    rcases List.mem_append.mp z with z | z
    · exact R.np z
    · exact pe (List.mem_singleton.mp z)
  · by_cases hi : i < ls.length
    · rw [List.getElem?_append_left hi] at e1
      rw [List.getElem?_append_left (by rw [← R.len]; exact hi)] at e2
      obtain ⟨cs, a1, a2⟩ := R.ro i m r e1 e2
      have mp : m ≠ p := fun z => R.np (by rw [← z]; exact List.mem_of_getElem? e1)
      exact ⟨cs, by rw [upd_ne mp]; exact s1 _ _ a1, (a2.same s1).tupS ts⟩
    · have l1 : ls.length ≤ i := by omega
      rw [List.getElem?_append_right l1] at e1
      rw [List.getElem?_append_right (by rw [← R.len]; exact l1), ← R.len] at e2
      by_cases h0 : i - ls.length = 0
      · rw [h0] at e1 e2
        cases e1
        cases e2
        exact ⟨[], by rw [upd_ne (Ne.symm pe), upd_same]; rfl, TabIs.nil⟩
      · obtain ⟨k, hk⟩ : ∃ k, i - ls.length = k + 1 := ⟨i - ls.length - 1, by omega⟩
        rw [hk] at e1
        simp at e1
theorem putR_ne {rs : Rds} {r : Rw} (h : rs ≠ []) : putR rs r ≠ [] := by
  cases r with
  | claim n d c a b w => cases rs with
    | nil => exact absurd rfl h
    | cons x y => intro z; cases z
  | rule n d t bk => intro z; exact absurd (List.append_eq_nil_iff.mp z).2 (by simp)
  | carry n d c =>
    intro z
    unfold putR at z
    dsimp only at z
    split at z
    · exact h (by rw [← List.length_eq_zero_iff] at z ⊢; rwa [List.length_set] at z)
    · exact h z
  | _ => exact h
theorem rdsD_mem {rs : Rds} {i : Nat} {x : List Int} (h : x ∈ rs.getD i []) : rs.getD i [] ∈ rs := by
  by_cases hi : i < rs.length
  · have e : rs.getD i [] = rs[i] := by simp [List.getD, hi]
    rw [e]
    exact List.getElem_mem hi
  · have e : rs.getD i [] = [] := by simp [List.getD, Nat.not_lt.mp hi]
    rw [e] at h
    cases h
theorem roundsR_take (rows : List Rw) : ∀ n, n ≤ rows.length → roundsR (rows.take n) ≠ [] ∧ (roundsR (rows.take n)).length ≤ n + 1 ∧ ∀ x ∈ roundsR (rows.take n), x.length ≤ n ∧ ∀ y ∈ x, y.length = 4 := by
  intro n
  induction n with
  | zero => intro _; refine ⟨by simp [roundsR], by simp [roundsR], fun x hx => ?_⟩; simp [roundsR] at hx; subst hx; exact ⟨by simp, fun y hy => nomatch hy⟩
  | succ n ih =>
    intro hn
    obtain ⟨h1, h2, h3⟩ := ih (by omega)
    have e : rows.take (n + 1) = rows.take n ++ [rows[n]] := by rw [List.take_succ_eq_append_getElem (by omega)]
    rw [e, roundsR_snoc]
    refine ⟨putR_ne h1, ?_⟩
    generalize roundsR (List.take n rows) = rs at h1 h2 h3
    cases rows[n] with
    | claim n' d c a b w =>
      cases rs with
      | nil => exact absurd rfl h1
      | cons x y =>
        refine ⟨by simp only [putR, List.length_cons] at h2 ⊢; omega, fun z hz => ?_⟩
        rcases List.mem_cons.mp hz with rfl | hz
        · have := h3 x List.mem_cons_self
          refine ⟨by simp; exact this.1, fun u hu => ?_⟩
          rcases List.mem_append.mp hu with hu | hu
          · exact this.2 u hu
          · rw [List.mem_singleton.mp hu]; rfl
        · have := h3 z (List.mem_cons_of_mem _ hz)
          exact ⟨by omega, this.2⟩
    | rule n' d t bk =>
      refine ⟨by simp only [putR, List.length_append, List.length_cons, List.length_nil]; omega, fun z hz => ?_⟩
      rcases List.mem_append.mp hz with hz | hz
      · have := h3 z hz
        exact ⟨by omega, this.2⟩
      · rw [List.mem_singleton.mp hz]
        exact ⟨by simp, fun y hy => nomatch hy⟩
    | carry n' d c =>
      unfold putR
      dsimp only
      split
      · rename_i x ex
        refine ⟨by rw [List.length_set]; exact Nat.le_succ_of_le h2, fun z hz => ?_⟩
        rcases List.mem_or_eq_of_mem_set hz with hz | rfl
        · have := h3 z hz
          exact ⟨by omega, this.2⟩
        · have mx := List.mem_of_find?_eq_some ex
          have x4 := (h3 _ (rdsD_mem mx)).2 x mx
          have ll : (rs.getD (rs.length - 1) []).length ≤ n ∧ ∀ y ∈ rs.getD (rs.length - 1) [], y.length = 4 := by
            have l1 : rs.length - 1 < rs.length := by
              have : 0 < rs.length := List.length_pos_iff.mpr h1
              omega
            have e : rs.getD (rs.length - 1) [] = rs[rs.length - 1] := by simp [List.getD, l1]
            rw [e]
            exact h3 _ (List.getElem_mem l1)
          refine ⟨by rw [List.length_append, List.length_singleton]; omega, fun u hu => ?_⟩
          rcases List.mem_append.mp hu with hu | hu
          · exact ll.2 u hu
          · rw [List.mem_singleton.mp hu]; exact x4
      · refine ⟨Nat.le_succ_of_le h2, fun z hz => ?_⟩
        have := h3 z hz
        exact ⟨by omega, this.2⟩
    | _ =>
      refine ⟨Nat.le_succ_of_le h2, fun z hz => ?_⟩
      have := h3 z hz
      exact ⟨by omega, this.2⟩
theorem roundsR_ok (rows : List Rw) : roundsR rows ≠ [] ∧ (roundsR rows).length ≤ rows.length + 1 ∧ ∀ x ∈ roundsR rows, x.length ≤ rows.length ∧ ∀ y ∈ x, y.length = 4 := by
  have := roundsR_take rows rows.length (Nat.le_refl _)
  rw [List.take_length] at this
  exact this
/-- the claim of a number among claims -/
def Hit (H : Hp) (r : List (List Int)) (c : Int) (v : V) : Prop := match r.find? (fun x => x.getD 0 0 == c) with
  | none => v = .non
  | some x => ∃ b, v = .ref b ∧ H b = some (.tup (x.map V.int))
theorem Hit.non {H : Hp} {r : List (List Int)} {c : Int} {v : V} (h : Hit H r c v) : decide (v = .non) = !(r.any fun x => x.getD 0 0 == c) := by
  unfold Hit at h
  split at h
  · rename_i e
    have : r.any (fun x => x.getD 0 0 == c) = false := by
      rw [List.any_eq_false]
      intro x hx
      have := List.find?_eq_none.mp e x hx
      exact this
    rw [h, this]
    rfl
  · rename_i x e
    have : r.any (fun x => x.getD 0 0 == c) = true := by
      rw [List.any_eq_true]
      exact ⟨x, List.mem_of_find?_eq_some e, by have := List.find?_some e; exact this⟩
    obtain ⟨b, hb, _⟩ := h
    rw [hb, this]
    rfl
theorem Hit.found {H : Hp} {r : List (List Int)} {c : Int} {v : V} (h : Hit H r c v) (ha : (r.any fun x => x.getD 0 0 == c) = true) : ∃ x b, r.find? (fun x => x.getD 0 0 == c) = some x ∧ v = .ref b ∧ H b = some (.tup (x.map V.int)) := by
  unfold Hit at h
  split at h
  · rename_i e
    obtain ⟨x, hx, h2⟩ := List.any_eq_true.mp ha
    exact absurd h2 (List.find?_eq_none.mp e x hx)
  · rename_i x e
    obtain ⟨b, h1, h2⟩ := h
    exact ⟨x, b, e, h1, h2⟩
theorem atI_refs_m2 {as : List Addr} (h : 2 ≤ as.length) : atI (as.map V.ref) (-2) = some (V.ref (as.getD (as.length - 2) 0)) := by
  have h2 : as.length - 2 < as.length := by omega
  have e : ixN (as.map V.ref).length (-2) = some (as.length - 2) := by
    unfold ixN
    rw [List.length_map, if_neg (by decide), if_pos (by omega)]
    congr 1
    omega
  unfold atI
  rw [e]
  simp [h2, List.getD]
theorem passN {P : Program} {w : World} {X : Cx} : Passes (CX1 P w) X E0 := fun _ _ _ _ _ _ _ h => by
  obtain h := h
  unfold CX1 at h
  simp [E0] at h
def claimsR (rs : Rds) (t : Int) : List (List Int) := if 0 ≤ t ∧ t < (rs.length : Int) then rs.getD t.toNat [] else []

/-! ### refusals -/
def lacksR (rs : Rds) : Rw → Bool
  | .carry _ _ c => !((claimsR rs ((rs.length : Int) - 1 - 1)).any fun x => x.getD 0 0 == c)
  | .step _ _ t _ _ _ _ => (claimsR rs t).isEmpty
  | .offer _ _ t c _ => !((claimsR rs t).any fun x => x.getD 0 0 == c)
  | .rule _ _ t _ ws => (claimsR rs t).isEmpty || ws.any fun x => !((claimsR rs t).any fun y => y.getD 0 0 == x.getD 0 0)
  | _ => false
def meetsR (rs : Rds) : Rw → Bool
  | .claim .. => decide ((rs.length : Int) - 1 > 0)
  | .carry .. => decide ((rs.length : Int) - 1 = 3)
  | .step _ _ t _ _ _ _ => decide (t < (rs.length : Int) - 1)
  | .offer _ _ t _ _ => decide (t < (rs.length : Int) - 1)
  | .rule _ _ t _ _ => decide (t < (rs.length : Int) - 1)
  | _ => false
def nmsR (ws : List (List Int)) : List Int := ws.map fun x => x.getD 0 0
def twiceR (rs : Rds) : Rw → Bool
  | .rule _ _ _ _ ws => decide (((setN (nmsR ws) : Nat) : Int) < (((nmsR ws).length : Nat) : Int))
  | .claim _ _ c _ _ _ => (rs.getD 0 []).any fun x => x.getD 0 0 == c
  | .carry _ _ c => (rs.getD (rs.length - 1) []).any fun x => x.getD 0 0 == c
  | _ => false
def worthR (rs : Rds) (t c : Int) : Int := (((claimsR rs t).find? (fun x => x.getD 0 0 == c)).getD []).getD 3 0
def muchR (rs : Rds) : Rw → Bool
  | .rule _ _ t _ ws => ws.any fun x => decide (x.getD 1 0 > worthR rs t (x.getD 0 0))
  | .offer _ _ t c a => decide (a > worthR rs t c)
  | _ => false
def lateR (last : Option Int) (r : Rw) : Bool := match last with
  | none => false
  | some d => decide (r.day < d)
/-- 0 full, 1 no such claim, 2 round over, 3 too late, 4 twice, 5 too much -/
def refuseR (rs : Rds) (last : Option Int) (wr : Int) (r : Rw) : Option Nat :=
  if 300 ≤ wr then some 0
  else if lacksR rs r = true then some 1
  else if meetsR rs r = true then some 2
  else if lateR last r = true then some 3
  else if twiceR rs r = true then some 4
  else if muchR rs r = true then some 5
  else none
theorem okPut_of {rs : Rds} {last : Option Int} {wr : Int} {r : Rw} (h : refuseR rs last wr r = none) : OkPut rs r := by
  cases r with
  | carry n d c =>
    have hl : lacksR rs (.carry n d c) = false := by
      cases e : lacksR rs (.carry n d c) with
      | false => rfl
      | true =>
        unfold refuseR at h
        rw [if_pos e] at h
        split at h <;> cases h
    have ha : ((claimsR rs ((rs.length : Int) - 1 - 1)).any fun x => x.getD 0 0 == c) = true := by
      have : (!((claimsR rs ((rs.length : Int) - 1 - 1)).any fun x => x.getD 0 0 == c)) = false := hl
      simpa using this
    unfold claimsR at ha
    split at ha
    · rename_i z
      have e : ((rs.length : Int) - 1 - 1).toNat = rs.length - 2 := by omega
      rw [e] at ha
      exact ⟨by omega, ha⟩
    · cases ha
  | _ => trivial
/-- rows that can be put one after another -/
inductive OkRows : List Rw → Prop
  | nil : OkRows []
  | snoc {rows r} : OkRows rows → OkPut (roundsR rows) r → OkRows (rows ++ [r])
theorem OkRows.at {rows : List Rw} (h : OkRows rows) : ∀ (i : Nat) (hi : i < rows.length), OkPut (roundsR (rows.take i)) rows[i] := by
  induction h with
  | nil => intro i hi; cases hi
  | @snoc rows r h1 h2 ih =>
    intro i hi
    by_cases hi2 : i < rows.length
    · rw [List.take_append_of_le_length (by omega), List.getElem_append_left hi2]
      exact ih i hi2
    · have e : i = rows.length := by rw [List.length_append, List.length_singleton] at hi; omega
      subst e
      rw [List.take_append_of_le_length (by omega), List.take_length, List.getElem_append_right (Nat.le_refl _)]
      simpa using h2
def msgR (k : Nat) : Str := (["full", "no such claim", "round over", "too late", "twice", "too much"] : List Str).getD k "needed"
def LastAt (H : Hp) (v : V) (last : Option Int) : Prop := (v = .non ∧ last = none) ∨ ∃ b r, v = .ref b ∧ RowAt H b r ∧ last = some r.day
theorem LastAt.mono {H H' : Hp} {v : V} {last : Option Int} (t : TupS H H') (h : LastAt H v last) : LastAt H' v last := by
  rcases h with h | ⟨b, r, h1, h2, h3⟩
  · exact .inl h
  · exact .inr ⟨b, r, h1, h2.mono t, h3⟩
def lastR (rows : List Rw) : Option Int := rows.getLast?.map Rw.day

/-! ### the book's object -/
def flds (pe co sp ro ca we : Addr) (n : Int) : List (Str × V) := [("people", .ref pe), ("court", .ref co), ("speakers", .ref sp), ("rows", .ref ro), ("came", .ref ca), ("went", .ref we), ("done", .int n)]
theorem fl_rows {pe co sp ro ca we : Addr} {n : Int} : (flds pe co sp ro ca we n).lookup ("rows" : Str) = some (.ref ro) := by rfl
theorem fl_came {pe co sp ro ca we : Addr} {n : Int} : (flds pe co sp ro ca we n).lookup ("came" : Str) = some (.ref ca) := by rfl
theorem fl_went {pe co sp ro ca we : Addr} {n : Int} : (flds pe co sp ro ca we n).lookup ("went" : Str) = some (.ref we) := by rfl
theorem fl_done {pe co sp ro ca we : Addr} {n : Int} : (flds pe co sp ro ca we n).lookup ("done" : Str) = some (.int n) := by rfl
theorem fl_put {pe co sp ro ca we : Addr} {n m : Int} : putF "done" (.int m) (flds pe co sp ro ca we n) = flds pe co sp ro ca we m := by rfl
theorem fl_len {pe co sp ro ca we : Addr} {n : Int} : (flds pe co sp ro ca we n).length < 1000 := by show 7 < 1000; decide
theorem fl_new {pe co sp ro ca we : Addr} : putF "done" (.int 0) (putF "went" (.ref we) (putF "came" (.ref ca) (putF "rows" (.ref ro) (putF "speakers" (.ref sp) (putF "court" (.ref co) (putF "people" (.ref pe) [])))))) = flds pe co sp ro ca we 0 := by rfl
theorem fl_no {pe co sp ro ca we : Addr} {n : Int} {m : Str} (h : m ∉ (["people", "court", "speakers", "rows", "came", "went", "done"] : List Str)) : (flds pe co sp ro ca we n).lookup m = none := by
  simp only [List.mem_cons, List.not_mem_nil, or_false, not_or] at h
  obtain ⟨h1, h2, h3, h4, h5, h6, h7⟩ := h
  unfold flds
  simp only [List.lookup_cons]
  rw [beq_eq_false_iff_ne.mpr h1, beq_eq_false_iff_ne.mpr h2, beq_eq_false_iff_ne.mpr h3, beq_eq_false_iff_ne.mpr h4, beq_eq_false_iff_ne.mpr h5, beq_eq_false_iff_ne.mpr h6, beq_eq_false_iff_ne.mpr h7]
  rfl
/-- a book without undone rows -/
structure BkAt (cB : Addr) (H : Hp) (b ro ca we : Addr) (rows : List Rw) : Prop where
  ex : ∃ dx pe co sp ps, H b = some (.ins cB dx (flds pe co sp ro ca we rows.length)) ∧ H ro = some (.lst (List.map V.ref ps)) ∧ H ca = some (.lst ((List.range rows.length).map fun (i : Nat) => V.int ((i : Int) + 1))) ∧ H we = some (.lst (List.replicate rows.length V.non)) ∧ RowsAt H ps rows
  n1 : ro ≠ ca
  n2 : ro ≠ we
  n3 : ca ≠ we
theorem BkAt.same {cB b ro ca we : Addr} {H H' : Hp} {rows : List Rw} (s : Same H H') (h : BkAt cB H b ro ca we rows) : BkAt cB H' b ro ca we rows := by
  obtain ⟨⟨dx, pe, co, sp, ps, h1, h2, h3, h4, h5⟩, n1, n2, n3⟩ := h
  exact ⟨⟨dx, pe, co, sp, ps, s _ _ h1, s _ _ h2, s _ _ h3, s _ _ h4, h5.mono s.tupS⟩, n1, n2, n3⟩
theorem pl {f : Str} {v : V} {fs : List (Str × V)} {k : Nat} (h : fs.length ≤ k) : (putF f v fs).length ≤ k + 1 := by
  induction fs generalizing k with
  | nil => simp [putF]
  | cons x xs ih =>
    obtain ⟨g, u⟩ := x
    unfold putF
    split
    · simpa using Nat.le_succ_of_le h
    · have h' : xs.length ≤ k - 1 := by simp only [List.length_cons] at h; omega
      have := ih h'
      simp only [List.length_cons] at h ⊢
      omega
theorem fld_step {cB b dx l : Addr} {H : Hp} {fs fs' : List (Str × V)} {o : HO} (hb : H b = some (.ins cB dx fs)) (nl : H l = none) :
    upd (upd H l o) b (.ins cB dx fs') b = some (.ins cB dx fs') ∧ upd (upd H l o) b (.ins cB dx fs') l = some o ∧ ∀ x u, H x = some u → x ≠ b → upd (upd H l o) b (.ins cB dx fs') x = some u := by
  refine ⟨upd_same, ?_, fun x u e ne => ?_⟩
  · rw [upd_ne (fun z => by rw [z, hb] at nl; cases nl), upd_same]
  · rw [upd_ne ne, upd_ne (ne_of_none e nl)]
    exact e
theorem r_sfld {K : PySem.W.Frag} {ta tv : TE} {f : Str} {D : Ends} {σ : St} {H : Hp} (q : tv σ H fun y H1 => ta σ H1 fun x H2 => ∃ a C dx fs, x = .ref a ∧ H2 a = some (.ins C dx fs) ∧ Cls K C ∧ NoAttr K C f ∧ fs.length < 1000 ∧
  D.nx σ (upd H2 a (.ins C dx (putF f y fs)))) : sFld K ta tv f D σ H := q
theorem r_saug {K : PySem.W.Frag} {ta tv : TE} {rd : V → V → Hp → VK → Prop} {f : Str} {D : Ends} {σ : St} {H : Hp} (q : ta σ H fun x H1 => ∃ a C dx fs v, x = .ref a ∧ H1 a = some (.ins C dx fs) ∧ Cls K C ∧ NoAttr K C f ∧ fs.lookup f = some v ∧
  tv σ H1 fun y H2 => rd v y H2 fun z H3 => ∃ dx' fs', H3 a = some (.ins C dx' fs') ∧ fs'.length < 1000 ∧ D.nx σ (upd H3 a (.ins C dx' (putF f z fs')))) : sFldAug K ta tv rd f D σ H := q
/-- all but the book's own things is as it was -/
def SameB (b ro ca we : Addr) (H H' : Hp) : Prop := ∀ x o, H x = some o → x ≠ b → x ≠ ro → x ≠ ca → x ≠ we → H' x = some o

/-! ### texts of rows -/
def ts (i : Int) : Str := toString i
def Small (i : Int) : Prop := i.natAbs < 10 ^ 20
theorem Small.of {i : Int} (h0 : -99999999999999999999 ≤ i) (h1 : i ≤ 99999999999999999999) : Small i := by
  unfold Small
  have e : (10 : Nat) ^ 20 = 100000000000000000000 := by decide +kernel
  rw [e]
  omega
def textR : Rw → Str
  | .claim _ d c a b w => Txt.join " " ["claim", ts d, ts c, ts a, ts b, ts w]
  | .rule _ d t bk _ => Txt.join " " ["rule", ts d, ts t, if bk then "back" else "own"]
  | .carry _ d c => Txt.join " " ["carry", ts d, ts c]
  | _ => ""
/-- [f(c, w) for c, w in a tuple of pairs] -/
theorem comp_pairs {K : PySem.W.Frag} {a : Addr} {as : List Addr} {ws : List (List Int)} {te : TE} {σ0 : St} {D : Addr} {H1 : Hp} {Q : Hp → Prop} (f : List Int → V) (hD : H1 D = none) (ha : SqT K H1 a (List.map V.ref as)) (ht : TabIs H1 as ws) (h2 : ∀ x ∈ ws, x.length = 2) (hn : ws.length ≤ 1000)
    (he : ∀ x H' q, x ∈ ws → Same H1 H' → (∀ H'', Same H' H'' → q (f x) H'') → te ((σ0.set 0 (some (.int (x.getD 0 0)))).set 1 (some (.int (x.getD 1 0)))) H' q)
    (hq : ∀ H', Same H1 H' → H' D = some (.lst (ws.map f)) → Q H') : CompBody (Itt K a) (gTup K 2 (gCons (gName 0) (gCons (gName 1) gNil))) tTT te 2 σ0 D H1 Q := by
  refine comp_tup (xs := List.map V.ref as) (fun i ys H => Same H1 H ∧ H D = some (.lst ys) ∧ ys = (ws.take i).map f) ⟨Same.new hD, upd_same, by simp⟩ (fun i ys H _ p => p.1.seqT ha) ?_ ?_
  · rintro i x ys H hx ⟨sm, hd, rfl⟩
    rw [List.getElem?_map] at hx
    obtain ⟨z, hz, rfl⟩ := Option.map_eq_some_iff.mp hx
    obtain ⟨r, hr, hz2⟩ := ht.at hz
    have hi : i < ws.length := (List.getElem?_eq_some_iff.mp hr).1
    have er : ws[i] = r := by simpa [hi] using hr
    have hm : r ∈ ws := List.mem_of_getElem? hr
    obtain ⟨c, w, rfl⟩ : ∃ c w, r = [c, w] := by
      have := h2 r hm
      match r, this with
      | [c, w], _ => exact ⟨c, w, rfl⟩
    refine r_gtup (xs := [.int c, .int w]) (SqT.of (sm _ _ hz2)) rfl (r_gcons (r_name (r_gcons (r_name (r_gnil ⟨set01, ?_⟩)))))
    refine r_tt (iteT (he [c, w] H _ hm sm fun H2 s2 => ?_))
    refine ⟨s2 _ _ hd, small1000 (by rw [List.length_map, List.length_take]; omega), Same.setp hD (sm.trans s2), upd_same, ?_⟩
    rw [List.take_succ_eq_append_getElem hi, List.map_append, er]
    rfl
  · rintro ys H ⟨sm, hd, rfl⟩
    rw [List.length_map, ht.1, List.take_length] at hd
    exact hq H sm hd
theorem comp_listF {K : PySem.W.Frag} {a : Addr} {xs : List V} {te : TE} {σ0 : St} {D : Addr} {H1 : Hp} {Q : Hp → Prop} (f : Nat → V) (hD : H1 D = none) (ha : SqL K H1 a xs) (hn : xs.length ≤ 1000)
    (he : ∀ i x H' q, xs[i]? = some x → Same H1 H' → (∀ H'', Same H' H'' → q (f i) H'') → te (σ0.set 0 (some x)) H' q)
    (hq : ∀ H', Same H1 H' → H' D = some (.lst ((List.range xs.length).map f)) → Q H') : CompBody (Itl K a) (gName 0) tTT te 1 σ0 D H1 Q := by
  refine comp_list (xs := xs) (fun i ys H => Same H1 H ∧ H D = some (.lst ys) ∧ ys = (List.range i).map f) ⟨Same.new hD, upd_same, by simp⟩ (fun i ys H _ p => p.1.seq ha) ?_ ?_
  · rintro i x ys H hx ⟨sm, hd, rfl⟩
    have hi : i < xs.length := (List.getElem?_eq_some_iff.mp hx).1
    refine r_name ⟨set0, r_tt (iteT (he i x H _ hx sm fun H2 s2 => ?_))⟩
    refine ⟨s2 _ _ hd, small1000 (by rw [List.length_map, List.length_range]; omega), Same.setp hD (sm.trans s2), upd_same, ?_⟩
    rw [List.range_succ, List.map_append]
    rfl
  · rintro ys H ⟨sm, hd, rfl⟩
    exact hq H sm hd
/-! ### deeds as a law hands them -/
inductive Dd where
  | claim (c a b w : Int)
  | rule (t : Int) (bk : Bool) (ws : List (List Int))
  | carry (c : Int)
  | step (t s : Int) (k : Str) (m : Int) (l : Str)
  | offer (t c a : Int)
def Dd.word : Dd → Str
  | .claim .. => "claim"
  | .rule .. => "rule"
  | .carry .. => "carry"
  | .step .. => "step"
  | .offer .. => "offer"
def Dd.row (n d : Int) : Dd → Rw
  | .claim c a b w => .claim n d c a b w
  | .rule t bk ws => .rule n d t bk ws
  | .carry c => .carry n d c
  | .step t s k m l => .step n d t s k m l
  | .offer t c a => .offer n d t c a
def ToldAt (H : Hp) (p : Addr) : Dd → Prop
  | .claim c a b w => H p = some (.tup [.int c, .int a, .int b, .int w])
  | .rule t bk ws => ∃ e, H p = some (.tup [.int t, .ref e, .bl bk]) ∧ WsAt H e ws
  | .carry c => H p = some (.tup [.int c])
  | .step t s k m l => H p = some (.tup [.int t, .int s, .str k, .int m, .str l])
  | .offer t c a => H p = some (.tup [.int t, .int c, .int a])
theorem ToldAt.mono {H H' : Hp} {p : Addr} {r : Dd} (t : TupS H H') (h : ToldAt H p r) : ToldAt H' p r := by
  cases r with
  | rule t' bk ws => obtain ⟨q, h1, h2⟩ := h; exact ⟨q, t _ _ h1, h2.mono t⟩
  | _ => exact t _ _ h
/-- [f(k) for k in range(n) if p(k)] -/
theorem comp_rangeF {n : Nat} {tt : TT} {te : TE} {σ0 : St} {D : Addr} {H1 : Hp} {Q : Hp → Prop} (p : Nat → Bool) (f : Nat → V) (hD : H1 D = none) (hn : n ≤ 1000)
    (ht : ∀ i H' (q : Bool → Hp → Prop), i < n → Same H1 H' → (∀ H'', Same H' H'' → q (p i) H'') → tt (σ0.set 0 (some (.int (0 + (i : Int))))) H' q)
    (he : ∀ i H' q, i < n → p i = true → Same H1 H' → (∀ H'', Same H' H'' → q (f i) H'') → te (σ0.set 0 (some (.int (0 + (i : Int))))) H' q)
    (hq : ∀ H', Same H1 H' → H' D = some (.lst (((List.range n).filter p).map f)) → Q H') : CompBody (Itr 0 n) (gName 0) tt te 1 σ0 D H1 Q := by
  refine comp_range (fun i ys H => Same H1 H ∧ H D = some (.lst ys) ∧ ys = ((List.range i).filter p).map f) ⟨Same.new hD, upd_same, rfl⟩ ?_ ?_
  · rintro i ys H hi ⟨sm, hd, rfl⟩
    refine r_name ⟨set0, ht i H _ hi sm fun H2 s2 => ?_⟩
    cases hp : p i with
    | true =>
      refine iteT (he i H2 _ hi hp (sm.trans s2) fun H3 s3 => ?_)
      refine ⟨s3 _ _ (s2 _ _ hd), small1000 ?_, Same.setp hD (sm.trans (s2.trans s3)), upd_same, ?_⟩
      · rw [List.length_map]
        have := List.length_filter_le p (List.range i)
        rw [List.length_range] at this
        omega
      · rw [List.range_succ, List.filter_append, List.map_append]
        simp [hp]
    | false =>
      refine iteF ⟨sm.trans s2, s2 _ _ hd, ?_⟩
      rw [List.range_succ, List.filter_append, List.map_append]
      simp [hp]
  · rintro ys H ⟨sm, hd, rfl⟩
    exact hq H sm hd
structure Ok4 (b ro ca we x : Addr) : Prop where
  n1 : x ≠ b
  n2 : x ≠ ro
  n3 : x ≠ ca
  n4 : x ≠ we
theorem SameB.get {b ro ca we x : Addr} {H H' : Hp} {o : HO} (s : SameB b ro ca we H H') (k : Ok4 b ro ca we x) (h : H x = some o) : H' x = some o := s x o h k.n1 k.n2 k.n3 k.n4
theorem SameB.tupS {cB b ro ca we : Addr} {H H' : Hp} {rows : List Rw} (B : BkAt cB H b ro ca we rows) (s : SameB b ro ca we H H') : TupS H H' := fun x xs e => by
  obtain ⟨⟨dx, pe, co, sp, ps, h1, h2, h3, h4, h5⟩, _⟩ := B
  exact s x _ e (ne_of e h1 (by intro z; cases z)) (ne_of e h2 (by intro z; cases z)) (ne_of e h3 (by intro z; cases z)) (ne_of e h4 (by intro z; cases z))
/-- all that was there ahead of the book -/
theorem SameB.same {b ro ca we : Addr} {H0 H H' : Hp} (s0 : Same H0 H) (n1 : H0 b = none) (n2 : H0 ro = none) (n3 : H0 ca = none) (n4 : H0 we = none) (s : SameB b ro ca we H H') : Same H0 H' := fun x o e =>
  s x o (s0 x o e) (ne_of_none e n1) (ne_of_none e n2) (ne_of_none e n3) (ne_of_none e n4)
theorem r_make {C : Addr} {sp : Sp} {dvs : List V} {E : XK} {t : TA} {σ : St} {H : Hp} {Q : VK} (q : t σ H fun vs H1 => ∀ x dx, H1 x = none → H1 dx = none → dx ≠ x →
  sp (.ref x :: (vs ++ dvs)) (upd (upd H1 dx (.own x)) x (.ins C dx [])) (fun v H2 => v = .non ∧ Q (.ref x) H2) E) : tMake C sp dvs E t σ H Q := q
theorem Same.nil {H H' : Hp} {x : Addr} (s : Same H H') (h : H' x = none) : H x = none := by
  cases e : H x with
  | none => rfl
  | some o => have := s _ _ e; rw [h] at this; cases this
theorem BkAt.setL {cB b ro ca we t : Addr} {H : Hp} {rows : List Rw} {xs ys : List V} (B : BkAt cB H b ro ca we rows) (ht : H t = some (.lst xs)) (o : Ok4 b ro ca we t) : BkAt cB (upd H t (.lst ys)) b ro ca we rows := by
  obtain ⟨⟨dx, pe, co, sp, ps, h1, h2, h3, h4, h5⟩, n1, n2, n3⟩ := B
  exact ⟨⟨dx, pe, co, sp, ps, by rw [upd_ne (Ne.symm o.n1)]; exact h1, by rw [upd_ne (Ne.symm o.n2)]; exact h2, by rw [upd_ne (Ne.symm o.n3)]; exact h3, by rw [upd_ne (Ne.symm o.n4)]; exact h4, h5.mono (TupS.lst ht)⟩, n1, n2, n3⟩
theorem Same.setL {H0 H : Hp} {t : Addr} {ys : List V} (s : Same H0 H) (n : H0 t = none) : Same H0 (upd H t (.lst ys)) := Same.setp n s
theorem upd_at {H : Hp} {p : Addr} {o : HO} (n : H p = none) : upd H p o p = some o := upd_same
end L2

set_option Elab.async false
set_option linter.all false
set_option maxRecDepth 100000
/-! the prelude that the laws of refusals share: two claims, some rounds over, perhaps one claim carried -/
namespace L2
open PySem PySem.Spec PyProof.Rows
theorem joinS {M P : St → Hp → Prop} {A : Prop} (h : (∀ σ H, M σ H → P σ H) → A) (k : ∀ σ H, M σ H → P σ H) : A := h k
theorem SameB.trans {b ro ca we : Addr} {H H1 H2 : Hp} (s : SameB b ro ca we H H1) (t : SameB b ro ca we H1 H2) : SameB b ro ca we H H2 := fun x o e x1 x2 x3 x4 => t x o (s x o e x1 x2 x3 x4) x1 x2 x3 x4
/-! the rows -/
section
variable (w0 w1 : Int)
end
variable {w0 w1 : Int}
theorem last_snoc {rows : List Rw} {r : Rw} : lastR (rows ++ [r]) = some r.day := by simp [lastR]
/-! what stays under later rows -/
structure StP (rows : List Rw) (rs : Rds) (last : Int) : Prop where
  ok : OkRows rows
  ro : roundsR rows = rs
  la : lastR rows = some last
theorem StP.add {rows : List Rw} {rs rs' : Rds} {last : Int} (h : StP rows rs last) {r : Rw} {w : Int} (e : refuseR (roundsR rows) (lastR rows) w r = none) (k : roundsR (rows ++ [r]) = rs') : StP (rows ++ [r]) rs' r.day :=
  ⟨.snoc h.ok (okPut_of e), k, last_snoc⟩
end L2

set_option Elab.async false
set_option linter.all false
set_option maxRecDepth 100000
/-! rulings with wins under the prelude -/
namespace L2
open PySem PySem.Spec PyProof.Rows
theorem ixI2 {z0 z1 : Int} {b : Bool} : atI [V.int z0, V.int z1] (if b = true then 1 else 0) = some (V.int (if b = true then z1 else z0)) := by cases b <;> rfl
/-- [f(i) for x in a list if p(i)] -/
theorem comp_listP {K : PySem.W.Frag} {a : Addr} {xs : List V} {tt : TT} {te : TE} {σ0 : St} {D : Addr} {H1 : Hp} {Q : Hp → Prop} (p : Nat → Bool) (f : Nat → V) (hD : H1 D = none) (ha : SqL K H1 a xs) (hn : xs.length ≤ 1000)
    (ht : ∀ i x H' q, xs[i]? = some x → Same H1 H' → (∀ H'', Same H' H'' → q (p i) H'') → tt (σ0.set 0 (some x)) H' q)
    (he : ∀ i x H' q, xs[i]? = some x → Same H1 H' → (∀ H'', Same H' H'' → q (f i) H'') → te (σ0.set 0 (some x)) H' q)
    (hq : ∀ H', Same H1 H' → H' D = some (.lst (((List.range xs.length).filter p).map f)) → Q H') : CompBody (Itl K a) (gName 0) tt te 1 σ0 D H1 Q := by
  refine comp_list (xs := xs) (fun i ys H => Same H1 H ∧ H D = some (.lst ys) ∧ ys = ((List.range i).filter p).map f) ⟨Same.new hD, upd_same, by simp⟩ (fun i ys H _ p => p.1.seq ha) ?_ ?_
  · rintro i x ys H hx ⟨sm, hd, rfl⟩
    have hi : i < xs.length := (List.getElem?_eq_some_iff.mp hx).1
    refine r_name ⟨set0, ht i x H _ hx sm fun H2 s2 => ?_⟩
    cases e : p i with
    | true =>
      refine iteT (he i x H2 _ hx (sm.trans s2) fun H3 s3 => ?_)
      have s23 := s2.trans s3
      refine ⟨s23 _ _ hd, small1000 (by have := List.length_filter_le p (List.range i); rw [List.length_range] at this; rw [List.length_map]; omega), Same.setp hD (sm.trans s23), upd_same, ?_⟩
      rw [List.range_succ, List.filter_append, List.map_append]
      simp [e]
    | false =>
      refine iteF ⟨sm.trans s2, s2 _ _ hd, ?_⟩
      rw [List.range_succ, List.filter_append, List.map_append]
      simp [e]
  · rintro ys H ⟨sm, hd, rfl⟩
    exact hq H sm hd
variable {w0 w1 : Int}
end L2

set_option Elab.async false
set_option linter.all false
set_option maxRecDepth 100000
/-! the book with undone rows -/
namespace L2
open PySem PySem.Spec PyProof.Rows

/-! ### entries -/
structure En where
  row : Rw
  came : Int
  went : Option Int
instance : Inhabited En := ⟨⟨.dun 0 0 0, 0, none⟩⟩
def optV : Option Int → V
  | none => .non
  | some i => .int i
def En.on (e : En) (m : Int) : Bool := decide (e.came ≤ m) && (match e.went with | none => true | some g => decide (m < g))
def keptE (es : List En) (m : Int) : List Rw := (es.filter fun e => e.on m).map En.row
theorem range_getD {α : Type} (d : α) (l : List α) : (List.range l.length).map (fun i => l.getD i d) = l := by
  apply List.ext_getElem?
  intro i
  by_cases h : i < l.length
  · simp [h]
  · simp [Nat.not_lt.mp h]
theorem filter_range {α : Type} (d : α) (l : List α) (f : α → Bool) : l.filter f = ((List.range l.length).filter fun i => f (l.getD i d)).map fun i => l.getD i d := by
  have e := range_getD d l
  generalize l.length = n at e ⊢
  have : l.filter f = ((List.range n).map (fun i => l.getD i d)).filter f := by rw [e]
  rw [this, List.filter_map]
  rfl
/-- rows taken out by their places -/
theorem RowsAt.pick {H : Hp} {ps : List Addr} {rows : List Rw} (h : RowsAt H ps rows) (ix : List Nat) (hi : ∀ i ∈ ix, i < rows.length) (d : Rw) : RowsAt H (ix.map fun i => ps.getD i 0) (ix.map fun i => rows.getD i d) := by
  refine ⟨by simp, fun j p r e1 e2 => ?_⟩
  rw [List.getElem?_map] at e1 e2
  obtain ⟨k, hk, rfl⟩ := Option.map_eq_some_iff.mp e1
  rw [hk] at e2
  cases e2
  have hlt := hi k (List.mem_of_getElem? hk)
  have hlp : k < ps.length := by rw [h.1]; exact hlt
  exact h.2 k _ _ (by simp [List.getD, hlp]) (by simp [List.getD, hlt])
structure BkA where
  (b ro ca we pe co sp : Addr)
structure BkC where
  pl : List Int
  (ct st : List (List Int))
structure BuAt (cB : Addr) (H : Hp) (A : BkA) (C : BkC) (es : List En) (dn : Int) : Prop where
  ob : ∃ dx, H A.b = some (.ins cB dx (flds A.pe A.co A.sp A.ro A.ca A.we dn))
  ro : ∃ ps, H A.ro = some (.lst (List.map V.ref ps)) ∧ RowsAt H ps (es.map En.row)
  ca : H A.ca = some (.lst (es.map fun e => V.int e.came))
  we : H A.we = some (.lst (es.map fun e => optV e.went))
  pe : H A.pe = some (.lst (List.map V.int C.pl))
  co : ∃ cs, H A.co = some (.lst (List.map V.ref cs)) ∧ TabIs H cs C.ct
  sp : ∃ cs, H A.sp = some (.lst (List.map V.ref cs)) ∧ TabIs H cs C.st
  nd : [A.ro, A.ca, A.we, A.pe, A.co, A.sp].Nodup
theorem BuAt.same {cB : Addr} {A : BkA} {C : BkC} {H H' : Hp} {es : List En} {dn : Int} (s : Same H H') (h : BuAt cB H A C es dn) : BuAt cB H' A C es dn := by
  obtain ⟨⟨dx, h1⟩, ⟨ps, h2, h2'⟩, h3, h4, h5, ⟨cs, h6, h6'⟩, ⟨cs2, h7, h7'⟩, n⟩ := h
  exact ⟨⟨dx, s _ _ h1⟩, ⟨ps, s _ _ h2, h2'.mono s.tupS⟩, s _ _ h3, s _ _ h4, s _ _ h5, ⟨cs, s _ _ h6, h6'.same s⟩, ⟨cs2, s _ _ h7, h7'.same s⟩, n⟩
abbrev SameU (A : BkA) (H H' : Hp) : Prop := SameB A.b A.ro A.ca A.we H H'
theorem SameU.refl (A : BkA) (H : Hp) : SameU A H H := fun _ _ e _ _ _ _ => e
theorem SameU.trans {A : BkA} {H H1 H2 : Hp} (a : SameU A H H1) (b : SameU A H1 H2) : SameU A H H2 := fun x o e x1 x2 x3 x4 => b x o (a x o e x1 x2 x3 x4) x1 x2 x3 x4
theorem Same.sameU {A : BkA} {H H' : Hp} (s : Same H H') : SameU A H H' := fun x o e _ _ _ _ => s x o e
abbrev Ok4U (A : BkA) (x : Addr) : Prop := Ok4 A.b A.ro A.ca A.we x
theorem SameU.tupS {cB : Addr} {A : BkA} {C : BkC} {H H' : Hp} {es : List En} {dn : Int} (B : BuAt cB H A C es dn) (s : SameU A H H') : TupS H H' := fun x xs e => by
  obtain ⟨⟨dx, h1⟩, ⟨ps, h2, _⟩, h3, h4, _⟩ := B
  exact s x _ e (ne_of e h1 (by intro z; cases z)) (ne_of e h2 (by intro z; cases z)) (ne_of e h3 (by intro z; cases z)) (ne_of e h4 (by intro z; cases z))
theorem BuAt.setL {cB t : Addr} {A : BkA} {C : BkC} {H : Hp} {es : List En} {dn : Int} {xs ys : List V} (B : BuAt cB H A C es dn) (ht : H t = some (.lst xs)) (o : Ok4U A t) (n1 : t ≠ A.pe) (n2 : t ≠ A.co) (n3 : t ≠ A.sp) : BuAt cB (upd H t (.lst ys)) A C es dn := by
  obtain ⟨⟨dx, h1⟩, ⟨ps, h2, h2'⟩, h3, h4, h5, ⟨cs, h6, h6'⟩, ⟨cs2, h7, h7'⟩, n⟩ := B
  have ts := TupS.lst (ys := ys) ht
  exact ⟨⟨dx, by rw [upd_ne (Ne.symm o.n1)]; exact h1⟩, ⟨ps, by rw [upd_ne (Ne.symm o.n2)]; exact h2, h2'.mono ts⟩, by rw [upd_ne (Ne.symm o.n3)]; exact h3, by rw [upd_ne (Ne.symm o.n4)]; exact h4, by rw [upd_ne (Ne.symm n1)]; exact h5, ⟨cs, by rw [upd_ne (Ne.symm n2)]; exact h6, h6'.tupS ts⟩, ⟨cs2, by rw [upd_ne (Ne.symm n3)]; exact h7, h7'.tupS ts⟩, n⟩
/-- all of the addresses that a book holds -/
def BkA.all (A : BkA) : List Addr := [A.b, A.ro, A.ca, A.we, A.pe, A.co, A.sp]
theorem BuAt.out {cB p : Addr} {A : BkA} {C : BkC} {H : Hp} {es : List En} {dn : Int} (B : BuAt cB H A C es dn) (h : H p = none) : p ∉ A.all := by
  obtain ⟨⟨dx, h1⟩, ⟨ps, h2, _⟩, h3, h4, h5, ⟨cs, h6, _⟩, ⟨cs2, h7, _⟩, n⟩ := B
  simp only [BkA.all, List.mem_cons, List.not_mem_nil, or_false, not_or]
  exact ⟨(fun z => by rw [z, h1] at h; cases h), (fun z => by rw [z, h2] at h; cases h), (fun z => by rw [z, h3] at h; cases h), (fun z => by rw [z, h4] at h; cases h), (fun z => by rw [z, h5] at h; cases h), (fun z => by rw [z, h6] at h; cases h), (fun z => by rw [z, h7] at h; cases h)⟩
theorem BkA.ok4 {A : BkA} {t : Addr} (o : t ∉ A.all) : Ok4U A t := by
  simp only [BkA.all, List.mem_cons, List.not_mem_nil, or_false, not_or] at o
  obtain ⟨o1, o2, o3, o4, o5, o6, o7⟩ := o
  exact ⟨o1, o2, o3, o4⟩
/-- the rows left are written anew, each as it would be -/
def AnewOk (rows : List Rw) : Prop := ∀ j (h : j < rows.length), refuseR (roundsR (rows.take j)) (lastR (rows.take j)) (j : Int) rows[j] = none
theorem lastR_take {rows : List Rw} {j : Nat} (h : j < rows.length) : lastR (rows.take (j + 1)) = some rows[j].day := by
  unfold lastR
  rw [List.take_succ_eq_append_getElem h, List.getLast?_append]
  rfl
/-! ### texts -/
def textU : Rw → Str
  | .pay _ d s p c => Txt.join " " ["pay", ts d, ts s, ts p, ts c]
  | .dun _ d s => Txt.join " " ["dun", ts d, ts s]
  | r => textR r
def FitU : Rw → Prop
  | .pay _ d s p c => Small d ∧ Small s ∧ Small p ∧ Small c
  | .dun _ d s => Small d ∧ Small s
  | _ => False
/-! ### undoing -/
def NumE (es : List En) : Prop := ∀ j (h : j < es.length), es[j].row.num = (j : Int)
def goneE (es : List En) (i g : Int) : List En := es.map fun e => if e.row.num = i then { e with went := some g } else e
end L2

set_option Elab.async false
set_option linter.all false
set_option maxRecDepth 100000
/-! rows that are payments and dunnings, some undone -/
namespace L2
open PySem PySem.Spec PyProof.Rows
def liveE (es : List En) : List Rw := (es.filter fun e => e.went.isNone).map En.row
theorem kept_live {es : List En} {dn : Int} (cm : ∀ e ∈ es, e.came ≤ dn) (wt : ∀ e ∈ es, ∀ g, e.went = some g → g ≤ dn) : keptE es dn = liveE es := by
  unfold keptE liveE
  congr 1
  refine List.filter_congr fun e he => ?_
  unfold En.on
  rw [decide_eq_true (cm e he), Bool.true_and]
  cases hw : e.went with
  | none => rfl
  | some g =>
    have := wt e he g hw
    show decide (dn < g) = false
    exact decide_eq_false (by omega)
theorem live_push {es : List En} {r : Rw} {c : Int} : liveE (es ++ [⟨r, c, none⟩]) = liveE es ++ [r] := by
  unfold liveE
  rw [List.filter_append, List.map_append]
  rfl
theorem refuse_pd {rs : Rds} {last : Option Int} {wr : Int} {r : Rw} (h : FitU r) (hw : wr < 300) (hl : lateR last r = false) : refuseR rs last wr r = none := by
  unfold refuseR
  rw [if_neg (by omega), hl]
  cases r with
  | pay n d s p c => rfl
  | dun n d s => rfl
  | _ => exact h.elim
theorem anew_pd {rows : List Rw} (h : ∀ r ∈ rows, FitU r) (hn : rows.length ≤ 300) (hs : (rows.map Rw.day).Pairwise (· ≤ ·)) : AnewOk rows := by
  intro j hj
  refine refuse_pd (h _ (List.getElem_mem hj)) (by omega) ?_
  cases j with
  | zero => rfl
  | succ j =>
    rw [lastR_take (by omega)]
    show decide (rows[j + 1].day < rows[j].day) = false
    refine decide_eq_false ?_
    have := List.pairwise_iff_getElem.mp hs j (j + 1) (by rw [List.length_map]; omega) (by rw [List.length_map]; omega) (by omega)
    rw [List.getElem_map, List.getElem_map] at this
    omega
def lastD (ks : List Rw) : Int := ((0 : Int) :: ks.map Rw.day).getLast (by simp)
theorem lastD_le {ks : List Rw} {b : Int} (h0 : 0 ≤ b) (h : ∀ r ∈ ks, r.day ≤ b) : lastD ks ≤ b := by
  unfold lastD
  have := List.getLast_mem (l := (0 : Int) :: ks.map Rw.day) (by simp)
  generalize ((0 : Int) :: ks.map Rw.day).getLast (by simp) = x at this ⊢
  rcases List.mem_cons.mp this with e | e
  · omega
  · obtain ⟨r, hr, rfl⟩ := List.mem_map.mp e
    exact h r hr
theorem lastD_nn {ks : List Rw} (h : ∀ r ∈ ks, 0 ≤ r.day) : 0 ≤ lastD ks := by
  unfold lastD
  have := List.getLast_mem (l := (0 : Int) :: ks.map Rw.day) (by simp)
  generalize ((0 : Int) :: ks.map Rw.day).getLast (by simp) = x at this ⊢
  rcases List.mem_cons.mp this with e | e
  · omega
  · obtain ⟨r, hr, rfl⟩ := List.mem_map.mp e
    exact h r hr
/-- in an ordered list no day is behind the last -/
theorem srt_lastD {ks : List Rw} (hs : (ks.map Rw.day).Pairwise (· ≤ ·)) : ∀ r ∈ ks, r.day ≤ lastD ks := by
  intro r hr
  unfold lastD
  cases ks with
  | nil => cases hr
  | cons k ks =>
    rw [List.getLast_cons (by simp)]
    obtain ⟨j, hj, rfl⟩ := List.getElem_of_mem hr
    rw [List.getLast_eq_getElem]
    by_cases e : j = (k :: ks).length - 1
    · subst e
      rw [List.getElem_map]
      simp only [List.length_map]
      exact Int.le_refl _
    · have := List.pairwise_iff_getElem.mp hs j (((k :: ks).map Rw.day).length - 1) (by rw [List.length_map]; omega) (by rw [List.length_map]; omega) (by rw [List.length_map]; omega)
      rw [List.getElem_map] at this
      exact this
structure S19 (es : List En) (dn : Int) (gone : List Int) : Prop where
  num : NumE es
  cm : ∀ e ∈ es, e.came ≤ dn
  wt : ∀ e ∈ es, ∀ g, e.went = some g → g ≤ dn
  gn : ∀ j (h : j < es.length), es[j].went = none ↔ (j : Int) ∉ gone
  gr : ∀ x ∈ gone, 0 ≤ x ∧ x < (es.length : Int)
  dl : dn = es.length + gone.length
  fit : ∀ e ∈ es, FitU e.row
  srt : ((liveE es).map Rw.day).Pairwise (· ≤ ·)
  nn : ∀ e ∈ es, 0 ≤ e.row.day ∧ e.row.day ≤ 2 * (es.length : Int)
theorem live_mem {es : List En} {r : Rw} (h : r ∈ liveE es) : ∃ e ∈ es, e.row = r ∧ e.went = none := by
  unfold liveE at h
  obtain ⟨e, he, rfl⟩ := List.mem_map.mp h
  obtain ⟨h1, h2⟩ := List.mem_filter.mp he
  exact ⟨e, h1, rfl, by simpa using h2⟩
section
variable {es : List En} {dn : Int} {gone : List Int} (S : S19 es dn gone)
include S
theorem S19.kept : keptE es dn = liveE es := kept_live S.cm S.wt
theorem S19.kfit : ∀ r ∈ liveE es, FitU r := fun r hr => by
  obtain ⟨e, he, rfl, _⟩ := live_mem hr
  exact S.fit e he
theorem S19.last_b : 0 ≤ lastD (liveE es) ∧ lastD (liveE es) ≤ 2 * (es.length : Int) :=
  ⟨lastD_nn fun r hr => by obtain ⟨e, he, rfl, _⟩ := live_mem hr; exact (S.nn e he).1, lastD_le (by omega) fun r hr => by obtain ⟨e, he, rfl, _⟩ := live_mem hr; exact (S.nn e he).2⟩
theorem S19.push {r : Rw} (hf : FitU r) (hn : r.num = es.length) (h1 : lastD (liveE es) ≤ r.day) (h2 : r.day ≤ lastD (liveE es) + 2) : S19 (es ++ [⟨r, dn + 1, none⟩]) (dn + 1) gone := by
  have lb := S.last_b
  refine ⟨fun j hj => ?_, fun e he => ?_, fun e he g hg => ?_, fun j hj => ?_, fun x hx => ?_, ?_, fun e he => ?_, ?_, fun e he => ?_⟩
  · by_cases h : j < es.length
    · rw [List.getElem_append_left h]; exact S.num j h
    · have : j = es.length := by rw [List.length_append, List.length_singleton] at hj; omega
      subst this
      rw [List.getElem_append_right (Nat.le_refl _)]
      simpa using hn
  · rcases List.mem_append.mp he with he | he
    · have := S.cm e he; omega
    · rw [List.mem_singleton.mp he]; exact Int.le_refl _
  · rcases List.mem_append.mp he with he | he
    · have := S.wt e he g hg; omega
    · rw [List.mem_singleton.mp he] at hg; cases hg
  · by_cases h : j < es.length
    · rw [List.getElem_append_left h]; exact S.gn j h
    · have : j = es.length := by rw [List.length_append, List.length_singleton] at hj; omega
      subst this
      rw [List.getElem_append_right (Nat.le_refl _)]
      refine iff_of_true (by simp) fun z => ?_
      have := S.gr _ z
      omega
  · have := S.gr x hx
    rw [List.length_append, List.length_singleton]
    exact ⟨this.1, by omega⟩
  · have := S.dl
    rw [List.length_append, List.length_singleton]
    omega
  · rcases List.mem_append.mp he with he | he
    · exact S.fit e he
    · rw [List.mem_singleton.mp he]; exact hf
  · rw [live_push, List.map_append, List.pairwise_append]
    refine ⟨S.srt, by simp, fun x hx y hy => ?_⟩
    obtain ⟨r', hr', rfl⟩ := List.mem_map.mp hx
    have := srt_lastD S.srt r' hr'
    simp only [List.map_cons, List.map_nil, List.mem_singleton] at hy
    omega
  · rw [List.length_append, List.length_singleton]
    rcases List.mem_append.mp he with he | he
    · have := S.nn e he; exact ⟨this.1, by omega⟩
    · rw [List.mem_singleton.mp he]; exact ⟨by show 0 ≤ r.day; omega, by show r.day ≤ _; omega⟩
theorem S19.anew {i : Int} (hn : es.length ≤ 300) : AnewOk ((liveE es).filter fun r => decide (r.num ≠ i)) := by
  refine anew_pd (fun r hr => S.kfit r (List.mem_filter.mp hr).1) ?_ (S.srt.sublist (List.filter_sublist.map _))
  have h1 : (liveE es).length ≤ es.length := by unfold liveE; rw [List.length_map]; exact List.length_filter_le _ _
  have h2 := List.length_filter_le (fun r : Rw => decide (r.num ≠ i)) (liveE es)
  omega
end
theorem S19.nil : S19 [] 0 [] := by
  refine ⟨fun j h => ?_, fun e he => ?_, fun e he => ?_, fun j h => ?_, fun x h => ?_, rfl, fun e he => ?_, List.Pairwise.nil, fun e he => ?_⟩
  · cases h
  · cases he
  · cases he
  · cases h
  · cases h
  · cases he
  · cases he
end L2

-- CHANGE: your row's module here, as the last of these rows
set_option Elab.async false
set_option linter.all false
set_option maxRecDepth 100000
/-! THE HAND LAYER, for ints, bools, texts, own classes, DICTS (int and text keys), calls, loops. Paste it whole ahead of your own text; what your proof does not reach may be deleted. -/
namespace L2
open PySem PySem.Spec PyProof.Rows
end L2
namespace L2
open PySem PySem.Spec PyProof.Rows
section
variable (P : Program) (w : World)
end
section
variable {P : Program} {w : World} {H H' : Hp} {h h' : Heap} {a : Addr} {o : HO}
end
section
variable {P : Program} {w : World} {H : Hp} {h h' : Heap} {x e : Addr} {o' : HO}
end
/-! ### kept unless tracked; of the frames at fs (the callers') the slots may change (an exception that passes writes there); of the records at ex (iterators) nothing is said -/
section
variable {fs fs' ex ex' : List Addr} {H H1 H2 : Hp} {h h1 h2 h' : Heap} {a x e : Addr} {o : HO}
end
/-! ### the heap without what is tracked -/
/-! ### OpenK's ledger, filled with every new object but one -/
end L2
namespace L2
open PySem PySem.Spec PyProof.Rows
section
variable {X : Cx} {pins : List (Addr × Obj)} {σ : List (Option V)} {H H' : Hp} {s : Shared} {h' : Heap}
end
/-! ### the judgements -/
end L2
namespace L2
open PySem PySem.Spec PyProof.Rows
section
variable {X : Cx}
/-! ### names and constants -/
/-! ### arithmetic -/
variable {a b : Expr} {ta tb : TE} {pos : Pos}
/-! ### comparisons -/
/-! ### and, or, not -/
variable {tA tB' : TT} {rest : List Expr}
end
end L2
namespace L2
open PySem PySem.Spec PyProof.Rows
/-! ### a list, a tuple that is read: tracked, frozen, or an object of the module -/
section
variable {X : Cx} {pins : List (Addr × Obj)} {σ : St} {H : Hp} {s : Shared} {a : Addr} {xs ys : List V}
end
/-! ### another wish about exceptions -/
section
variable {X : Cx} {pins : List (Addr × Obj)} {σ : St} {H : Hp} {s : Shared} {E : Value → Shared → Prop}
end
/-! ### blocks and small statements -/
section
variable {X : Cx} {st : Stmt} {rest : List Stmt} {t u : TS} {e : Expr} {te : TE} {pos : Pos}
end
/-! ### targets -/
section
variable {X : Cx} {pos : Pos}
end
/-! ### while -/
section
variable {X : Cx} {pos : Pos}
end
/-! ### what a loop or a comprehension walks -/
end L2
namespace L2
open PySem PySem.Spec PyProof.Rows
section
variable {X : Cx} {tg : Expr}
/-! ### for -/
end
/-! ### the forms one uses -/
end L2
namespace L2
open PySem PySem.Spec PyProof.Rows
section
variable {X : Cx} {a b c : Expr} {ta tb tc : TE} {pos : Pos}
/-! ### ints -/
/-! ### bools among ints: n += (a < b) -/
end
/-! ### comparisons -/
section
variable {X : Cx} {a b c : Expr} {ta tb tc : TE} {pos : Pos}
/-! ### truth -/
/-! ### strs and bytes -/
/-! ### scalar builtins, by CallR -/
end
end L2
namespace L2
open PySem PySem.Spec PyProof.Rows
/-! ### an instance, its attributes a map -/
section
variable {prog : Program} {w : World} {A : Around} {E : Value → Shared → Prop} {s : Shared} {K : PySem.W.Frag} {x dx C f : Addr} {mA : Str → Option Value} {name : Str} {v : Value}
end
/-! ### the attributes as a list of pairs -/
section
variable {P : Program} {w : World} {H H' : Hp} {h h' : Heap} {a C dx : Addr} {fs fs' : List (Str × V)}
end
/-! ### what of the text a class must have -/
section
variable {X : Cx} {pins : List (Addr × Obj)} {σ : St} {H : Hp} {s : Shared} {a C dx : Addr} {fs : List (Str × V)} {f : Str} {v : V} {A : Around} {E : Value → Shared → Prop}
end
/-! ### readings and rules -/
section
variable {X : Cx} {o e value : Expr} {f : Str} {pos pos' tpos : Pos} {ta tv : TE}
end
/-! ### isinstance -/
section
variable {X : Cx} {pins : List (Addr × Obj)} {σ : St} {H : Hp} {s : Shared} {A : Around} {E : Value → Shared → Prop} {Q : Value → Shared → Prop} {c : Value} {b : Bool}
end
end L2
namespace L2
open PySem PySem.Spec PyProof.Rows
/-! ### room -/
/-! ### argument lists and displays -/
section
variable {X : Cx} {e : Expr} {es : List Expr} {te : TE} {t : TA} {pos : Pos}
end
/-! ### what a def promises -/
section
variable {X : Cx} {pins : List (Addr × Obj)} {σ : St} {H : Hp} {s s' : Shared}
end
/-! ### calls -/
section
variable {X : Cx} {CX : CXT} {k : Nat} {f C : Addr} {fd : FuncData} {ps : List Str} {sp : Sp} {dvs : List V} {ds : List Value} {E : XK} {x m : Str} {p pos apos : Pos} {e o : Expr} {es : List Expr} {ta : TE} {t : TA}
end
/-! ### keywords -/
section
variable {X : Cx} {CX : CXT} {k : Nat} {f C : Addr} {fd : FuncData} {ps ks : List Str} {sp : Sp} {E : XK} {x m : Str} {p pos apos kpos : Pos} {e o : Expr} {es : List Expr} {kws : List Keyword} {te ta : TE} {t tk : TA} {nm : Option Str}
variable {g : List Value → List Value → List Value} {gV : List V → List V → List V}
end
/-! ### a def's body keeps its promise -/
end L2
namespace L2
open PySem PySem.Spec PyProof.Rows
section
variable {X : Cx} {x : Str} {p pos : Pos} {e : Expr} {es : List Expr} {t : TA} {id T : String} {r : List V → Hp → VK → Prop}
end
end L2
namespace L2
open PySem PySem.Spec PyProof.Rows
/-! ### lists of pairs as tables -/
section
variable {κ : Type} [DecidableEq κ]
def valV (kvs : List (κ × V)) (k : κ) : Option V := (kvs.find? fun kv => decide (kv.1 = k)).map (·.2)
/-- in its place, or at the end -/
def putK (kvs : List (κ × V)) (k : κ) (v : V) : List (κ × V) :=
  if (kvs.any fun kv => decide (kv.1 = k)) = true then kvs.map (fun kv => if kv.1 = k then (kv.1, v) else kv) else kvs ++ [(k, v)]
def dropK (kvs : List (κ × V)) (k : κ) : List (κ × V) := kvs.filter fun kv => decide (kv.1 ≠ k)

theorem valV_pos {p : κ × V} {r : List (κ × V)} {k : κ} (e : p.1 = k) : valV (p :: r) k = some p.2 := by simp [valV, List.find?_cons, e]
theorem valV_neg {p : κ × V} {r : List (κ × V)} {k : κ} (e : ¬ p.1 = k) : valV (p :: r) k = valV r k := by simp [valV, List.find?_cons, e]
theorem valV_any (k : κ) : ∀ kvs : List (κ × V), (kvs.any fun kv => decide (kv.1 = k)) = (valV kvs k).isSome
  | [] => rfl
  | p :: r => by
    rw [List.any_cons]
    by_cases e : p.1 = k
    · simp only [valV_pos e, decide_eq_true e, Bool.true_or, Option.isSome_some]
    · rw [valV_neg e, decide_eq_false e, Bool.false_or]; exact valV_any k r
theorem valV_map (k j : κ) (y : V) : ∀ kvs : List (κ × V), valV (kvs.map fun kv => if kv.1 = k then (kv.1, y) else kv) j = (valV kvs j).map fun x => if j = k then y else x
  | [] => rfl
  | p :: r => by
    have ih := valV_map k j y r
    rw [List.map_cons]
    by_cases h : p.1 = k
    · rw [if_pos h]
      by_cases e : p.1 = j
      · rw [valV_pos (p := (p.1, y)) e, valV_pos e, Option.map_some, if_pos (e.symm.trans h)]
      · rw [valV_neg (p := (p.1, y)) e, valV_neg e, ih]
    · rw [if_neg h]
      by_cases e : p.1 = j
      · rw [valV_pos (p := p) e, valV_pos e, Option.map_some, if_neg (fun z => h (e.trans z))]
      · rw [valV_neg (p := p) e, valV_neg e, ih]
theorem valV_snoc (k j : κ) (y : V) : ∀ kvs : List (κ × V), valV kvs k = none → valV (kvs ++ [(k, y)]) j = if j = k then some y else valV kvs j
  | [], _ => by
    by_cases e : k = j
    · rw [if_pos e.symm]; exact valV_pos (p := (k, y)) e
    · rw [if_neg (fun z => e z.symm)]; exact valV_neg (p := (k, y)) e
  | p :: r, hn => by
    rw [List.cons_append]
    have hk : ¬ p.1 = k := fun z => by rw [valV_pos z] at hn; cases hn
    rw [valV_neg hk] at hn
    have ih := valV_snoc k j y r hn
    by_cases e : p.1 = j
    · rw [valV_pos e, valV_pos e, if_neg (fun z => hk (e.trans z))]
    · rw [valV_neg e, valV_neg e, ih]
theorem valV_put (kvs : List (κ × V)) (k j : κ) (y : V) : valV (putK kvs k y) j = if j = k then some y else valV kvs j := by
  unfold putK
  by_cases a : (kvs.any fun kv => decide (kv.1 = k)) = true
  · rw [if_pos a, valV_map]
    rw [valV_any] at a
    by_cases e : j = k
    · obtain ⟨x, hx⟩ := Option.isSome_iff_exists.mp a
      rw [if_pos e, e, hx, Option.map_some, if_pos rfl]
    · rw [if_neg e]
      cases valV kvs j with
      | none => rfl
      | some x => rw [Option.map_some, if_neg e]
  · rw [if_neg a]
    refine valV_snoc k j y kvs ?_
    rw [valV_any] at a
    cases q : valV kvs k with
    | none => rfl
    | some x => rw [q] at a; exact (a rfl).elim
theorem length_putK (kvs : List (κ × V)) (k : κ) (v : V) : (putK kvs k v).length ≤ kvs.length + 1 := by
  unfold putK
  split
  · rw [List.length_map]; omega
  · rw [List.length_append, List.length_cons, List.length_nil]; omega
theorem RelO.isSome_eq {o : Option V} {u : Option Value} (r : RelO o u) : o.isSome = u.isSome := by
  cases o with
  | none => cases u with
    | none => rfl
    | some _ => exact (show False from r).elim
  | some _ => cases u with
    | none => exact (show False from r).elim
    | some _ => rfl
theorem RelO.getD {o : Option V} {u : Option Value} {d : V} {d' : Value} (r : RelO o u) (rd : RelV d d') : RelV (o.getD d) (u.getD d') := by
  cases o with
  | none => cases u with
    | none => exact rd
    | some _ => exact (show False from r).elim
  | some _ => cases u with
    | none => exact (show False from r).elim
    | some _ => exact r

/-- raw tables of the same keys -/
theorem KV.val {kvs : List (κ × V)} {vs : List (κ × Value)} (r : KV kvs vs) (k : κ) : RelO (valV kvs k) (valueAt vs k) := by
  unfold KV at r
  induction r with
  | nil => exact True.intro
  | @cons p q ps qs h t ih =>
    obtain ⟨h1, h2⟩ := h
    by_cases e : p.1 = k
    · have e' : q.1 = k := h1.symm.trans e
      have b : valueAt (q :: qs) k = some q.2 := by simp [valueAt, List.find?_cons, e']
      rw [valV_pos e, b]; exact h2
    · have e' : ¬ q.1 = k := fun z => e (h1.trans z)
      have b : valueAt (q :: qs) k = valueAt qs k := by simp [valueAt, List.find?_cons, e']
      rw [valV_neg e, b]; exact ih
theorem KV.any {kvs : List (κ × V)} {vs : List (κ × Value)} (r : KV kvs vs) (k : κ) : (kvs.any fun kv => decide (kv.1 = k)) = vs.any fun kv => decide (kv.1 = k) := by
  unfold KV at r
  induction r with
  | nil => rfl
  | cons h t ih => rw [List.any_cons, List.any_cons, ih, h.1]
theorem KV.repl {kvs : List (κ × V)} {vs : List (κ × Value)} (r : KV kvs vs) (k : κ) {y : V} {u : Value} (ry : RelV y u) :
    KV (kvs.map fun kv => if kv.1 = k then (kv.1, y) else kv) (vs.map fun kv => if kv.1 = k then (kv.1, u) else kv) := by
  unfold KV at r ⊢
  induction r with
  | nil => exact .nil
  | @cons p q ps qs h t ih =>
    rw [List.map_cons, List.map_cons]
    refine .cons ?_ ih
    obtain ⟨h1, h2⟩ := h
    by_cases e : p.1 = k
    · rw [if_pos e, if_pos (h1.symm.trans e)]; exact ⟨h1, ry⟩
    · rw [if_neg e, if_neg (fun z => e (h1.trans z))]; exact ⟨h1, h2⟩
theorem KV.put {kvs : List (κ × V)} {vs : List (κ × Value)} (r : KV kvs vs) (k : κ) {y : V} {u : Value} (ry : RelV y u) : KV (putK kvs k y) (stored vs k u) := by
  unfold putK stored
  rw [r.any k]
  by_cases e : (vs.any fun kv => decide (kv.1 = k)) = true
  · rw [if_pos e, if_pos e]; exact r.repl k ry
  · rw [if_neg e, if_neg e]; exact Paired.snoc r ⟨rfl, ry⟩
theorem KV.drop {kvs : List (κ × V)} {vs : List (κ × Value)} (r : KV kvs vs) (k : κ) : KV (dropK kvs k) (without vs k) := by
  unfold KV at r ⊢
  unfold dropK without
  induction r with
  | nil => exact .nil
  | @cons p q ps qs h t ih =>
    obtain ⟨h1, h2⟩ := h
    rw [List.filter_cons, List.filter_cons]
    by_cases e : p.1 = k
    · have a : ¬ decide (p.1 ≠ k) = true := by simp [e]
      have b : ¬ decide (q.1 ≠ k) = true := by simp [h1.symm.trans e]
      rw [if_neg a, if_neg b]; exact ih
    · have e' : ¬ q.1 = k := fun z => e (h1.trans z)
      have a : decide (p.1 ≠ k) = true := by simp [e]
      have b : decide (q.1 ≠ k) = true := by simp [e']
      rw [if_pos a, if_pos b]; exact .cons ⟨h1, h2⟩ ih
theorem KV.keys {kvs : List (κ × V)} {vs : List (κ × Value)} (r : KV kvs vs) : kvs.map (·.1) = vs.map (·.1) := by
  unfold KV at r
  induction r with
  | nil => rfl
  | cons h t ih => rw [List.map_cons, List.map_cons, ih, h.1]
theorem KV.length {kvs : List (κ × V)} {vs : List (κ × Value)} (r : KV kvs vs) : kvs.length = vs.length := Paired.length r
end
/-! ### a tracked dict, its keys ints and texts or tuples of these -/
theorem kV_is {P : Program} {w : World} {k : Key} {u : Value} (r : RelV (kV k) u) : (mixKind P w).is k u = true := by
  cases k with
  | inl i => obtain ⟨t, e⟩ := (show ∃ t, u = Value.int i t from r); subst e; exact mixKind_int P w i t
  | inr x => obtain ⟨t, e⟩ := (show ∃ t, u = Value.str x t from r); subst e; exact mixKind_str P w x t
theorem items_are {P : Program} {w : World} : ∀ {ks : List Key} {us : List Value}, Vals (ks.map kV) us → ItemsAre (mixKind P w) ks us
  | [], _, r => by rw [List.map_nil] at r; cases r; exact .nil
  | k :: ks, _, r => by
    rw [List.map_cons] at r
    cases r with
    | cons h t => exact .cons (kV_is h) (items_are t)

/-- raw entries of a dict with tuple keys -/
abbrev KT (H : Hp) : List (List Key × V) → List (List Key × Addr × Value) → Prop := Paired fun p q => p.1 = q.1 ∧ H q.2.1 = some (.tup (p.1.map kV)) ∧ RelV p.2 q.2.2
theorem KT.val {H : Hp} {kvs : List (List Key × V)} {xs : List (List Key × Addr × Value)} (r : KT H kvs xs) (k : List Key) : RelO (valV kvs k) ((atKey xs k).map (·.2)) := by
  induction r with
  | nil => exact True.intro
  | @cons p q ps qs h t ih =>
    obtain ⟨h1, _, h2⟩ := h
    by_cases e : p.1 = k
    · have e' : q.1 = k := h1.symm.trans e
      have b : atKey (q :: qs) k = some q.2 := by simp [atKey, List.find?_cons, e']
      rw [valV_pos e, b]; exact h2
    · have e' : ¬ q.1 = k := fun z => e (h1.trans z)
      have b : atKey (q :: qs) k = atKey qs k := by simp [atKey, List.find?_cons, e']
      rw [valV_neg e, b]; exact ih
theorem KT.repl {H : Hp} {kvs : List (List Key × V)} {xs : List (List Key × Addr × Value)} (r : KT H kvs xs) (k : List Key) {y : V} {u : Value} (ry : RelV y u) :
    KT H (kvs.map fun kv => if kv.1 = k then (kv.1, y) else kv) (xs.map (putAt k u)) := by
  induction r with
  | nil => exact .nil
  | @cons p q ps qs h t ih =>
    rw [List.map_cons, List.map_cons]
    refine .cons ?_ ih
    obtain ⟨h1, h2, h3⟩ := h
    unfold putAt
    by_cases e : p.1 = k
    · rw [if_pos e, if_pos (h1.symm.trans e)]; exact ⟨h1, h2, ry⟩
    · rw [if_neg e, if_neg (fun z => e (h1.trans z))]; exact ⟨h1, h2, h3⟩
theorem KT.put {H : Hp} {kvs : List (List Key × V)} {xs : List (List Key × Addr × Value)} (r : KT H kvs xs) (k : List Key) {b : Addr} {y : V} {u : Value} (hb : H b = some (.tup (k.map kV))) (ry : RelV y u) :
    KT H (putK kvs k y) (storedH xs k b u) := by
  have e : (kvs.any fun kv => decide (kv.1 = k)) = (atKey xs k).isSome := by
    rw [valV_any, (r.val k).isSome_eq, Option.isSome_map]
  unfold putK storedH
  rw [e]
  by_cases q : (atKey xs k).isSome = true
  · rw [if_pos q, if_pos q]; exact r.repl k ry
  · rw [if_neg q, if_neg q]; exact Paired.snoc r ⟨rfl, hb, ry⟩
theorem KT.keeps {H H' : Hp} {kvs : List (List Key × V)} {xs : List (List Key × Addr × Value)} (r : KT H kvs xs) (ht : ∀ b ys, H b = some (.tup ys) → H' b = some (.tup ys)) : KT H' kvs xs :=
  Paired.mapP r fun _ _ z => ⟨z.1, ht _ _ z.2.1, z.2.2⟩

section
variable {P : Program} {w : World} {H : Hp} {h : Heap} {a : Addr}
theorem rd_of {u : HO} (ok : HOk P w H h) (e : Rd H a u) : ObjOk P w H h a u := e.ok ok
theorem dk_rd {kvs : List (Key × V)} (ok : HOk P w H h) (e : Rd H a (.dK kvs)) : kvs.length ≤ sizeLine ∧ (a == sysModules) = false ∧ ∃ vs, KV kvs vs ∧ h.DictOf (mixKind P w) a vs :=
  show ObjOk P w H h a (.dK kvs) from rd_of ok e
theorem dk_of {kvs : List (Key × V)} (ok : HOk P w H h) (e : H a = some (.dK kvs)) : kvs.length ≤ sizeLine ∧ (a == sysModules) = false ∧ ∃ vs, KV kvs vs ∧ h.DictOf (mixKind P w) a vs := dk_rd ok (.inl e)
/-- a tracked tuple of ints and texts is a key -/
theorem key_of {ks : List Key} (ok : HOk P w H h) (e : H a = some (.tup (ks.map kV))) : (tupleKind (mixKind P w)).is h ks a := by
  obtain ⟨_, its, r, o, h1, h2, n, h3⟩ := (show ObjOk P w H h a (.tup (ks.map kV)) from ok a _ e)
  exact ⟨o, its.toArray, n, h1, h2, h3, by simpa using items_are r⟩
theorem dt_rd {kvs : List (List Key × V)} (ok : HOk P w H h) (e : Rd H a (.dT kvs)) : kvs.length ≤ sizeLine ∧ (a == sysModules) = false ∧
    ∃ xs, KT H kvs xs ∧ h.DictOfH (tupleKind (mixKind P w)) a xs := by
  obtain ⟨z, y, xs, r, o, es, ep, h1, h2, h3, h4, h5⟩ := (show ObjOk P w H h a (.dT kvs) from rd_of ok e)
  refine ⟨z, y, xs, r, o, es, ep, h1, h2, h3, h4, fun x hx => ?_, h5⟩
  have all : ∀ {l : List (List Key × V)} {m : List (List Key × Addr × Value)}, KT H l m → ∀ x ∈ m, (tupleKind (mixKind P w)).is h x.1 x.2.1 := by
    intro l m q
    induction q with
    | nil => intro x hx; exact nomatch hx
    | @cons p q ps qs hq t ih =>
      intro x hx
      rcases List.mem_cons.mp hx with e | hx
      · subst e
        exact key_of ok (by rw [← hq.1]; exact hq.2.1)
      · exact ih x hx
  exact all r x hx
theorem dt_of {kvs : List (List Key × V)} (ok : HOk P w H h) (e : H a = some (.dT kvs)) : kvs.length ≤ sizeLine ∧ (a == sysModules) = false ∧
    ∃ xs, KT H kvs xs ∧ h.DictOfH (tupleKind (mixKind P w)) a xs := dt_rd ok (.inl e)
end
/-- what the dict at a holds at the key y -/
def DGet (H : Hp) (a : Addr) (y : V) (r : Option V) : Prop :=
  (∃ kvs k, Rd H a (.dK kvs) ∧ y = kV k ∧ r = valV kvs k) ∨ ∃ kvs k b, Rd H a (.dT kvs) ∧ y = .ref b ∧ H b = some (.tup (k.map kV)) ∧ r = valV kvs k
/-- the heap behind a[y] = v -/
def DPut (H : Hp) (a : Addr) (y v : V) (H' : Hp) : Prop :=
  (∃ kvs k, H a = some (.dK kvs) ∧ y = kV k ∧ kvs.length < sizeLine ∧ H' = upd H a (.dK (putK kvs k v))) ∨
  ∃ kvs k b, H a = some (.dT kvs) ∧ y = .ref b ∧ H b = some (.tup (k.map kV)) ∧ kvs.length < sizeLine ∧ H' = upd H a (.dT (putK kvs k v))
theorem DGet.k {H : Hp} {a : Addr} {kvs : List (Key × V)} {k : Key} (e : H a = some (.dK kvs)) : DGet H a (kV k) (valV kvs k) := .inl ⟨kvs, k, .inl e, rfl, rfl⟩
theorem DGet.t {H : Hp} {a b : Addr} {kvs : List (List Key × V)} {k : List Key} (e : H a = some (.dT kvs)) (eb : H b = some (.tup (k.map kV))) : DGet H a (.ref b) (valV kvs k) := .inr ⟨kvs, k, b, .inl e, rfl, eb, rfl⟩
theorem DPut.k {H : Hp} {a : Addr} {kvs : List (Key × V)} {k : Key} {v : V} (e : H a = some (.dK kvs)) (hl : kvs.length < sizeLine) : DPut H a (kV k) v (upd H a (.dK (putK kvs k v))) := .inl ⟨kvs, k, e, rfl, hl, rfl⟩
theorem DPut.t {H : Hp} {a b : Addr} {kvs : List (List Key × V)} {k : List Key} {v : V} (e : H a = some (.dT kvs)) (eb : H b = some (.tup (k.map kV))) (hl : kvs.length < sizeLine) :
    DPut H a (.ref b) v (upd H a (.dT (putK kvs k v))) := .inr ⟨kvs, k, b, e, rfl, eb, hl, rfl⟩


section
variable {X : Cx} {pins : List (Addr × Obj)} {σ : St} {H : Hp} {s : Shared} {a : Addr} {y v : V} {u r : Value} {o : Option V} {A : Around} {E : Value → Shared → Prop}
theorem Inv.big (I : Inv X pins σ H s) : sysModules < s.heap.objs.size := by
  have h : mainGlobals < s.heap.objs.size := (I.mod.glob.keeps I.bk).lt
  exact Nat.lt_trans (by decide) h

/-- d[y], there -/
theorem d_getItem {Q : Value → Shared → Prop} (hu : A.units + 1 < cLine) (I : Inv X pins σ H s) (g : DGet H a y (some v)) (ry : RelV y u) (h : ∀ w' s', Inv X pins σ H s' → RelV v w' → Q w' s') :
    wpAny (model X.prog X.w) A (getItem (.ref a) u) Q E s := by
  rcases g with ⟨kvs, k, e, ey, l⟩ | ⟨kvs, k, b, e, ey, eb, l⟩
  · subst ey
    obtain ⟨z, hd, vs, rel, dd⟩ := dk_rd I.hok e
    obtain ⟨w', hw, rw'⟩ := RelO.some_of (v := v) (o := valueAt vs k) (by rw [l]; exact rel.val k)
    exact wpAny_getItem_of (kV_is ry) dd.mapOf hw (h w' _ (I.tok _) rw')
  · subst ey
    cases (show u = Value.ref b from ry)
    obtain ⟨z, hd, xs, rel, dd⟩ := dt_rd I.hok e
    obtain ⟨w', hw, rw'⟩ := RelO.some_of (v := v) (o := (atKey xs k).map (·.2)) (by rw [l]; exact rel.val k)
    obtain ⟨p, hp, hp2⟩ := Option.map_eq_some_iff.mp hw
    refine wpAny_getItem_heap (tupleKind_room_in1 hu) (key_of I.hok eb) dd hp ?_
    rw [hp2]
    exact h w' _ (I.tok _) rw'
/-- a dict's object is replaced -/
theorem d_write {h' : Heap} {t' : Nat} {ob : HO} (I : Inv X pins σ H s) (mu : Mut (H a)) (hs : Heap.SameBut a s.heap h') (he : ∃ q, h'.get? a = some q) (new : ObjOk X.prog X.w (upd H a ob) h' a ob) :
    Inv X pins σ (upd H a ob) { s with heap := h', toks := t' } :=
  I.write (x := a) (e := a) mu (.inl rfl) (fun b q hb z => (hs.2 b hb).trans z) he new
theorem dk_new {P : Program} {w : World} {H' : Hp} {h' : Heap} {kvs : List (Key × V)} {vs : List (Key × Value)} (z : kvs.length ≤ sizeLine) (hd : (a == sysModules) = false) (rel : KV kvs vs) (dd : h'.DictOf (mixKind P w) a vs) :
    ObjOk P w H' h' a (.dK kvs) := ⟨z, hd, vs, rel, dd⟩
/-- d[y] = v -/
theorem d_setItem {H' : Hp} {Q : Unit → Shared → Prop} (hu : A.units + 1 < cLine) (I : Inv X pins σ H s) (g : DPut H a y v H') (ry : RelV y u) (rv : RelV v r) (h : ∀ s', Inv X pins σ H' s' → Q () s') :
    wpAny (model X.prog X.w) A (setItem (.ref a) u r) Q E s := by
  rcases g with ⟨kvs, k, e, ey, l, eH⟩ | ⟨kvs, k, b, e, ey, eb, l, eH⟩
  · subst ey eH
    obtain ⟨z, hd, vs, rel, dd⟩ := dk_of I.hok e
    have hz : vs.length ≤ sizeLine := by rw [← rel.length]; exact z
    have hl : (putK kvs k v).length ≤ sizeLine := by have := length_putK kvs k v; omega
    refine wpAny_setItem_pairs (hsz := hz) (kV_is ry) dd fun h' dd' hs => h _ ?_
    have he : ∃ q, h'.get? a = some q := let ⟨q, _, _, hq, _⟩ := dd'; ⟨q, hq⟩
    exact d_write I (by rw [e]; exact True.intro) hs he (dk_new hl hd (rel.put k rv) dd')
  · subst ey eH
    cases (show u = Value.ref b from ry)
    obtain ⟨z, hd, xs, rel, dd⟩ := dt_of I.hok e
    have hz : xs.length ≤ sizeLine := by rw [← Paired.length rel]; exact z
    have hl : (putK kvs k v).length ≤ sizeLine := by have := length_putK kvs k v; omega
    refine wpAny_setItem_heap (hsz := hz) (tupleKind_room_in1 hu) (key_of I.hok eb) dd fun h' dd' hs => h _ ?_
    obtain ⟨q, es, ep, hq, h2, h3, h4, _, h5⟩ := dd'
    refine d_write I (by rw [e]; exact True.intro) hs ⟨q, hq⟩ ⟨hl, hd, _, (rel.put k eb rv).keeps fun c ys ec => ?_, q, es, ep, hq, h2, h3, h4, h5⟩
    rw [upd_ne (ne_of ec e (fun z => nomatch z))]
    exact ec
end
section
variable {X : Cx} {pins : List (Addr × Obj)} {σ : St} {H : Hp} {s : Shared} {a : Addr} {kvs : List (Key × V)} {k : Key} {u : Value} {A : Around} {E : Value → Shared → Prop}
end
/-! ### readings and rules -/
/-- the element of a subscription, not a slice -/
def NoSl (i : Expr) : Prop := ∀ ov iv, subscripted i false ov iv = operate [ov, iv] (getItem ov iv)
theorem subD_of {prog : Program} {w : World} {A : Around} {E : Value → Shared → Prop} {s : Shared} {env : Env} {value slice : Expr} {pos : Pos} {T id : String} {Q : Value → Shared → Prop}
    (hl : typeLookup (.type T) "__getitem__" = pure (some (.builtin id))) (hs : NoSl slice)
    (h : wpAny (model prog w) A (eval value env) (fun o s₁ => wpAny (model prog w) A (eval slice env) (fun i s₂ => s₂.TypeIs o T ∧ wpAny (model prog w) A (getItem o i) Q E s₂) E s₁) E s) :
    wpAny (model prog w) A (eval (.Subscript value slice pos) env) Q E s := by
  refine Subscript_ (wpAny_mono h (fun o s₁ h₁ => wpAny_mono h₁ (fun i s₂ h₂ => ?_) fun _ _ x => x) fun _ _ x => x)
  obtain ⟨hT, h₂⟩ := h₂
  unfold subscriptTail
  refine wpAny_bind ?_
  rw [getitemInPython_of_ne hT.not_modules]
  refine wpAny_bind (wpAny_specialOf hT hl ?_)
  have fin : wpAny (model prog w) A (subscripted slice false o i) (fun r s₃ => wpAny (model prog w) A (letTemporaryGo value o r >>= fun _ => pure r) Q E s₃) E s₂ := by
    rw [hs o i]
    exact wpAny_operating (wpAny_mono h₂ (fun r s₃ h₃ => wpAny_bind (wpAny_letTemporaryGo (wpAny_pure h₃))) fun _ _ x => x)
  first
    | exact wpAny_pure (wpAny_bind fin)
    | exact wpAny_bind (wpAny_pure (wpAny_bind fin))
    | exact wpAny_bind fin

theorem dict_typeIs {X : Cx} {pins : List (Addr × Obj)} {σ : St} {H : Hp} {s : Shared} {a : Addr} {y : V} {o : Option V} (I : Inv X pins σ H s) (g : DGet H a y o) : s.TypeIs (.ref a) "dict" := by
  rcases g with ⟨kvs, k, e, _, _⟩ | ⟨kvs, k, b, e, _, _, _⟩
  · obtain ⟨_, _, vs, _, dd⟩ := dk_rd I.hok e
    exact dd.typeIs
  · obtain ⟨_, _, xs, _, dd⟩ := dt_rd I.hok e
    exact dd.typeIs
/-- d[y] -/
def tDGet (td ty : TE) : TE := fun σ H Q => td σ H fun x H1 => ty σ H1 fun y H2 => ∃ a v, x = .ref a ∧ DGet H2 a y (some v) ∧ Q v H2
/-- d[y] = v -/
def sDPut (td ty tv : TE) : TS := fun D σ H => tv σ H fun v H1 => td σ H1 fun x H2 => ty σ H2 fun y H3 => ∃ a H4, x = .ref a ∧ DPut H3 a y v H4 ∧ D.nx σ H4
section
variable {X : Cx} {o i e value : Expr} {pos pos' tpos : Pos} {td ty tv : TE}
theorem pe_dget (hu : X.A.units + 1 < cLine) (ho : PE X o td) (hi : PE X i ty) (hs : NoSl i) : PE X (.Subscript o i pos) (tDGet td ty) := by
  intro pins s σ H Q I h
  refine subD_of PySem.F.slot_dict_getitem.lookup hs (thn (ho pins s σ H _ I h) fun u s1 ⟨x, H1, I1, rx, q1⟩ => thn (hi pins s1 σ H1 _ I1 q1) fun iv s2 ⟨y, H2, I2, ry, a, v, ex, g, q2⟩ => ?_)
  subst ex
  obtain rfl : u = Value.ref a := rx
  exact ⟨dict_typeIs I2 g, d_getItem hu I2 g ry fun w' s3 I3 rw' => ⟨v, H2, I3, rw', q2⟩⟩
theorem ps_dput (hu : X.A.units + 1 < cLine) (ho : PE X o td) (hi : PE X i ty) (hv : PE X value tv) (hs : swapsWith value (some (.Subscript o i pos')) pos.line X.env = pure false) :
    PS X (.Assign [.Subscript o i pos'] value pos) (sDPut td ty tv) := by
  intro pins s σ H D I h
  refine wpAny_Assign_Subscript (thn (hv pins s σ H _ I h) fun r s1 ⟨v, H1, I1, rv, q1⟩ => thn (ho pins s1 σ H1 _ I1 q1) fun u s2 ⟨x, H2, I2, rx, q2⟩ => thn (hi pins s2 σ H2 _ I2 q2) fun iv s3 ⟨y, H3, I3, ry, a, H4, ex, g, q3⟩ => ?_) hs
  subst ex
  obtain rfl : u = Value.ref a := rx
  exact d_setItem hu I3 g ry rv fun s4 I4 => ⟨σ, H4, I4, q3⟩
end
/-! ### displays -/
theorem dk_empty {P : Program} {w : World} {H : Hp} (h : Heap) (hb : sysModules < h.objs.size) : ObjOk P w H (h.push { cls := .type "dict", data := .dict #[] }) h.objs.size (.dK []) :=
  ⟨Nat.zero_le _, beq_eq_false_iff_ne.mpr (Ne.symm (Nat.ne_of_lt hb)), [], .nil, Heap.DictOf.new h⟩
theorem dt_empty {P : Program} {w : World} {H : Hp} (h : Heap) (hb : sysModules < h.objs.size) : ObjOk P w H (h.push { cls := .type "dict", data := .dict #[] }) h.objs.size (.dT []) :=
  ⟨Nat.zero_le _, beq_eq_false_iff_ne.mpr (Ne.symm (Nat.ne_of_lt hb)), [], .nil, _, #[], 0, Heap.get?_push_size _ rfl, ⟨rfl, rfl, rfl⟩, rfl, rfl, List.nodup_nil⟩
/-- {}, to be a dict of the kind that is wanted -/
def tDNewK : TE := fun _ H Q => ∀ p, H p = none → Q (.ref p) (upd H p (.dK []))
def tDNewT : TE := fun _ H Q => ∀ p, H p = none → Q (.ref p) (upd H p (.dT []))
section
variable {X : Cx} {pos : Pos}
theorem pe_dnewK : PE X (.Dict [] [] pos) tDNewK := fun pins s σ H Q I h =>
  wpAny_Dict_empty ⟨.ref s.heap.objs.size, _, I.laid (a := s.heap.objs.size) (o := .dK []) (t' := s.toks) (fun _ _ q => Heap.get?_push_of_some _ q) (Nat.le_refl _) (dk_empty s.heap I.big), rfl, h _ (I.hok.fresh (Nat.le_refl _))⟩
theorem pe_dnewT : PE X (.Dict [] [] pos) tDNewT := fun pins s σ H Q I h =>
  wpAny_Dict_empty ⟨.ref s.heap.objs.size, _, I.laid (a := s.heap.objs.size) (o := .dT []) (t' := s.toks) (fun _ _ q => Heap.get?_push_of_some _ q) (Nat.le_refl _) (dt_empty s.heap I.big), rfl, h _ (I.hok.fresh (Nat.le_refl _))⟩
end
/-! ### methods -/
/-- a method call o.m(e) of a built-in, with one argument: what must be seen of the text -/
structure M1 (X : Cx) (o : Expr) (m : Str) (apos : Pos) (e : Expr) (cpos : Pos) : Prop where
  base : attributeBase o m X.env (eval o X.env) = eval o X.env
  few : ((backTo cpos (starEach [e] X.env)).all (fun x => !x.1) && (backToKw cpos (keywordEach [] X.env)).all (fun x => x.1.isSome)
    && decide (([e] : List Expr).length + ([] : List Keyword).length + (if ([] : List Keyword).isEmpty then 0 else 1) < 30)) = true
  line : (apos.endLine == cpos.line) = true
  trees : backTo cpos (starEach [e] X.env) = [(false, eval e X.env)]
structure M2 (X : Cx) (o : Expr) (m : Str) (apos : Pos) (e f : Expr) (cpos : Pos) : Prop where
  base : attributeBase o m X.env (eval o X.env) = eval o X.env
  few : ((backTo cpos (starEach [e, f] X.env)).all (fun x => !x.1) && (backToKw cpos (keywordEach [] X.env)).all (fun x => x.1.isSome)
    && decide (([e, f] : List Expr).length + ([] : List Keyword).length + (if ([] : List Keyword).isEmpty then 0 else 1) < 30)) = true
  line : (apos.endLine == cpos.line) = true
  trees : backTo cpos (starEach [e, f] X.env) = [(false, eval e X.env), (false, eval f X.env)]

section
variable {X : Cx} {pins : List (Addr × Obj)} {σ : St} {H : Hp} {s : Shared} {a : Addr} {y d : V} {u r : Value} {o : Option V} {A : Around} {E : Value → Shared → Prop}
end
section
variable {X : Cx} {o e f : Expr} {apos cpos : Pos} {td ty tx : TE}
end
/-! ### dict(d): a copy -/
section
variable {X : Cx} {pins : List (Addr × Obj)} {σ : St} {H : Hp} {s : Shared} {a : Addr} {kvs : List (Key × V)} {A : Around} {E : Value → Shared → Prop}
end
section
variable {X : Cx} {pins : List (Addr × Obj)} {σ : St} {H : Hp} {s : Shared} {a : Addr} {y : V} {u : Value} {A : Around} {E : Value → Shared → Prop}
end
end L2
namespace Att
open PySem PySem.W PySem.Calls PyProof.Rows
/-! ### the script -/
/-! ### the attachment: holds_open's last premise (the goal 'hc' behind k_head) from a wpAny of the law's body -/
/-! ### rules over ANY heap (no ledger) from facts about the written part K: the library's own take a ledger (News) for what they write -/
section
variable {prog : Program} {w : World} {A : Around} {E : Value → Shared → Prop} {s : Shared} {K : Frag}
/-! the whole heap as the ledger: makes every rule that writes through a ledger a rule over any heap -/
end
end Att
namespace L2
open PySem PySem.Spec PyProof.Rows
end L2
namespace L2
open PySem PySem.Spec PyProof.Rows
end L2
/-! SHORT WORDS over the layer: a def of the text, its body, what a loop and a test want. -/
namespace L2
open PySem PySem.Spec PyProof.Rows
/-! ### the text by places -/
/-! ### no exception leaves a def -/
/-! ### a def (or method) of the text as it stands behind the top -/
section
variable {P : Program} {w : World} {K : PySem.W.Frag} {mg : Str → Option Value} {base : Heap}
end
/-! ### expressions in short: the name that stands in the i-th slot -/
section
variable {X : Cx}
end
/-! ### tests -/
/-! ### heaps -/
/-! ### a dict's pairs: keys that differ -/
section
variable {κ : Type} [DecidableEq κ]
end
end L2
set_option Elab.async false
set_option linter.all false
set_option maxRecDepth 100000
/-! books without undone rows; lines and bills -/
namespace L2
open PySem PySem.Spec PyProof.Rows
theorem hu1 {k : Nat} {A : Around} (hr : Room k A) : A.units + 1 < cLine := by have := hu4 hr; omega
def mkEs (rows : List Rw) : List En := rows.mapIdx fun i r => ⟨r, (i : Int) + 1, none⟩
theorem mkEs_len {rows : List Rw} : (mkEs rows).length = rows.length := by simp [mkEs]
theorem mkEs_snoc {rows : List Rw} {r : Rw} : mkEs (rows ++ [r]) = mkEs rows ++ [⟨r, (rows.length : Int) + 1, none⟩] := by
  unfold mkEs
  rw [List.mapIdx_append]
  simp
theorem mkEs_rows {rows : List Rw} : (mkEs rows).map En.row = rows := by
  unfold mkEs
  apply List.ext_getElem?
  intro i
  rw [List.getElem?_map, List.getElem?_mapIdx]
  cases rows[i]? <;> rfl
theorem mkEs_kept {rows : List Rw} : keptE (mkEs rows) (rows.length : Int) = rows := by
  unfold keptE
  have : (mkEs rows).filter (fun e => e.on (rows.length : Int)) = mkEs rows := by
    rw [List.filter_eq_self]
    intro e he
    unfold mkEs at he
    obtain ⟨i, hi, rfl⟩ := List.mem_mapIdx.mp he
    unfold En.on
    simp
    omega
  rw [this, mkEs_rows]
abbrev BnAt (cB : Addr) (H : Hp) (A : BkA) (C : BkC) (rows : List Rw) : Prop := BuAt cB H A C (mkEs rows) (rows.length : Int)

/-! things at addresses -/
def AllAt {α : Type} (F : Hp → Addr → α → Prop) (H : Hp) (ps : List Addr) (xs : List α) : Prop := ps.length = xs.length ∧ ∀ (i : Nat) (p : Addr) (x : α), ps[i]? = some p → xs[i]? = some x → F H p x
theorem AllAt.nil {α : Type} {F : Hp → Addr → α → Prop} {H : Hp} : AllAt F H [] [] := ⟨rfl, fun i p r e => by simp at e⟩
theorem AllAt.mono {α : Type} {F : Hp → Addr → α → Prop} {H H' : Hp} {ps : List Addr} {xs : List α} (h : AllAt F H ps xs) (m : ∀ p x, F H p x → F H' p x) : AllAt F H' ps xs := ⟨h.1, fun i p x e1 e2 => m _ _ (h.2 i p x e1 e2)⟩
theorem AllAt.push {α : Type} {F : Hp → Addr → α → Prop} {H : Hp} {ps : List Addr} {xs : List α} {p : Addr} {x : α} (h : AllAt F H ps xs) (hp : F H p x) : AllAt F H (ps ++ [p]) (xs ++ [x]) := by
  refine ⟨by simp [h.1], fun i q r' e1 e2 => ?_⟩
  by_cases hi : i < ps.length
  · rw [List.getElem?_append_left hi] at e1
    rw [List.getElem?_append_left (by rw [← h.1]; exact hi)] at e2
    exact h.2 i q r' e1 e2
  · have l1 : ps.length ≤ i := by omega
    rw [List.getElem?_append_right l1] at e1
    rw [List.getElem?_append_right (by rw [← h.1]; exact l1), ← h.1] at e2
    by_cases h0 : i - ps.length = 0
    · rw [h0] at e1 e2
      cases e1
      cases e2
      exact hp
    · obtain ⟨k, hk⟩ : ∃ k, i - ps.length = k + 1 := ⟨i - ps.length - 1, by omega⟩
      rw [hk] at e1
      simp at e1
theorem AllAt.at {α : Type} {F : Hp → Addr → α → Prop} {H : Hp} {ps : List Addr} {xs : List α} (h : AllAt F H ps xs) {i : Nat} {v : V} (e : (List.map V.ref ps)[i]? = some v) : ∃ p x, v = .ref p ∧ ps[i]? = some p ∧ xs[i]? = some x ∧ F H p x := by
  rw [List.getElem?_map] at e
  obtain ⟨p, hp, rfl⟩ := Option.map_eq_some_iff.mp e
  have hi : i < ps.length := (List.getElem?_eq_some_iff.mp hp).1
  have hx : i < xs.length := by rw [← h.1]; exact hi
  exact ⟨p, xs[i], rfl, hp, by simp [hx], h.2 i p _ hp (by simp [hx])⟩
theorem AllAt.lst {α : Type} {F : Hp → Addr → α → Prop} {H H' : Hp} {us : List Addr} {xs : List α} (h : AllAt F H us xs) (mono : ∀ {H H' p x}, Same H H' → F H p x → F H' p x) (s : Same H H') : AllAt F H' us xs := h.mono fun _ _ => mono s
/-- F stays where a list is written at D, new since H1: as all of F lies at places that H1 does not say, F speaks of a heap that holds D not -/
theorem snoc_filter {α : Type} {p : Nat → Bool} {f : Nat → α} {i : Nat} : ((List.range (i + 1)).filter p).map f = ((List.range i).filter p).map f ++ (if p i = true then [f i] else []) := by
  rw [List.range_succ, List.filter_append, List.map_append]
  cases e : p i <;> simp [e]
/-- a list is written at D -/
def But (D : Addr) (H H' : Hp) : Prop := ∀ x o, H x = some o → x ≠ D → H' x = some o
theorem But.upd {D : Addr} {H : Hp} {o : HO} : But D H (upd H D o) := fun x u e n => by rw [upd_ne n]; exact e
/-- [new things for x in a list if ..] -/
theorem comp_listA {α : Type} {K : PySem.W.Frag} {a : Addr} {xs : List V} {tt : TT} {te : TE} {σ0 : St} {D : Addr} {H1 : Hp} {Q : Hp → Prop} (F : Hp → Addr → α → Prop) (mono : ∀ {H H' p x}, Same H H' → F H p x → F H' p x) (mono' : ∀ {H p x ys zs}, H D = some (.lst ys) → F H p x → F (upd H D (.lst zs)) p x) (p : Nat → Bool) (f : Nat → α) (hD : H1 D = none) (ha : SqL K H1 a xs) (hn : xs.length ≤ 1000)
    (ht : ∀ i x H' q, xs[i]? = some x → Same H1 H' → (∀ H'', Same H' H'' → q (p i) H'') → tt (σ0.set 0 (some x)) H' q)
    (he : ∀ i x H' q, xs[i]? = some x → p i = true → Same H1 H' → (∃ ys, H' D = some (.lst ys)) → (∀ u H'', Same H' H'' → F H'' u (f i) → q (.ref u) H'') → te (σ0.set 0 (some x)) H' q)
    (hq : ∀ us H', Same H1 H' → H' D = some (.lst (List.map V.ref us)) → AllAt F H' us (((List.range xs.length).filter p).map f) → Q H') : CompBody (Itl K a) (gName 0) tt te 1 σ0 D H1 Q := by
  refine comp_list (xs := xs) (fun i ys H => Same H1 H ∧ H D = some (.lst ys) ∧ ∃ us, ys = List.map V.ref us ∧ AllAt F H us (((List.range i).filter p).map f)) ⟨Same.new hD, upd_same, [], rfl, .nil⟩ (fun i ys H _ p => p.1.seq ha) ?_ ?_
  · rintro i x ys H hx ⟨sm, hd, us, rfl, hA⟩
    have hi : i < xs.length := (List.getElem?_eq_some_iff.mp hx).1
    refine r_name ⟨set0, ht i x H _ hx sm fun H2 s2 => ?_⟩
    cases e : p i with
    | true =>
      refine iteT (he i x H2 _ hx e (sm.trans s2) ⟨_, s2 _ _ hd⟩ fun u H3 s3 hF => ?_)
      have s23 := s2.trans s3
      have lu := hA.1
      refine ⟨s23 _ _ hd, small1000 (by have := List.length_filter_le p (List.range i); rw [List.length_range] at this; rw [List.length_map] at lu ⊢; omega), Same.setp hD (sm.trans s23), upd_same, us ++ [u], by rw [List.map_append]; rfl, ?_⟩
      rw [snoc_filter, if_pos e]
      exact ((hA.lst mono s23).push hF).mono fun _ _ h => mono' (s23 _ _ hd) h
    | false =>
      refine iteF ⟨sm.trans s2, s2 _ _ hd, us, rfl, ?_⟩
      rw [snoc_filter, if_neg (by rw [e]; exact Bool.false_ne_true), List.append_nil]
      exact hA.lst mono s2
  · rintro ys H ⟨sm, hd, us, rfl, hA⟩
    exact hq us H sm hd hA
/-- [new things for k in range(n)] -/
theorem comp_rangeA {α : Type} {n : Nat} {te : TE} {σ0 : St} {D : Addr} {H1 : Hp} {Q : Hp → Prop} (F : Hp → Addr → α → Prop) (mono : ∀ {H H' p x}, Same H H' → F H p x → F H' p x) (mono' : ∀ {H p x ys zs}, H D = some (.lst ys) → F H p x → F (upd H D (.lst zs)) p x) (f : Nat → α) (hD : H1 D = none) (hn : n ≤ 1000)
    (he : ∀ i H' q, i < n → Same H1 H' → (∃ ys, H' D = some (.lst ys)) → (∀ u H'', Same H' H'' → F H'' u (f i) → q (.ref u) H'') → te (σ0.set 0 (some (.int (0 + (i : Int))))) H' q)
    (hq : ∀ us H', Same H1 H' → H' D = some (.lst (List.map V.ref us)) → AllAt F H' us ((List.range n).map f) → Q H') : CompBody (Itr 0 n) (gName 0) tTT te 1 σ0 D H1 Q := by
  refine comp_range (fun i ys H => Same H1 H ∧ H D = some (.lst ys) ∧ ∃ us, ys = List.map V.ref us ∧ AllAt F H us ((List.range i).map f)) ⟨Same.new hD, upd_same, [], rfl, .nil⟩ ?_ ?_
  · rintro i ys H hi ⟨sm, hd, us, rfl, hA⟩
    refine r_name ⟨set0, r_tt (iteT (he i H _ hi sm ⟨_, hd⟩ fun u H3 s3 hF => ?_))⟩
    have lu := hA.1
    refine ⟨s3 _ _ hd, small1000 (by rw [List.length_map, List.length_range] at lu; rw [List.length_map]; omega), Same.setp hD (sm.trans s3), upd_same, us ++ [u], by rw [List.map_append]; rfl, ?_⟩
    rw [List.range_succ, List.map_append]
    exact ((hA.lst mono s3).push hF).mono fun _ _ h => mono' (s3 _ _ hd) h
  · rintro ys H ⟨sm, hd, us, rfl, hA⟩
    exact hq us H sm hd hA

/-! ### lines -/
def tillR (rows : List Rw) (d : Int) : List Rw := rows.filter fun r => decide (r.day ≤ d)
structure Ln where
  (row turn cost : Int)
  why : Str
  parts : List Int
instance : Inhabited Ln := ⟨⟨0, 0, 0, "", []⟩⟩
def LnAt (H : Hp) (p : Addr) (l : Ln) : Prop := ∃ q, H p = some (.tup [.int l.row, .int l.turn, .int l.cost, .str l.why, .ref q]) ∧ H q = some (.tup (l.parts.map V.int))
theorem LnAt.tupS {H H' : Hp} {p : Addr} {l : Ln} (t : TupS H H') (h : LnAt H p l) : LnAt H' p l := let ⟨q, h1, h2⟩ := h; ⟨q, t _ _ h1, t _ _ h2⟩
/-- claims, steps of witnesses that are laid none, payments, dunnings -/
def WitR : Rw → Prop
  | .claim .. => True
  | .step _ _ t _ k _ l => k = "witness" ∧ l = "none" ∧ 0 ≤ t
  | .pay .. => True
  | .dun .. => True
  | _ => False
def isStep : Rw → Bool
  | .step .. => true
  | _ => false
theorem word_step {r : Rw} : r.word = "step" ↔ isStep r = true := by
  cases r with
  | claim => exact iff_of_false (show ¬ (("claim" : Str) = "step") by decide +kernel) Bool.false_ne_true
  | carry => exact iff_of_false (show ¬ (("carry" : Str) = "step") by decide +kernel) Bool.false_ne_true
  | step => exact iff_of_true rfl rfl
  | offer => exact iff_of_false (show ¬ (("offer" : Str) = "step") by decide +kernel) Bool.false_ne_true
  | rule => exact iff_of_false (show ¬ (("rule" : Str) = "step") by decide +kernel) Bool.false_ne_true
  | pay => exact iff_of_false (show ¬ (("pay" : Str) = "step") by decide +kernel) Bool.false_ne_true
  | dun => exact iff_of_false (show ¬ (("dun" : Str) = "step") by decide +kernel) Bool.false_ne_true
def isOffer : Rw → Bool
  | .offer .. => true
  | _ => false
theorem word_offer {r : Rw} : r.word = "offer" ↔ isOffer r = true := by
  cases r with
  | claim => exact iff_of_false (show ¬ (("claim" : Str) = "offer") by decide +kernel) Bool.false_ne_true
  | carry => exact iff_of_false (show ¬ (("carry" : Str) = "offer") by decide +kernel) Bool.false_ne_true
  | step => exact iff_of_false (show ¬ (("step" : Str) = "offer") by decide +kernel) Bool.false_ne_true
  | offer => exact iff_of_true rfl rfl
  | rule => exact iff_of_false (show ¬ (("rule" : Str) = "offer") by decide +kernel) Bool.false_ne_true
  | pay => exact iff_of_false (show ¬ (("pay" : Str) = "offer") by decide +kernel) Bool.false_ne_true
  | dun => exact iff_of_false (show ¬ (("dun" : Str) = "offer") by decide +kernel) Bool.false_ne_true
def isRule : Rw → Bool
  | .rule .. => true
  | _ => false
theorem word_rule {r : Rw} : r.word = "rule" ↔ isRule r = true := by
  cases r with
  | claim => exact iff_of_false (show ¬ (("claim" : Str) = "rule") by decide +kernel) Bool.false_ne_true
  | carry => exact iff_of_false (show ¬ (("carry" : Str) = "rule") by decide +kernel) Bool.false_ne_true
  | step => exact iff_of_false (show ¬ (("step" : Str) = "rule") by decide +kernel) Bool.false_ne_true
  | offer => exact iff_of_false (show ¬ (("offer" : Str) = "rule") by decide +kernel) Bool.false_ne_true
  | rule => exact iff_of_true rfl rfl
  | pay => exact iff_of_false (show ¬ (("pay" : Str) = "rule") by decide +kernel) Bool.false_ne_true
  | dun => exact iff_of_false (show ¬ (("dun" : Str) = "rule") by decide +kernel) Bool.false_ne_true
def isPay : Rw → Bool
  | .pay .. => true
  | _ => false
theorem word_pay {r : Rw} : r.word = "pay" ↔ isPay r = true := by
  cases r with
  | claim => exact iff_of_false (show ¬ (("claim" : Str) = "pay") by decide +kernel) Bool.false_ne_true
  | carry => exact iff_of_false (show ¬ (("carry" : Str) = "pay") by decide +kernel) Bool.false_ne_true
  | step => exact iff_of_false (show ¬ (("step" : Str) = "pay") by decide +kernel) Bool.false_ne_true
  | offer => exact iff_of_false (show ¬ (("offer" : Str) = "pay") by decide +kernel) Bool.false_ne_true
  | rule => exact iff_of_false (show ¬ (("rule" : Str) = "pay") by decide +kernel) Bool.false_ne_true
  | pay => exact iff_of_true rfl rfl
  | dun => exact iff_of_false (show ¬ (("dun" : Str) = "pay") by decide +kernel) Bool.false_ne_true
def isDun : Rw → Bool
  | .dun .. => true
  | _ => false
theorem word_dun {r : Rw} : r.word = "dun" ↔ isDun r = true := by
  cases r with
  | claim => exact iff_of_false (show ¬ (("claim" : Str) = "dun") by decide +kernel) Bool.false_ne_true
  | carry => exact iff_of_false (show ¬ (("carry" : Str) = "dun") by decide +kernel) Bool.false_ne_true
  | step => exact iff_of_false (show ¬ (("step" : Str) = "dun") by decide +kernel) Bool.false_ne_true
  | offer => exact iff_of_false (show ¬ (("offer" : Str) = "dun") by decide +kernel) Bool.false_ne_true
  | rule => exact iff_of_false (show ¬ (("rule" : Str) = "dun") by decide +kernel) Bool.false_ne_true
  | pay => exact iff_of_false (show ¬ (("pay" : Str) = "dun") by decide +kernel) Bool.false_ne_true
  | dun => exact iff_of_true rfl rfl
def costW : Rw → Int
  | .step _ _ _ _ _ m _ => m
  | _ => 0
def sideW : Rw → Int
  | .step _ _ _ s _ _ _ => s
  | _ => 0
def lnOne (many : Nat) (r : Rw) (why : Str) (cost : Int) : Ln := match r with
  | .step n _ t s _ _ _ => ⟨n, t, cost, why, tab many fun i => if (i : Int) = s then cost else 0⟩
  | _ => default
def lnW (many : Nat) (r : Rw) : Ln := lnOne many r "open" (costW r)
def linesW (many : Nat) (rows : List Rw) : List Ln := (rows.filter isStep).map (lnW many)
def NumR (rows : List Rw) : Prop := (rows.map Rw.num).Nodup
theorem wit_okRows {rows : List Rw} (h : ∀ r ∈ rows, WitR r) : OkRows rows := by
  have : ∀ n, n ≤ rows.length → OkRows (rows.take n) := by
    intro n
    induction n with
    | zero => intro _; rw [List.take_zero]; exact .nil
    | succ n ih =>
      intro hn
      rw [List.take_succ_eq_append_getElem (by omega)]
      refine .snoc (ih (by omega)) ?_
      have hn' : n < rows.length := by omega
      have := h _ (List.getElem_mem hn')
      cases e : rows[n] with
      | carry n d c => rw [e] at this; exact this.elim
      | _ => trivial
  have := this rows.length (Nat.le_refl _)
  rwa [List.take_length] at this
theorem wit_okPut {rs : Rds} {r : Rw} (h : WitR r) : OkPut rs r := by
  cases r with
  | carry n d c => exact h.elim
  | _ => trivial
theorem wit_rounds {rows : List Rw} (h : ∀ r ∈ rows, WitR r) : (roundsR rows).length = 1 := by
  have : ∀ (rows : List Rw) (rs : Rds), (∀ r ∈ rows, WitR r) → rs.length = 1 → (rows.foldl putR rs).length = 1 := by
    intro rows
    induction rows with
    | nil => intro rs _ h; exact h
    | cons r rows ih =>
      intro rs hw hl
      refine ih _ (fun x hx => hw x (List.mem_cons_of_mem _ hx)) ?_
      have := hw r List.mem_cons_self
      cases r with
      | claim n d c a b w => cases rs with
        | nil => simp at hl
        | cons x y => simpa [putR] using hl
      | carry n d c => exact this.elim
      | rule n d t bk ws => exact this.elim
      | _ => exact hl
  exact this rows [[]] h rfl
/-! ### bills -/
structure Bl where
  rows : List (Int × Int × Str)
  (borne charged paid due : Int)
def BrAt (H : Hp) (p : Addr) (x : Int × Int × Str) : Prop := H p = some (.tup [.int x.1, .int x.2.1, .str x.2.2])
def BlAt (H : Hp) (p : Addr) (b : Bl) : Prop := ∃ q ts, H p = some (.tup [.ref q, .int b.borne, .int b.charged, .int b.paid, .int b.due]) ∧ H q = some (.lst (List.map V.ref ts)) ∧ AllAt BrAt H ts b.rows
theorem BlAt.same {H H' : Hp} {p : Addr} {b : Bl} (s : Same H H') (h : BlAt H p b) : BlAt H' p b := let ⟨q, ts, h1, h2, h3⟩ := h; ⟨q, ts, s _ _ h1, s _ _ h2, h3.mono fun _ _ e => s _ _ e⟩
def payW (side : Int) : Rw → Bool
  | .pay _ _ s _ _ => decide (s = side)
  | _ => false
def coinsW : Rw → Int
  | .pay _ _ _ _ c => c
  | _ => 0
def paidW (rows : List Rw) (side : Int) : Int := ((rows.filter (payW side)).map coinsW).sum
def brW (lns : List Ln) (side : Nat) : List (Int × Int × Str) := (lns.filter fun l => decide (l.parts.getD side 0 > 0)).map fun l => (l.row, l.parts.getD side 0, l.why)
def billW (lns : List Ln) (rows : List Rw) (side : Nat) (charged : Int) : Bl :=
  let br := brW lns side
  let borne := (br.map fun x => x.2.1).sum
  let paid := paidW rows side
  ⟨br, borne, charged, paid, borne + charged - paid⟩
def borneW (rows : List Rw) (side : Int) : Int := ((rows.filter fun r => isStep r && decide (sideW r = side)).map costW).sum
def OwAt (H : Hp) (p : Addr) (x : Int × List Int) : Prop := ∃ q, H p = some (.tup [.int x.1, .ref q]) ∧ H q = some (.lst (x.2.map V.int))
def owedW (many : Nat) (rows : List Rw) : List (Int × List Int) := (List.range rows.length).map fun i => ((rows.getD i (.dun 0 0 0)).day, tab many fun s => borneW (rows.take (i + 1)) s - paidW (rows.take (i + 1)) s)
def dunIs (side : Int) : Rw → Bool
  | .dun _ _ s => decide (s = side)
  | _ => false
def dunW (rows : List Rw) (side : Int) : Option Int := (rows.find? (dunIs side)).map Rw.day
def cd1 (ow : List (Int × List Int)) (day first : Int) (side i : Nat) : Int :=
  if (ow.getD (i + 1) (day, [])).1 - (if first > (ow.getD i (0, [])).1 then first else (ow.getD i (0, [])).1) > 0 then (if 0 > (ow.getD i (0, [])).2.getD side 0 then 0 else (ow.getD i (0, [])).2.getD side 0) * ((ow.getD (i + 1) (day, [])).1 - (if first > (ow.getD i (0, [])).1 then first else (ow.getD i (0, [])).1)) else 0
def cdW (ow : List (Int × List Int)) (day first : Int) (side : Nat) : Int := ((List.range ow.length).map fun i => cd1 ow day first side i).sum
def coinDays (rows : List Rw) (ow : List (Int × List Int)) (day : Int) (side : Nat) : Int := match dunW rows side with
  | none => 0
  | some f => cdW ow day f side
theorem RdsAt.dk {H : Hp} {p d : Addr} {ls : List Addr} {rs : Rds} {kvs kvs' : List (Key × V)} (R : RdsAt H p ls rs) (hd : H d = some (.dK kvs)) : RdsAt (upd H d (.dK kvs')) p ls rs := by
  have ts : TupS H (upd H d (.dK kvs')) := fun b xs e => by
    rw [upd_ne (ne_of e hd (by intro z; cases z))]
    exact e
  refine ⟨by rw [upd_ne (ne_of R.at_ hd (by intro z; cases z))]; exact R.at_, R.len, R.nd, R.np, fun i l r e1 e2 => ?_⟩
  obtain ⟨cs, a1, a2⟩ := R.ro i l r e1 e2
  exact ⟨cs, by rw [upd_ne (ne_of a1 hd (by intro z; cases z))]; exact a1, a2.tupS ts⟩
def RwsAt (K : PySem.W.Frag) (H : Hp) (a : Addr) (rows : List Rw) : Prop := ∃ ps, SqL K H a (List.map V.ref ps) ∧ RowsAt H ps rows
theorem RwsAt.same {K : PySem.W.Frag} {H H' : Hp} {a : Addr} {rows : List Rw} (s : Same H H') (h : RwsAt K H a rows) : RwsAt K H' a rows := let ⟨ps, h1, h2⟩ := h; ⟨ps, s.seq h1, h2.mono s.tupS⟩
theorem RowsAt.at {H : Hp} {ps : List Addr} {rows : List Rw} (h : RowsAt H ps rows) {i : Nat} {v : V} (e : (List.map V.ref ps)[i]? = some v) : ∃ p, v = .ref p ∧ ps[i]? = some p ∧ ∃ hi : i < rows.length, RowAt H p rows[i] := by
  rw [List.getElem?_map] at e
  obtain ⟨p, hp, rfl⟩ := Option.map_eq_some_iff.mp e
  have hi : i < ps.length := (List.getElem?_eq_some_iff.mp hp).1
  have hx : i < rows.length := by rw [← h.1]; exact hi
  exact ⟨p, rfl, hp, hx, h.2 i p _ hp (by simp [hx])⟩
/-- rows picked by a test -/
theorem RowsAt.filt {H : Hp} {ps : List Addr} {rows : List Rw} (h : RowsAt H ps rows) (f : Rw → Bool) : RowsAt H (((List.range ps.length).filter fun j => f (rows.getD j (.dun 0 0 0))).map fun j => ps.getD j 0) (rows.filter f) := by
  rw [filter_range (.dun 0 0 0) rows, ← h.1]
  exact h.pick _ (fun i hi => by have := List.mem_range.mp (List.mem_filter.mp hi).1; have := h.1; omega) _
def CosAt (H : Hp) (d : Addr) (rows : List Rw) : Prop := ∃ kvs, H d = some (.dK kvs) ∧ ∀ r ∈ rows, isStep r = true → valV kvs (.inl r.num) = some (.int (costW r))
def LnsAt (H : Hp) (l : Addr) (lns : List Ln) : Prop := ∃ ls, H l = some (.lst (List.map V.ref ls)) ∧ AllAt LnAt H ls lns
theorem LnsAt.same {H H' : Hp} {l : Addr} {lns : List Ln} (s : Same H H') (h : LnsAt H l lns) : LnsAt H' l lns := let ⟨ls, h1, h2⟩ := h; ⟨ls, s _ _ h1, h2.mono fun _ _ e => e.tupS s.tupS⟩
theorem till_le {rows : List Rw} {d : Int} : (tillR rows d).length ≤ rows.length := List.length_filter_le _ _
theorem till_mem {rows : List Rw} {d : Int} {r : Rw} (h : r ∈ tillR rows d) : r ∈ rows := (List.mem_filter.mp h).1
theorem till_num {rows : List Rw} {d : Int} (h : NumR rows) : NumR (tillR rows d) := h.sublist (List.filter_sublist.map _)
theorem isStep_word {r : Rw} : decide (r.word = "step") = isStep r := by rw [Bool.eq_iff_iff, decide_eq_true_iff]; exact word_step
def OwsAt (H : Hp) (l : Addr) (ow : List (Int × List Int)) : Prop := ∃ os, H l = some (.lst (List.map V.ref os)) ∧ AllAt OwAt H os ow
theorem OwAt.same {H H' : Hp} {p : Addr} {x : Int × List Int} (s : Same H H') (h : OwAt H p x) : OwAt H' p x := let ⟨q, h1, h2⟩ := h; ⟨q, s _ _ h1, s _ _ h2⟩
theorem OwsAt.same {H H' : Hp} {l : Addr} {ow : List (Int × List Int)} (s : Same H H') (h : OwsAt H l ow) : OwsAt H' l ow := let ⟨os, h1, h2⟩ := h; ⟨os, s _ _ h1, h2.mono fun _ _ e => e.same s⟩
def SidesOk (many : Nat) : Rw → Prop
  | .step _ _ _ s _ _ _ => 0 ≤ s ∧ s < (many : Int)
  | .pay _ _ s _ _ => 0 ≤ s ∧ s < (many : Int)
  | _ => True
def BlsAt (H : Hp) (l : Addr) (bs : List Bl) : Prop := ∃ us, H l = some (.lst (List.map V.ref us)) ∧ AllAt BlAt H us bs
def billsW (many : Nat) (rows : List Rw) (day : Int) : List Bl := (List.range many).map fun s => billW (linesW many (tillR rows day)) (tillR rows day) s (5 * coinDays (tillR rows day) (owedW many (tillR rows day)) day s / 36500)
/-- what a book asks for bills -/
def BlOk (C : BkC) (rows : List Rw) (d : Int) : Prop := C.pl.length ≤ 8 ∧ rows.length ≤ 300 ∧ (∀ r ∈ rows, WitR r) ∧ (∀ r ∈ rows, SidesOk C.pl.length r) ∧ NumR rows ∧ tillR rows d ≠ [] ∧ (∀ r ∈ rows, -1000000 ≤ r.day ∧ r.day ≤ 1000000) ∧ -1000000 ≤ d ∧ d ≤ 1000000
theorem owed_len {many : Nat} {rows : List Rw} : (owedW many rows).length = rows.length := by unfold owedW; rw [List.length_map, List.length_range]
theorem owed_mem {many : Nat} {rows : List Rw} {x : Int × List Int} (h : x ∈ owedW many rows) : x.2.length = many ∧ ∃ r ∈ rows, x.1 = r.day := by
  unfold owedW at h
  obtain ⟨i, hi, rfl⟩ := List.mem_map.mp h
  have hi := List.mem_range.mp hi
  refine ⟨tab_len, rows[i], List.getElem_mem hi, ?_⟩
  show (rows.getD i (.dun 0 0 0)).day = _
  simp [List.getD, hi]
theorem atI_tabN {n i : Nat} {F : Nat → Int} (h : i < n) : atI ((tab n F).map V.int) (i : Int) = some (V.int (F i)) := by
  have := atI_tab (F := F) h
  rwa [Int.zero_add] at this
theorem set_tab {n i : Nat} {F : Nat → Int} {v : Int} (h : i < n) : ((tab n F).map V.int).set i (V.int v) = (tab n fun j => if j = i then v else F j).map V.int := by
  apply List.ext_getElem?
  intro k
  unfold tab
  rw [List.map_map, List.map_map, List.getElem?_set, List.length_map, List.length_range, List.getElem?_map, List.getElem?_map]
  by_cases hk : k < n
  · rw [List.getElem?_range hk]
    by_cases e : i = k
    · subst e; rw [if_pos rfl, if_pos h]; simp
    · rw [if_neg e]; simp [Ne.symm e]
  · rw [List.getElem?_eq_none (by rw [List.length_range]; omega)]
    by_cases e : i = k
    · omega
    · rw [if_neg e]
      rfl
theorem tab_congr {n : Nat} {F G : Nat → Int} (h : ∀ i, i < n → F i = G i) : tab n F = tab n G := by
  unfold tab
  exact List.map_congr_left fun i hi => h i (List.mem_range.mp hi)
theorem borne_snoc {n i : Nat} {rows : List Rw} {nn dd t m : Int} {kk l : Str} : (tab n fun j => if j = i then borneW rows i + m else borneW rows j) = tab n fun s => borneW (rows ++ [.step nn dd t (i : Int) kk m l]) s := by
  refine tab_congr fun j _ => ?_
  unfold borneW
  rw [List.filter_append, List.map_append, List.sum_append, List.filter_cons]
  by_cases e : j = i
  · subst e
    rw [if_pos rfl, if_pos (by simp [isStep, sideW])]
    simp [costW]
  · have e' : ¬ ((i : Int) = (j : Int)) := by omega
    rw [if_neg e, if_neg (by simp only [isStep, sideW, Bool.true_and]; exact fun z => e' (of_decide_eq_true z))]
    simp
theorem borne_snoc0 {n : Nat} {rows : List Rw} {r : Rw} (h : isStep r = false) : (tab n fun s => borneW (rows ++ [r]) s) = tab n fun s => borneW rows s := by
  refine tab_congr fun j _ => ?_
  unfold borneW
  rw [List.filter_append, List.filter_cons, if_neg (by simp [h])]
  simp
theorem paid_snoc {n i : Nat} {rows : List Rw} {nn dd pp c : Int} : (tab n fun j => if j = i then paidW rows i + c else paidW rows j) = tab n fun s => paidW (rows ++ [.pay nn dd (i : Int) pp c]) s := by
  refine tab_congr fun j _ => ?_
  unfold paidW
  rw [List.filter_append, List.map_append, List.sum_append, List.filter_cons]
  by_cases e : j = i
  · subst e
    rw [if_pos rfl, if_pos (by simp [payW])]
    simp [coinsW]
  · have e' : ¬ ((i : Int) = (j : Int)) := by omega
    rw [if_neg e, if_neg (by show ¬ decide ((i : Int) = (j : Int)) = true; exact fun z => e' (of_decide_eq_true z))]
    simp
theorem paid_snoc0 {n : Nat} {rows : List Rw} {r : Rw} (h : ∀ s, payW s r = false) : (tab n fun s => paidW (rows ++ [r]) s) = tab n fun s => paidW rows s := by
  refine tab_congr fun j _ => ?_
  unfold paidW
  rw [List.filter_append, List.filter_cons, if_neg (by rw [h]; exact Bool.false_ne_true)]
  simp
def OwN (ban : List Addr) (H : Hp) (p : Addr) (x : Int × List Int) : Prop := ∃ q, H p = some (.tup [.int x.1, .ref q]) ∧ H q = some (.lst (x.2.map V.int)) ∧ q ∉ ban
theorem OwN.same {ban : List Addr} {H H' : Hp} {p : Addr} {x : Int × List Int} (s : Same H H') (h : OwN ban H p x) : OwN ban H' p x := let ⟨q, h1, h2, h3⟩ := h; ⟨q, s _ _ h1, s _ _ h2, h3⟩
theorem OwN.at_ {ban : List Addr} {H : Hp} {p : Addr} {x : Int × List Int} (h : OwN ban H p x) : OwAt H p x := let ⟨q, h1, h2, _⟩ := h; ⟨q, h1, h2⟩
theorem OwN.setL {ban : List Addr} {H : Hp} {p t : Addr} {x : Int × List Int} {ys zs : List V} (h : OwN ban H p x) (ht : H t = some (.lst ys)) (m : t ∈ ban) : OwN ban (upd H t (.lst zs)) p x := by
  obtain ⟨q, h1, h2, h3⟩ := h
  exact ⟨q, TupS.lst ht _ _ h1, by rw [upd_ne (fun z => h3 (by rw [z]; exact m))]; exact h2, h3⟩
theorem owed_take {many : Nat} {rows : List Rw} {i : Nat} (h : i < rows.length) : (owedW many rows).take (i + 1) = (owedW many rows).take i ++ [(rows[i].day, tab many fun s => borneW (rows.take (i + 1)) s - paidW (rows.take (i + 1)) s)] := by
  have hl : i < (owedW many rows).length := by rw [owed_len]; exact h
  rw [List.take_succ_eq_append_getElem hl]
  congr 2
  have : (owedW many rows)[i]? = some (rows[i].day, tab many fun s => borneW (rows.take (i + 1)) s - paidW (rows.take (i + 1)) s) := by
    unfold owedW
    rw [List.getElem?_map, List.getElem?_range h]
    simp [List.getD, h]
  rw [List.getElem?_eq_getElem hl] at this
  exact Option.some.inj this
theorem AllAt.imp {α : Type} {F G : Hp → Addr → α → Prop} {H H' : Hp} {ps : List Addr} {xs : List α} (h : AllAt F H ps xs) (m : ∀ p x, F H p x → G H' p x) : AllAt G H' ps xs := ⟨h.1, fun i p x e1 e2 => m _ _ (h.2 i p x e1 e2)⟩
def BlF (H H' : Hp) (p : Addr) (b : Bl) : Prop := ∃ q ts, H' p = some (.tup [.ref q, .int b.borne, .int b.charged, .int b.paid, .int b.due]) ∧ H' q = some (.lst (List.map V.ref ts)) ∧ AllAt BrAt H' ts b.rows ∧ H q = none
def BlN (D : Addr) (H : Hp) (p : Addr) (b : Bl) : Prop := ∃ q ts, H p = some (.tup [.ref q, .int b.borne, .int b.charged, .int b.paid, .int b.due]) ∧ H q = some (.lst (List.map V.ref ts)) ∧ AllAt BrAt H ts b.rows ∧ q ≠ D
theorem BlN.same {D : Addr} {H H' : Hp} {p : Addr} {b : Bl} (s : Same H H') (h : BlN D H p b) : BlN D H' p b := let ⟨q, ts, h1, h2, h3, h4⟩ := h; ⟨q, ts, s _ _ h1, s _ _ h2, h3.mono fun _ _ e => s _ _ e, h4⟩
theorem BlN.setL {D : Addr} {H : Hp} {p : Addr} {b : Bl} {ys zs : List V} (hD : H D = some (.lst ys)) (h : BlN D H p b) : BlN D (upd H D (.lst zs)) p b := by
  obtain ⟨q, ts, h1, h2, h3, h4⟩ := h
  exact ⟨q, ts, TupS.lst hD _ _ h1, by rw [upd_ne h4]; exact h2, h3.mono fun _ _ e => TupS.lst hD _ _ e, h4⟩
theorem BlN.at_ {D : Addr} {H : Hp} {p : Addr} {b : Bl} (h : BlN D H p b) : BlAt H p b := let ⟨q, ts, h1, h2, h3, _⟩ := h; ⟨q, ts, h1, h2, h3⟩
theorem till_till {rows : List Rw} {d : Int} : tillR (tillR rows d) d = tillR rows d := by unfold tillR; rw [List.filter_filter]; simp
theorem fl_people {pe co sp ro ca we : Addr} {n : Int} : (flds pe co sp ro ca we n).lookup ("people" : Str) = some (.ref pe) := by rfl
theorem fl_court {pe co sp ro ca we : Addr} {n : Int} : (flds pe co sp ro ca we n).lookup ("court" : Str) = some (.ref co) := by rfl
theorem fl_speakers {pe co sp ro ca we : Addr} {n : Int} : (flds pe co sp ro ca we n).lookup ("speakers" : Str) = some (.ref sp) := by rfl
theorem cut_one {xs : List V} (h : xs ≠ []) : cutV xs (some 1) none = xs.drop 1 := by
  unfold cutV
  have h0 : 0 < xs.length := List.length_pos_iff.mpr h
  have e1 : HT.sIx xs.length 0 (some 1) = 1 := by
    show (if (1 : Int) < 0 then ((1 : Int) + (xs.length : Int)).toNat else min (1 : Int).toNat xs.length) = 1
    rw [if_neg (by decide)]
    show min 1 xs.length = 1
    omega
  have e2 : HT.sIx xs.length xs.length none = xs.length := rfl
  rw [e1, e2, List.take_of_length_le (by rw [List.length_drop]; omega)]
theorem lines_parts {many : Nat} {rows : List Rw} {l : Ln} (h : l ∈ linesW many rows) : l.parts.length = many := by
  unfold linesW at h
  obtain ⟨r, hr, rfl⟩ := List.mem_map.mp h
  have hs := (List.mem_filter.mp hr).2
  cases r with
  | step n d t s k m l => exact tab_len
  | _ => cases hs
theorem r_augN {i : Nat} {te : TE} {ti : TIp} {D : Ends} {σ : St} {H : Hp} {x : V} (e : σ[i]? = some (some x)) (q : te σ H fun y H1 => ti x y H1 fun z H2 => D.nx (σ.set i (some z)) H2) : tAug i te ti D σ H := ⟨x, e, q⟩
end L2

set_option Elab.async false
set_option linter.all false
set_option maxRecDepth 100000
namespace L2
open PySem PySem.Spec PyProof.Rows
def ra (A : Bool) (d0 s : Int) : List Rw := .claim 0 0 0 0 1 10 :: (if A = true then [.dun 1 d0 s] else [])
def rb (A : Bool) (d0 s ds c : Int) : List Rw := ra A d0 s ++ [.step (ra A d0 s).length ds 0 s "witness" c "none"]
def rc (A B : Bool) (d0 s ds c d1 : Int) : List Rw := rb A d0 s ds c ++ (if B = true then [.dun (rb A d0 s ds c).length d1 s] else [])
def rd (A B : Bool) (d0 s ds c d1 d2 p : Int) : List Rw := rc A B d0 s ds c d1 ++ [.pay (rc A B d0 s ds c d1).length d2 s 2 p]
def re (A B C : Bool) (d0 s ds c d1 d2 p : Int) : List Rw := rd A B d0 s ds c d1 d2 p ++ (if C = true then [.dun (rd A B d0 s ds c d1 d2 p).length d2 s] else [])
theorem ref_claim0 {w : Int} : refuseR (roundsR []) (lastR []) ((([] : List Rw).length : Nat) : Int) (.claim 0 0 0 0 1 w) = none := rfl
section
variable {A B C : Bool} {d0 s ds c d1 d2 p d : Int}
theorem wa : ∀ r ∈ ra A d0 s, WitR r := by cases A <;> simp [ra, WitR]
theorem wb : ∀ r ∈ rb A d0 s ds c, WitR r := by cases A <;> simp [rb, ra, WitR]
theorem wc : ∀ r ∈ rc A B d0 s ds c d1, WitR r := by cases A <;> cases B <;> simp [rc, rb, ra, WitR]
theorem wd : ∀ r ∈ rd A B d0 s ds c d1 d2 p, WitR r := by cases A <;> cases B <;> simp [rd, rc, rb, ra, WitR]
theorem we : ∀ r ∈ re A B C d0 s ds c d1 d2 p, WitR r := by cases A <;> cases B <;> cases C <;> simp [re, rd, rc, rb, ra, WitR]
theorem ref_dun {rs : Rds} {last : Option Int} {wr : Int} {n : Int} (hw : wr < 300) (hl : lateR last (.dun n d s) = false) : refuseR rs last wr (.dun n d s) = none := by
  unfold refuseR
  rw [if_neg (by omega), hl]
  rfl
theorem ref_pay {rs : Rds} {last : Option Int} {wr : Int} {n q : Int} (hw : wr < 300) (hl : lateR last (.pay n d s q p) = false) : refuseR rs last wr (.pay n d s q p) = none := by
  unfold refuseR
  rw [if_neg (by omega), hl]
  rfl
theorem ref_step {last : Option Int} {wr : Int} {n : Int} {kk l : Str} (hw : wr < 300) (hl : lateR last (.step n d 0 s kk c l) = false) : refuseR [[[0, 0, 1, 10]]] last wr (.step n d 0 s kk c l) = none := by
  unfold refuseR
  rw [if_neg (by omega), hl]
  rfl
theorem rnd_a : roundsR (ra A d0 s) = [[[0, 0, 1, 10]]] := by cases A <;> rfl
theorem late_a (h0 : 0 ≤ d0) (h : d0 ≤ d) {r : Rw} (hr : r.day = d) : lateR (lastR (ra A d0 s)) r = false := by
  cases A
  · exact decide_eq_false (by show ¬ r.day < 0; omega)
  · exact decide_eq_false (by show ¬ r.day < d0; omega)
theorem late_b (h : ds ≤ d) {r : Rw} (hr : r.day = d) : lateR (lastR (rb A d0 s ds c)) r = false := by
  unfold rb lastR
  rw [List.getLast?_append]
  exact decide_eq_false (by show ¬ r.day < ds; omega)
theorem late_c (h : ds ≤ d) (h1 : d1 ≤ d) {r : Rw} (hr : r.day = d) : lateR (lastR (rc A B d0 s ds c d1)) r = false := by
  cases B
  · unfold rc
    rw [if_neg (by decide), List.append_nil]
    exact late_b h hr
  · unfold rc lastR
    rw [List.getLast?_append]
    exact decide_eq_false (by show ¬ r.day < d1; omega)
theorem late_d (h : d2 ≤ d) {r : Rw} (hr : r.day = d) : lateR (lastR (rd A B d0 s ds c d1 d2 p)) r = false := by
  unfold rd lastR
  rw [List.getLast?_append]
  exact decide_eq_false (by show ¬ r.day < d2; omega)
theorem len_e : (re A B C d0 s ds c d1 d2 p).length ≤ 6 := by cases A <;> cases B <;> cases C <;> simp [re, rd, rc, rb, ra]
theorem num_e : NumR (re A B C d0 s ds c d1 d2 p) := by cases A <;> cases B <;> cases C <;> (unfold NumR; simp [re, rd, rc, rb, ra, Rw.num])
theorem side_e {many : Nat} (h0 : 0 ≤ s) (h1 : s < (many : Int)) : ∀ r ∈ re A B C d0 s ds c d1 d2 p, SidesOk many r := by cases A <;> cases B <;> cases C <;> simp [re, rd, rc, rb, ra, SidesOk, h0, h1]
theorem day_e {lo hi : Int} (z0 : lo ≤ 0 ∧ 0 ≤ hi) (z1 : lo ≤ d0 ∧ d0 ≤ hi) (z2 : lo ≤ ds ∧ ds ≤ hi) (z3 : lo ≤ d1 ∧ d1 ≤ hi) (z4 : lo ≤ d2 ∧ d2 ≤ hi) : ∀ r ∈ re A B C d0 s ds c d1 d2 p, lo ≤ r.day ∧ r.day ≤ hi := by
  cases A <;> cases B <;> cases C <;> simp [re, rd, rc, rb, ra, Rw.day, z0, z1, z2, z3, z4]
theorem till_e {d3 : Int} (z0 : 0 ≤ d3) (z1 : d0 ≤ d3) (z2 : ds ≤ d3) (z3 : d1 ≤ d3) (z4 : d2 ≤ d3) : tillR (re A B C d0 s ds c d1 d2 p) d3 = re A B C d0 s ds c d1 d2 p := by
  unfold tillR
  rw [List.filter_eq_self]
  cases A <;> cases B <;> cases C <;> simp [re, rd, rc, rb, ra, Rw.day, z0, z1, z2, z3, z4]
theorem lines_e {many : Nat} : linesW many (re A B C d0 s ds c d1 d2 p) = [⟨(ra A d0 s).length, 0, c, "open", tab many fun i => if (i : Int) = s then c else 0⟩] := by
  cases A <;> cases B <;> cases C <;> rfl
theorem paid_e {one : Int} : paidW (re A B C d0 s ds c d1 d2 p) one = if s = one then p else 0 := by
  unfold paidW
  cases A <;> cases B <;> cases C <;> by_cases e : s = one <;> simp [re, rd, rc, rb, ra, payW, coinsW, e]
theorem br_e {many one : Nat} (h : one < many) : brW (linesW many (re A B C d0 s ds c d1 d2 p)) one = if (one : Int) = s ∧ c > 0 then [((((ra A d0 s).length : Nat) : Int), c, ("open" : Str))] else [] := by
  rw [lines_e]
  unfold brW
  have e : (tab many fun i => if (i : Int) = s then c else 0).getD one 0 = if (one : Int) = s then c else 0 := by
    unfold tab
    simp [List.getD, h]
  rw [List.filter_cons, List.filter_nil]
  dsimp only
  rw [e]
  by_cases h1 : (one : Int) = s
  · by_cases h2 : c > 0
    · rw [if_pos h1, if_pos (decide_eq_true h2), if_pos ⟨h1, h2⟩, List.map_cons, List.map_nil]
      dsimp only
      rw [e, if_pos h1]
    · rw [if_pos h1, if_neg (fun z => h2 (of_decide_eq_true z)), if_neg (fun z => h2 z.2), List.map_nil]
  · rw [if_neg h1, if_neg (fun z => by have := of_decide_eq_true z; omega), if_neg (fun z => h1 z.1), List.map_nil]
theorem tab_getD {n i : Nat} {F : Nat → Int} (h : i < n) : (tab n F).getD i 0 = F i := by unfold tab; simp [List.getD, h]
theorem owed_at {many : Nat} {rows : List Rw} {i : Nat} {x : Int × List Int} (h : i < rows.length) : (owedW many rows).getD i x = (rows[i].day, tab many fun s => borneW (rows.take (i + 1)) s - paidW (rows.take (i + 1)) s) := by
  unfold owedW
  simp [List.getD, h]
theorem owed_out {many : Nat} {rows : List Rw} {i : Nat} {x : Int × List Int} (h : rows.length ≤ i) : (owedW many rows).getD i x = x := by
  unfold owedW
  simp [List.getD, h]
def at1 (rows : List Rw) (day f : Int) (one i : Nat) : Int :=
  let en := if h : i + 1 < rows.length then rows[i + 1].day else day
  let st := (rows.getD i (.dun 0 0 0)).day
  let ow := borneW (rows.take (i + 1)) one - paidW (rows.take (i + 1)) one
  if en - (if f > st then f else st) > 0 then (if 0 > ow then 0 else ow) * (en - (if f > st then f else st)) else 0
theorem cd1_at {many : Nat} {rows : List Rw} {day f : Int} {one i : Nat} (h : i < rows.length) (ho : one < many) : cd1 (owedW many rows) day f one i = at1 rows day f one i := by
  unfold cd1 at1
  rw [owed_at h, tab_getD ho]
  have e1 : rows.getD i (.dun 0 0 0) = rows[i] := by simp [List.getD, h]
  have e2 : ((owedW many rows).getD (i + 1) (day, [])).1 = if h : i + 1 < rows.length then rows[i + 1].day else day := by
    by_cases h' : i + 1 < rows.length
    · rw [owed_at h', dif_pos h']
    · rw [owed_out (by omega), dif_neg h']
  rw [e1, e2]
theorem cdW_at {many : Nat} {rows : List Rw} {day f : Int} {one : Nat} (ho : one < many) : cdW (owedW many rows) day f one = ((List.range rows.length).map fun i => at1 rows day f one i).sum := by
  unfold cdW
  rw [owed_len]
  congr 1
  exact List.map_congr_left fun i hi => cd1_at (List.mem_range.mp hi) ho
theorem ifm {a b x : Int} (h : a ≤ b) : (if a < b then x * (b - a) else 0) = x * (b - a) := by
  split
  · rfl
  · rw [show b - a = 0 by omega, Int.mul_zero]
theorem if1 {a b : Int} (h : a ≤ b) : (if a < b then b else a) = b := by split <;> omega
theorem if2 {a b : Int} (h : a ≤ b) : (if b < a then a else b) = b := by split <;> omega
theorem if3 {a : Int} (h : 0 ≤ a) : (if a < 0 then 0 else a) = a := by split <;> omega
theorem if4 {c p : Int} : (if c - p < 0 then 0 else c - p) = (if p < c then c - p else 0) := by split <;> split <;> omega
theorem if5 {a b x : Int} : (if a < a then b else x) = x := if_neg (by omega)
theorem cd_e {many one : Nat} {d3 : Int} (ho : one < many) (hAB : (A && B) = false) (hC : C = true → (A || B) = true) (hA : A = true → ds = d1) (hB : B = true → ds = d0) (h0 : 0 ≤ d0) (h1 : d0 ≤ d1) (h2 : d1 ≤ d2) (h3 : d2 ≤ d3) (hc : 0 ≤ c) :
    coinDays (re A B C d0 s ds c d1 d2 p) (owedW many (re A B C d0 s ds c d1 d2 p)) d3 one = if (one : Int) = s ∧ (A || B) = true then c * (d2 - d1) + (if c - p > 0 then c - p else 0) * (d3 - d2) else 0 := by
  unfold coinDays
  by_cases e : s = (one : Int)
  · subst e
    cases A <;> cases B <;> cases C
    · simp [dunW, dunIs, re, rd, rc, rb, ra]
    · simp at hC
    · have := hB rfl
      subst this
      rw [show dunW (re false true false ds one ds c d1 d2 p) one = some d1 by simp [dunW, dunIs, re, rd, rc, rb, ra, Rw.day]]
      show cdW _ _ _ _ = _
      rw [cdW_at ho]
      simp [re, rd, rc, rb, ra, at1, List.range_succ, borneW, paidW, isStep, sideW, costW, payW, coinsW, Rw.day]
      rw [if1 h1, if2 h2, if3 hc, if4, ifm h2, ifm h3, if5]
      omega
    · have := hB rfl
      subst this
      rw [show dunW (re false true true ds one ds c d1 d2 p) one = some d1 by simp [dunW, dunIs, re, rd, rc, rb, ra, Rw.day]]
      show cdW _ _ _ _ = _
      rw [cdW_at ho]
      simp [re, rd, rc, rb, ra, at1, List.range_succ, borneW, paidW, isStep, sideW, costW, payW, coinsW, Rw.day]
      rw [if1 h1, if2 h2, if3 hc, if4, ifm h2, ifm h3, if5]
      omega
    · have := hA rfl
      subst this
      rw [show dunW (re true false false d0 one ds c ds d2 p) one = some d0 by simp [dunW, dunIs, re, rd, rc, rb, ra, Rw.day]]
      show cdW _ _ _ _ = _
      rw [cdW_at ho]
      simp [re, rd, rc, rb, ra, at1, List.range_succ, borneW, paidW, isStep, sideW, costW, payW, coinsW, Rw.day]
      rw [if2 h1, if2 (Int.le_trans h1 h2), if3 hc, if4, ifm h2, ifm h3]
    · have := hA rfl
      subst this
      rw [show dunW (re true false true d0 one ds c ds d2 p) one = some d0 by simp [dunW, dunIs, re, rd, rc, rb, ra, Rw.day]]
      show cdW _ _ _ _ = _
      rw [cdW_at ho]
      simp [re, rd, rc, rb, ra, at1, List.range_succ, borneW, paidW, isStep, sideW, costW, payW, coinsW, Rw.day]
      rw [if2 h1, if2 (Int.le_trans h1 h2), if3 hc, if4, ifm h2, ifm h3]
      omega
    · simp at hAB
    · simp at hAB
  · rw [show dunW (re A B C d0 s ds c d1 d2 p) one = none by cases A <;> cases B <;> cases C <;> simp [dunW, dunIs, re, rd, rc, rb, ra, e]]
    rw [if_neg (fun z => e z.1.symm)]
def dueB (A B : Bool) (d0 s c d1 d2 d3 p : Int) (one : Nat) (row : Int) : Bl :=
  if (one : Int) = s then ⟨if c > 0 then [(row, c, "open")] else [], c, if (A || B) = true then (c * (d2 - d1) + (if c - p > 0 then c - p else 0) * (d3 - d2)) * 5 / 36500 else 0, p, c + (if (A || B) = true then (c * (d2 - d1) + (if c - p > 0 then c - p else 0) * (d3 - d2)) * 5 / 36500 else 0) - p⟩ else ⟨[], 0, 0, 0, 0⟩
theorem bill_e {many one : Nat} {d3 : Int} (ho : one < many) (hAB : (A && B) = false) (hC : C = true → (A || B) = true) (hA : A = true → ds = d1) (hB : B = true → ds = d0) (h0 : 0 ≤ d0) (h1 : d0 ≤ d1) (h2 : d1 ≤ d2) (h3 : d2 ≤ d3) (hds : ds ≤ d3) (hc : 0 ≤ c) :
    billW (linesW many (tillR (re A B C d0 s ds c d1 d2 p) d3)) (tillR (re A B C d0 s ds c d1 d2 p) d3) one (5 * coinDays (tillR (re A B C d0 s ds c d1 d2 p) d3) (owedW many (tillR (re A B C d0 s ds c d1 d2 p) d3)) d3 one / 36500) = dueB A B d0 s c d1 d2 d3 p one (ra A d0 s).length := by
  rw [till_e (by omega) (by omega) hds (by omega) h3, cd_e ho hAB hC hA hB h0 h1 h2 h3 hc]
  unfold billW dueB
  rw [br_e ho, paid_e]
  by_cases e : (one : Int) = s
  · rw [if_pos e.symm, if_pos e]
    have eb : ((if (one : Int) = s ∧ c > 0 then [((((ra A d0 s).length : Nat) : Int), c, ("open" : Str))] else []).map fun x => x.2.1).sum = c := by
      by_cases h : c > 0
      · rw [if_pos ⟨e, h⟩]; simp
      · rw [if_neg (fun z => h z.2)]
        show (0 : Int) = c
        omega
    have er : (if (one : Int) = s ∧ c > 0 then [((((ra A d0 s).length : Nat) : Int), c, ("open" : Str))] else []) = if c > 0 then [((((ra A d0 s).length : Nat) : Int), c, ("open" : Str))] else [] := by
      by_cases h : c > 0
      · rw [if_pos ⟨e, h⟩, if_pos h]
      · rw [if_neg (fun z => h z.2), if_neg h]
    have ec : (5 * (if (one : Int) = s ∧ (A || B) = true then c * (d2 - d1) + (if c - p > 0 then c - p else 0) * (d3 - d2) else 0)) / 36500 = if (A || B) = true then (c * (d2 - d1) + (if c - p > 0 then c - p else 0) * (d3 - d2)) * 5 / 36500 else 0 := by
      by_cases h : (A || B) = true
      · rw [if_pos ⟨e, h⟩, if_pos h, Int.mul_comm]
      · rw [if_neg (fun z => h z.2), if_neg h]
        rfl
    dsimp only
    rw [ec, eb, er]
  · have e' : ¬ s = (one : Int) := fun z => e z.symm
    have e1 : ¬ ((one : Int) = s ∧ c > 0) := fun z => e z.1
    have e2 : ¬ ((one : Int) = s ∧ (A || B) = true) := fun z => e z.1
    simp only [if_neg e', if_neg e, if_neg e1, if_neg e2]
    rfl
theorem ne_e : re A B C d0 s ds c d1 d2 p ≠ [] := by cases A <;> cases B <;> cases C <;> simp [re, rd, rc, rb, ra]
theorem len_a : (ra A d0 s).length ≤ 2 := by cases A <;> simp [ra]
end
theorem andJ {c : Bool} {tb : TE} {σ : St} {H : Hp} {Q : VK} (v : Bool) (h1 : c = true → Q (.bl v) H → tb σ H Q) (h2 : c = false → v = false) (q : Q (.bl v) H) : if c = true then tb σ H Q else Q (.bl false) H := by
  cases c with
  | true => rw [if_pos rfl]; exact h1 rfl q
  | false => rw [if_neg (by decide)]; rw [h2 rfl] at q; exact q
end L2

set_option Elab.async false
set_option linter.all false
set_option maxRecDepth 100000
set_option maxHeartbeats 4000000
namespace My
open PySem L2
def top (i : Nat) : Stmt := PySem.Challenge.pw_costorder_k29_interest_of_one_debt.main.body.getD i (.Pass ⟨0, 0, 0, 0⟩)
abbrev sInterest : Stmt := top 11
abbrev sCostOf : Stmt := top 21
abbrev sClaimRow : Stmt := top 49
abbrev sStepRow : Stmt := top 51
abbrev sPayRow : Stmt := top 54
abbrev sDunRow : Stmt := top 55
abbrev sRoundsOf : Stmt := top 56
abbrev sPutRow : Stmt := top 57
abbrev sOverOf : Stmt := top 58
abbrev sClaimsOf : Stmt := top 59
abbrev sFindClaim : Stmt := top 60
abbrev sWorthOf : Stmt := top 61
abbrev sRowsUntil : Stmt := top 62
abbrev sCheckRow : Stmt := top 63
abbrev sCheckNext : Stmt := top 64
abbrev sLacksClaim : Stmt := top 65
abbrev sMeetsOver : Stmt := top 66
abbrev sComesTwice : Stmt := top 67
abbrev sNamesTooMuch : Stmt := top 68
abbrev sWorthIn : Stmt := top 69
abbrev sLinesOf : Stmt := top 74
abbrev sLineOf : Stmt := top 75
abbrev sCostsOf : Stmt := top 76
abbrev sOffersOf : Stmt := top 78
abbrev sLineOfOne : Stmt := top 81
abbrev sBillsOf : Stmt := top 84
abbrev sBillOf : Stmt := top 85
abbrev sPaysOf : Stmt := top 86
abbrev sOwedOf : Stmt := top 87
abbrev sCoinDaysOf : Stmt := top 89
abbrev sFirstDun : Stmt := top 90
abbrev sLAt : Stmt := top 94
abbrev sLInt : Stmt := top 95
abbrev sLInts : Stmt := top 96
abbrev sLSameBill : Stmt := top 97
abbrev sLCoins : Stmt := top 98
abbrev sLaw : Stmt := top 99
abbrev sBookInit : Stmt := inClass (top 92) 0
abbrev sBookClaim : Stmt := inClass (top 92) 1
abbrev sBookStep : Stmt := inClass (top 92) 3
abbrev sBookPay : Stmt := inClass (top 92) 6
abbrev sBookDun : Stmt := inClass (top 92) 7
abbrev sBookWrite : Stmt := inClass (top 92) 8
abbrev sBookRowsKept : Stmt := inClass (top 92) 11
abbrev sBookBills : Stmt := inClass (top 92) 15
abbrev sBookBill : Stmt := inClass (top 92) 16
/-- the script's cell -/
def cell (ns : List Int) (k : Int) : Int := if ns = [] then 0 else ns.getD (k % (ns.length : Int)).toNat 0 + 31 * (k / (ns.length : Int))
def spAt (K : PySem.W.Frag) : Sp := fun vs H Q _ => ∃ (a : Addr) (ns : List Int) (k : Int), vs = [.ref a, .int k] ∧ SqL K H a (ns.map V.int) ∧ ns.length ≤ 63 ∧ ∀ H', Same H H' → Q (.int (cell ns k)) H'
theorem r_at {K : PySem.W.Frag} {H : Hp} {Q : VK} {E : XK} {a : Addr} {ns : List Int} {k : Int} (h : SqL K H a (ns.map V.int)) (hl : ns.length ≤ 63) (q : ∀ H', Same H H' → Q (.int (cell ns k)) H') : spAt K ([.ref a, .int k] ++ []) H Q E := ⟨a, ns, k, rfl, h, hl, q⟩
def spInt : Sp := fun vs H Q _ => ∃ i, vs = [.int i] ∧ Q (.bl true) H
theorem r_int {H : Hp} {Q : VK} {E : XK} {i : Int} (q : Q (.bl true) H) : spInt ([.int i] ++ []) H Q E := ⟨i, rfl, q⟩
def spLawT (K : PySem.W.Frag) (T : Addr) : Sp := fun vs H Q _ => ∃ (a : Addr) (ns : List Int), vs = [.ref a] ∧ SqL K H a (ns.map V.int) ∧ ns.length ≤ 63 ∧ H T = some (.tbl #[]) ∧ ∀ H', Q (.bl true) H'
def spLaw (K : PySem.W.Frag) : Sp := fun vs H Q _ => ∃ (a : Addr) (ns : List Int), vs = [.ref a] ∧ SqL K H a (ns.map V.int) ∧ ns.length ≤ 63 ∧ ∀ H', Q (.bl true) H'

structure Txt (K : PySem.W.Frag) (mg : Str → Option Value) (cB c_CostError c_Full c_NoClaim c_RoundOver c_TooLate c_Twice c_TooMuch : Addr) : Prop where
  b_any : mg "any" = none
  b_bool : mg "bool" = none
  b_enumerate : mg "enumerate" = none
  b_int : mg "int" = none
  b_isinstance : mg "isinstance" = none
  b_len : mg "len" = none
  b_list : mg "list" = none
  b_max : mg "max" = none
  b_range : mg "range" = none
  b_set : mg "set" = none
  b_str : mg "str" = none
  b_sum : mg "sum" = none
  b_tuple : mg "tuple" = none
  b_zip : mg "zip" = none
  c_CLAIM : ∃ t, mg "CLAIM" = some (.int (3) t)
  c_DAY : ∃ t, mg "DAY" = some (.int (2) t)
  c_DUN_SIDE : ∃ t, mg "DUN_SIDE" = some (.int (3) t)
  c_INTEREST_COINS : ∃ t, mg "INTEREST_COINS" = some (.int (5) t)
  c_INTEREST_COIN_DAYS : ∃ t, mg "INTEREST_COIN_DAYS" = some (.int (36500) t)
  c_LINE_PARTS : ∃ t, mg "LINE_PARTS" = some (.int (4) t)
  c_LINE_REASON : ∃ t, mg "LINE_REASON" = some (.int (3) t)
  c_LINE_ROW : ∃ t, mg "LINE_ROW" = some (.int (0) t)
  c_MOST_ROWS : ∃ t, mg "MOST_ROWS" = some (.int (300) t)
  c_NUMBER : ∃ t, mg "NUMBER" = some (.int (0) t)
  c_OFFER_AMOUNT : ∃ t, mg "OFFER_AMOUNT" = some (.int (5) t)
  c_OFFER_CLAIM : ∃ t, mg "OFFER_CLAIM" = some (.int (4) t)
  c_PAY_COINS : ∃ t, mg "PAY_COINS" = some (.int (5) t)
  c_PAY_SIDE : ∃ t, mg "PAY_SIDE" = some (.int (3) t)
  c_ROUNDS : ∃ t, mg "ROUNDS" = some (.int (3) t)
  c_RULE_WINS : ∃ t, mg "RULE_WINS" = some (.int (5) t)
  c_STEP_KIND : ∃ t, mg "STEP_KIND" = some (.int (5) t)
  c_STEP_LAID : ∃ t, mg "STEP_LAID" = some (.int (7) t)
  c_STEP_MANY : ∃ t, mg "STEP_MANY" = some (.int (6) t)
  c_STEP_SIDE : ∃ t, mg "STEP_SIDE" = some (.int (4) t)
  c_TURN : ∃ t, mg "TURN" = some (.int (3) t)
  c_WORD : ∃ t, mg "WORD" = some (.int (1) t)
  c_WORTH : ∃ t, mg "WORTH" = some (.int (3) t)
  cl : Cls K cB
  mgC : mg "Book" = some (.ref cB)
  n_people : NoAttr K cB "people"
  n_court : NoAttr K cB "court"
  n_speakers : NoAttr K cB "speakers"
  n_rows : NoAttr K cB "rows"
  n_came : NoAttr K cB "came"
  n_went : NoAttr K cB "went"
  n_done : NoAttr K cB "done"
  y_CostError : mg "CostError" = some (.ref c_CostError)
  y_Full : mg "Full" = some (.ref c_Full)
  y_NoClaim : mg "NoClaim" = some (.ref c_NoClaim)
  y_RoundOver : mg "RoundOver" = some (.ref c_RoundOver)
  y_TooLate : mg "TooLate" = some (.ref c_TooLate)
  y_Twice : mg "Twice" = some (.ref c_Twice)
  y_TooMuch : mg "TooMuch" = some (.ref c_TooMuch)
  x_Full : ExcCls K c_Full
  x_NoClaim : ExcCls K c_NoClaim
  x_RoundOver : ExcCls K c_RoundOver
  x_TooLate : ExcCls K c_TooLate
  x_Twice : ExcCls K c_Twice
  x_TooMuch : ExcCls K c_TooMuch
  xc : ∀ C ∈ [c_Full, c_NoClaim, c_RoundOver, c_TooLate, c_Twice, c_TooMuch], XCls K C
  xm : ∀ C ∈ [c_Full, c_NoClaim, c_RoundOver, c_TooLate, c_Twice, c_TooMuch], PySem.W.exmOne K (.ref C) (.ref c_CostError) = some true
  k_Full_NoClaim : PySem.W.kitOne K (.ref c_Full) (.ref c_NoClaim) = some false
  k_Full_RoundOver : PySem.W.kitOne K (.ref c_Full) (.ref c_RoundOver) = some false
  k_Full_TooLate : PySem.W.kitOne K (.ref c_Full) (.ref c_TooLate) = some false
  k_Full_Twice : PySem.W.kitOne K (.ref c_Full) (.ref c_Twice) = some false
  k_Full_TooMuch : PySem.W.kitOne K (.ref c_Full) (.ref c_TooMuch) = some false
  k_NoClaim_Full : PySem.W.kitOne K (.ref c_NoClaim) (.ref c_Full) = some false
  k_NoClaim_RoundOver : PySem.W.kitOne K (.ref c_NoClaim) (.ref c_RoundOver) = some false
  k_NoClaim_TooLate : PySem.W.kitOne K (.ref c_NoClaim) (.ref c_TooLate) = some false
  k_NoClaim_Twice : PySem.W.kitOne K (.ref c_NoClaim) (.ref c_Twice) = some false
  k_NoClaim_TooMuch : PySem.W.kitOne K (.ref c_NoClaim) (.ref c_TooMuch) = some false
  k_RoundOver_Full : PySem.W.kitOne K (.ref c_RoundOver) (.ref c_Full) = some false
  k_RoundOver_NoClaim : PySem.W.kitOne K (.ref c_RoundOver) (.ref c_NoClaim) = some false
  k_RoundOver_TooLate : PySem.W.kitOne K (.ref c_RoundOver) (.ref c_TooLate) = some false
  k_RoundOver_Twice : PySem.W.kitOne K (.ref c_RoundOver) (.ref c_Twice) = some false
  k_RoundOver_TooMuch : PySem.W.kitOne K (.ref c_RoundOver) (.ref c_TooMuch) = some false
  k_TooLate_Full : PySem.W.kitOne K (.ref c_TooLate) (.ref c_Full) = some false
  k_TooLate_NoClaim : PySem.W.kitOne K (.ref c_TooLate) (.ref c_NoClaim) = some false
  k_TooLate_RoundOver : PySem.W.kitOne K (.ref c_TooLate) (.ref c_RoundOver) = some false
  k_TooLate_Twice : PySem.W.kitOne K (.ref c_TooLate) (.ref c_Twice) = some false
  k_TooLate_TooMuch : PySem.W.kitOne K (.ref c_TooLate) (.ref c_TooMuch) = some false
  k_Twice_Full : PySem.W.kitOne K (.ref c_Twice) (.ref c_Full) = some false
  k_Twice_NoClaim : PySem.W.kitOne K (.ref c_Twice) (.ref c_NoClaim) = some false
  k_Twice_RoundOver : PySem.W.kitOne K (.ref c_Twice) (.ref c_RoundOver) = some false
  k_Twice_TooLate : PySem.W.kitOne K (.ref c_Twice) (.ref c_TooLate) = some false
  k_Twice_TooMuch : PySem.W.kitOne K (.ref c_Twice) (.ref c_TooMuch) = some false
  k_TooMuch_Full : PySem.W.kitOne K (.ref c_TooMuch) (.ref c_Full) = some false
  k_TooMuch_NoClaim : PySem.W.kitOne K (.ref c_TooMuch) (.ref c_NoClaim) = some false
  k_TooMuch_RoundOver : PySem.W.kitOne K (.ref c_TooMuch) (.ref c_RoundOver) = some false
  k_TooMuch_TooLate : PySem.W.kitOne K (.ref c_TooMuch) (.ref c_TooLate) = some false
  k_TooMuch_Twice : PySem.W.kitOne K (.ref c_TooMuch) (.ref c_Twice) = some false

def spClaimRow : Sp := fun vs H Q _ => ∃ n d c a b w, vs = [.int n, .int d, .int c, .int a, .int b, .int w] ∧ ∀ p H', Same H H' → H p = none → RowAt H' p (.claim n d c a b w) → Q (.ref p) H'
def spRuleRow (K : PySem.W.Frag) : Sp := fun vs H Q _ => ∃ n d t l bk as ws, vs = [.int n, .int d, .int t, .ref l, .bl bk] ∧ SqL K H l (List.map V.ref as) ∧ TabIs H as ws ∧ (∀ x ∈ ws, x.length = 2) ∧ ws.length ≤ 1000 ∧ ∀ p H', Same H H' → H p = none → RowAt H' p (.rule n d t bk ws) → Q (.ref p) H'
def spCarryRow : Sp := fun vs H Q _ => ∃ n d c, vs = [.int n, .int d, .int c] ∧ ∀ p H', Same H H' → H p = none → RowAt H' p (.carry n d c) → Q (.ref p) H'
def spStepRow : Sp := fun vs H Q _ => ∃ n d t sd k m l, vs = [.int n, .int d, .int t, .int sd, .str k, .int m, .str l] ∧ ∀ p H', Same H H' → H p = none → RowAt H' p (.step n d t sd k m l) → Q (.ref p) H'
def spOfferRow : Sp := fun vs H Q _ => ∃ n d t c a, vs = [.int n, .int d, .int t, .int c, .int a] ∧ ∀ p H', Same H H' → H p = none → RowAt H' p (.offer n d t c a) → Q (.ref p) H'
def spFind (K : PySem.W.Frag) : Sp := fun vs H Q _ => ∃ a cs r c, vs = [.ref a, .int c] ∧ SqL K H a (List.map V.ref cs) ∧ TabIs H cs r ∧ (∀ x ∈ r, x.length = 4) ∧ ∀ v, Hit H r c v → Q v H
def spOver (K : PySem.W.Frag) : Sp := fun vs H Q _ => ∃ p xs, vs = [.ref p] ∧ SqL K H p xs ∧ Q (.int ((xs.length : Int) - 1)) H
def spClaims : Sp := fun vs H Q _ => ∃ p ls rs t, vs = [.ref p, .int t] ∧ RdsAt H p ls rs ∧ ∀ l cs, H l = none → TabIs H cs (claimsR rs t) → Q (.ref l) (upd H l (.lst (List.map V.ref cs)))
def F4 (rs : Rds) : Prop := ∀ x ∈ rs, ∀ y ∈ x, y.length = 4
theorem F4.claims {rs : Rds} {t : Int} (f : F4 rs) : ∀ x ∈ claimsR rs t, x.length = 4 := fun x hx => by
  unfold claimsR at hx
  split at hx
  · exact f _ (rdsD_mem hx) x hx
  · cases hx
def spPut : Sp := fun vs H Q _ => ∃ p q ls rs r, vs = [.ref p, .ref q] ∧ RdsAt H p ls rs ∧ rs ≠ [] ∧ (∀ x ∈ rs, x.length ≤ 500) ∧ rs.length ≤ 500 ∧ F4 rs ∧ RowAt H q r ∧ OkPut rs r ∧
  ∀ ls' H', RdsAt H' p ls' (putR rs r) → (∀ x o, H x = some o → x ≠ p → x ∉ ls → H' x = some o) → (∀ l ∈ ls', l ∈ ls ∨ H l = none) → Q .non H'
def spRounds (K : PySem.W.Frag) : Sp := fun vs H Q _ => ∃ a ps rows, vs = [.ref a] ∧ SqL K H a (List.map V.ref ps) ∧ RowsAt H ps rows ∧ OkRows rows ∧ rows.length ≤ 300 ∧ ∀ p ls H', Same H H' → H p = none → RdsAt H' p ls (roundsR rows) → Q (.ref p) H'
def spLacks : Sp := fun vs H Q _ => ∃ p q ls rs r, vs = [.ref p, .ref q] ∧ RdsAt H p ls rs ∧ F4 rs ∧ RowAt H q r ∧ ∀ H', Same H H' → Q (.bl (lacksR rs r)) H'
def spMeets : Sp := fun vs H Q _ => ∃ p q ls rs r, vs = [.ref p, .ref q] ∧ RdsAt H p ls rs ∧ RowAt H q r ∧ ∀ H', Same H H' → Q (.bl (meetsR rs r)) H'
def spTwice : Sp := fun vs H Q _ => ∃ p q ls rs r, vs = [.ref p, .ref q] ∧ RdsAt H p ls rs ∧ rs ≠ [] ∧ F4 rs ∧ RowAt H q r ∧ ∀ H', Same H H' → Q (.bl (twiceR rs r)) H'
def spMuch : Sp := fun vs H Q _ => ∃ p q ls rs r, vs = [.ref p, .ref q] ∧ RdsAt H p ls rs ∧ F4 rs ∧ RowAt H q r ∧ lacksR rs r = false ∧ ∀ H', Same H H' → Q (.bl (muchR rs r)) H'
def spWorth : Sp := fun vs H Q _ => ∃ p q ls rs c y0 y1 y2 t ys, vs = [.ref p, .ref q, .int c] ∧ RdsAt H p ls rs ∧ F4 rs ∧ H q = some (.tup (y0 :: y1 :: y2 :: .int t :: ys)) ∧ ((claimsR rs t).any fun x => x.getD 0 0 == c) = true ∧ ∀ H', Same H H' → Q (.int (worthR rs t c)) H'
def spNext (cs : List Addr) : Sp := fun vs H Q E => ∃ p lv wn q ls rs last r, vs = [.ref p, lv, .int wn, .ref q] ∧ RdsAt H p ls rs ∧ rs ≠ [] ∧ F4 rs ∧ LastAt H lv last ∧ RowAt H q r ∧
  (refuseR rs last wn r = none → ∀ H', Same H H' → Q .non H') ∧ (∀ k, refuseR rs last wn r = some k → ∀ t H', Same H H' → H' t = some (.tup [.str (msgR k)]) → E (.ref (cs.getD k 0)) (some t) H')
def spCheck (K : PySem.W.Frag) (cs : List Addr) : Sp := fun vs H Q E => ∃ a wn q ps rows r, vs = [.ref a, .int wn, .ref q] ∧ SqL K H a (List.map V.ref ps) ∧ RowsAt H ps rows ∧ OkRows rows ∧ rows.length ≤ 300 ∧ RowAt H q r ∧
  (refuseR (roundsR rows) (lastR rows) wn r = none → ∀ H', Same H H' → Q .non H') ∧ (∀ k, refuseR (roundsR rows) (lastR rows) wn r = some k → ∀ t H', Same H H' → H' t = some (.tup [.str (msgR k)]) → E (.ref (cs.getD k 0)) (some t) H')

def spPayRow : Sp := fun vs H Q _ => ∃ n d s p c, vs = [.int n, .int d, .int s, .int p, .int c] ∧ ∀ a H', Same H H' → H a = none → RowAt H' a (.pay n d s p c) → Q (.ref a) H'
def spDunRow : Sp := fun vs H Q _ => ∃ n d s, vs = [.int n, .int d, .int s] ∧ ∀ a H', Same H H' → H a = none → RowAt H' a (.dun n d s) → Q (.ref a) H'
def spInitU (K : PySem.W.Frag) (cB : Addr) : Sp := fun vs H Q _ => ∃ b a1 a2 a3 dx x1 c2 t2 c3 t3, vs = [.ref b, .ref a1, .ref a2, .ref a3] ∧ H b = some (.ins cB dx []) ∧ SqL K H a1 (List.map V.int x1) ∧ SqL K H a2 (List.map V.ref c2) ∧ TabIs H c2 t2 ∧ SqL K H a3 (List.map V.ref c3) ∧ TabIs H c3 t3 ∧ a1 ≠ b ∧ a2 ≠ b ∧ a3 ≠ b ∧
  ∀ (A : BkA) H', A.b = b → BuAt cB H' A ⟨x1, t2, t3⟩ [] 0 → (∀ x ∈ A.all, x ≠ b → H x = none) → (∀ x o, H x = some o → x ≠ b → H' x = some o) → Q .non H'
def spKeptRowsU (cB : Addr) : Sp := fun vs H Q _ => ∃ A C es dn mv m, vs = [.ref (BkA.b A), mv] ∧ BuAt cB H A C es dn ∧ es.length ≤ 300 ∧ ((mv = .non ∧ m = dn) ∨ mv = .int m) ∧
  ∀ l ps H', Same H H' → H l = none → H' l = some (.lst (List.map V.ref ps)) → RowsAt H' ps (keptE es m) → Q (.ref l) H'
def spWriteU (cB : Addr) (cs : List Addr) : Sp := fun vs H Q E => ∃ A C es dn q r, vs = [.ref (BkA.b A), .ref q] ∧ BuAt cB H A C es dn ∧ OkRows (keptE es dn) ∧ es.length ≤ 300 ∧ RowAt H q r ∧
  (refuseR (roundsR (keptE es dn)) (lastR (keptE es dn)) es.length r = none → ∀ H', BuAt cB H' A C (es ++ [⟨r, dn + 1, none⟩]) (dn + 1) → SameU A H H' → Q (.int r.num) H') ∧
  (∀ k, refuseR (roundsR (keptE es dn)) (lastR (keptE es dn)) es.length r = some k → ∀ t H', Same H H' → H' t = some (.tup [.str (msgR k)]) → E (.ref (cs.getD k 0)) (some t) H')
/-- what a method that writes a row promises -/
def WrU (cB : Addr) (cs : List Addr) (A : BkA) (C : BkC) (es : List En) (dn : Int) (r : Rw) (H : Hp) (Q : VK) (E : XK) : Prop := BuAt cB H A C es dn ∧ OkRows (keptE es dn) ∧ es.length ≤ 300 ∧
  (refuseR (roundsR (keptE es dn)) (lastR (keptE es dn)) es.length r = none → ∀ H', BuAt cB H' A C (es ++ [⟨r, dn + 1, none⟩]) (dn + 1) → SameU A H H' → Q (.int r.num) H') ∧
  (∀ k, refuseR (roundsR (keptE es dn)) (lastR (keptE es dn)) es.length r = some k → ∀ t H', Same H H' → H' t = some (.tup [.str (msgR k)]) → E (.ref (cs.getD k 0)) (some t) H')
def spPayU (cB : Addr) (cs : List Addr) : Sp := fun vs H Q E => ∃ A C es dn d s p c, vs = [.ref (BkA.b A), .int d, .int s, .int p, .int c] ∧ WrU cB cs A C es dn (.pay es.length d s p c) H Q E
def spDunU (cB : Addr) (cs : List Addr) : Sp := fun vs H Q E => ∃ A C es dn d s, vs = [.ref (BkA.b A), .int d, .int s] ∧ WrU cB cs A C es dn (.dun es.length d s) H Q E
def spClaimU (cB : Addr) (cs : List Addr) : Sp := fun vs H Q E => ∃ A C es dn d c a bb w1, vs = [.ref (BkA.b A), .int d, .int c, .int a, .int bb, .int w1] ∧ WrU cB cs A C es dn (.claim es.length d c a bb w1) H Q E
def spStepU (cB : Addr) (cs : List Addr) : Sp := fun vs H Q E => ∃ A C es dn d t sd kk m l, vs = [.ref (BkA.b A), .int d, .int t, .int sd, .str kk, .int m, .str l] ∧ WrU cB cs A C es dn (.step es.length d t sd kk m l) H Q E
def spCarryU (cB : Addr) (cs : List Addr) : Sp := fun vs H Q E => ∃ A C es dn d c, vs = [.ref (BkA.b A), .int d, .int c] ∧ WrU cB cs A C es dn (.carry es.length d c) H Q E
def spOfferU (cB : Addr) (cs : List Addr) : Sp := fun vs H Q E => ∃ A C es dn d t c a, vs = [.ref (BkA.b A), .int d, .int t, .int c, .int a] ∧ WrU cB cs A C es dn (.offer es.length d t c a) H Q E
def spAnew (K : PySem.W.Frag) : Sp := fun vs H Q _ => ∃ a ps rows, vs = [.ref a] ∧ SqL K H a (List.map V.ref ps) ∧ RowsAt H ps rows ∧ AnewOk rows ∧ rows.length ≤ 300 ∧ ∀ H', Same H H' → Q .non H'
def spUndoU (cB : Addr) (cs : List Addr) : Sp := fun vs H Q E => ∃ A C es dn i, vs = [.ref (BkA.b A), .int i] ∧ BuAt cB H A C es dn ∧ es.length ≤ 300 ∧ NumE es ∧ AnewOk ((keptE es dn).filter fun r => decide (r.num ≠ i)) ∧
  ((∃ r ∈ keptE es dn, r.num = i) → ∀ H', BuAt cB H' A C (goneE es i (dn + 1)) (dn + 1) → SameU A H H' → Q (.int i) H') ∧
  ((¬ ∃ r ∈ keptE es dn, r.num = i) → ∀ t H', Same H H' → H' t = some (.tup [.str "no such row"]) → E (.ref (cs.getD 6 0)) (some t) H')
def spMarkU (cB : Addr) : Sp := fun vs H Q _ => ∃ A C es dn, vs = [.ref (BkA.b A)] ∧ BuAt cB H A C es dn ∧ Q (.int dn) H
def spTextU : Sp := fun vs H Q _ => ∃ p r, vs = [.ref p] ∧ RowAt H p r ∧ FitU r ∧ ∀ H', Same H H' → Q (.str (textU r)) H'
def spKeptU (cB : Addr) : Sp := fun vs H Q _ => ∃ A C es dn mv m, vs = [.ref (BkA.b A), mv] ∧ BuAt cB H A C es dn ∧ es.length ≤ 300 ∧ ((mv = .non ∧ m = dn) ∨ mv = .int m) ∧ (∀ r ∈ keptE es m, FitU r) ∧ ∀ l H', Same H H' → H' l = some (.lst (((keptE es m).map textU).map V.str)) → Q (.ref l) H'
theorem kept_len {es : List En} {m : Int} : (keptE es m).length ≤ es.length := by
  unfold keptE
  rw [List.length_map]
  exact List.length_filter_le _ _
theorem ne_b {H : Hp} {b x cB dx : Addr} {fs : List (Str × V)} {ys : List V} (hb : H b = some (.ins cB dx fs)) (h : H x = some (.lst ys)) : x ≠ b := fun z => by rw [z, hb] at h; cases h

def spUntil (K : PySem.W.Frag) : Sp := fun vs H Q _ => ∃ a rows d, vs = [.ref a, .int d] ∧ RwsAt K H a rows ∧ rows.length ≤ 300 ∧ ∀ l H', Same H H' → H l = none → RwsAt K H' l (tillR rows d) → Q (.ref l) H'
def spPays (K : PySem.W.Frag) : Sp := fun vs H Q _ => ∃ a rows d, vs = [.ref a, .int d] ∧ RwsAt K H a rows ∧ rows.length ≤ 300 ∧ ∀ l H', Same H H' → H l = none → RwsAt K H' l (rows.filter (payW d)) → Q (.ref l) H'
def spWorthOf (K : PySem.W.Frag) : Sp := fun vs H Q _ => ∃ l cs r, vs = [.ref l] ∧ SqL K H l (List.map V.ref cs) ∧ TabIs H cs r ∧ (∀ x ∈ r, x.length = 4) ∧ r.length ≤ 1000 ∧ ∀ m H', Same H H' → Q (.int m) H'
def spCostOf : Sp := fun vs H Q _ => ∃ m v1 v2 v3, vs = [.str "witness", .int m, v1, v2, v3] ∧ Q (.int m) H
def spCostsOf (K : PySem.W.Frag) : Sp := fun vs H Q _ => ∃ a rows v1 v2, vs = [.ref a, v1, v2] ∧ RwsAt K H a rows ∧ rows.length ≤ 300 ∧ (∀ r ∈ rows, WitR r) ∧ NumR rows ∧ ∀ d H', Same H H' → H d = none → CosAt H' d rows → Q (.ref d) H'
def spOffersOf (K : PySem.W.Frag) : Sp := fun vs H Q _ => ∃ a rows, vs = [.ref a] ∧ RwsAt K H a rows ∧ (∀ r ∈ rows, WitR r) ∧ ∀ d H', Same H H' → Q (.ref d) H'
def spLineOne : Sp := fun vs H Q _ => ∃ many q r c why, vs = [.int ((many : Nat) : Int), .ref q, .int c, .str why] ∧ many ≤ 8 ∧ RowAt H q r ∧ isStep r = true ∧ ∀ p H', Same H H' → LnAt H' p (lnOne many r why c) → Q (.ref p) H'
def spLineOf (K : PySem.W.Frag) : Sp := fun vs H Q _ => ∃ many q r c v1 w v2, vs = [.int ((many : Nat) : Int), .ref q, .int c, v1, .ref w, v2] ∧ many ≤ 8 ∧ RowAt H q r ∧ isStep r = true ∧ WitR r ∧ SqL K H w [] ∧ ∀ p H', Same H H' → LnAt H' p (lnOne many r "open" c) → Q (.ref p) H'
def spLinesOf (K : PySem.W.Frag) : Sp := fun vs H Q _ => ∃ many a rows d v1 v2, vs = [.int ((many : Nat) : Int), v1, v2, .ref a, .int d] ∧ many ≤ 8 ∧ RwsAt K H a rows ∧ rows.length ≤ 300 ∧ (∀ r ∈ rows, WitR r) ∧ NumR rows ∧ ∀ l H', Same H H' → LnsAt H' l (linesW many (tillR rows d)) → Q (.ref l) H'
def spFirstDun (K : PySem.W.Frag) : Sp := fun vs H Q _ => ∃ a rows s, vs = [.ref a, .int s] ∧ RwsAt K H a rows ∧ Q (optV (dunW rows s)) H
def spInterest : Sp := fun vs H Q _ => ∃ c, vs = [.int c] ∧ Q (.int (5 * c / 36500)) H
def spBillOf (K : PySem.W.Frag) : Sp := fun vs H Q _ => ∃ side : Nat, ∃ l lns a rows ch, vs = [.int (side : Int), .ref l, .ref a, .int ch] ∧ LnsAt H l lns ∧ lns.length ≤ 300 ∧ (∀ x ∈ lns, side < x.parts.length) ∧ RwsAt K H a rows ∧ rows.length ≤ 300 ∧ ∀ p H', Same H H' → BlF H H' p (billW lns rows side ch) → Q (.ref p) H'

def spOwedOf (K : PySem.W.Frag) : Sp := fun vs H Q _ => ∃ many a rows v1 v2, vs = [.int ((many : Nat) : Int), v1, v2, .ref a] ∧ many ≤ 8 ∧ RwsAt K H a rows ∧ rows.length ≤ 300 ∧ (∀ r ∈ rows, WitR r) ∧ (∀ r ∈ rows, SidesOk many r) ∧ NumR rows ∧ ∀ l H', Same H H' → OwsAt H' l (owedW many rows) → Q (.ref l) H'
def spCoinDays (K : PySem.W.Frag) : Sp := fun vs H Q _ => ∃ side : Nat, ∃ a rows l ow day, vs = [.int (side : Int), .ref a, .ref l, .int day] ∧ RwsAt K H a rows ∧ OwsAt H l ow ∧ ow ≠ [] ∧ ow.length ≤ 300 ∧ (∀ x ∈ ow, side < x.2.length ∧ -1000000 ≤ x.1 ∧ x.1 ≤ 1000000) ∧ (∀ r ∈ rows, -1000000 ≤ r.day ∧ r.day ≤ 1000000) ∧ -1000000 ≤ day ∧ day ≤ 1000000 ∧ ∀ H', Same H H' → Q (.int (coinDays rows ow day side)) H'
def spBillsOf (K : PySem.W.Frag) : Sp := fun vs H Q _ => ∃ many a rows d v1 v2, vs = [.int ((many : Nat) : Int), v1, v2, .ref a, .int d] ∧ many ≤ 8 ∧ RwsAt K H a rows ∧ rows.length ≤ 300 ∧ (∀ r ∈ rows, WitR r) ∧ (∀ r ∈ rows, SidesOk many r) ∧ NumR rows ∧ tillR rows d ≠ [] ∧ (∀ r ∈ rows, -1000000 ≤ r.day ∧ r.day ≤ 1000000) ∧ -1000000 ≤ d ∧ d ≤ 1000000 ∧ ∀ l H', Same H H' → BlsAt H' l (billsW many rows d) → Q (.ref l) H'
def spBills (cB : Addr) : Sp := fun vs H Q _ => ∃ A C rows d, vs = [.ref (BkA.b A), .int d, .non] ∧ BnAt cB H A C rows ∧ BlOk C rows d ∧ ∀ l H', Same H H' → BlsAt H' l (billsW C.pl.length rows d) → Q (.ref l) H'
def spBill (cB : Addr) : Sp := fun vs H Q _ => ∃ A C rows d, ∃ side : Nat, vs = [.ref (BkA.b A), .int (side : Int), .int d, .non] ∧ BnAt cB H A C rows ∧ BlOk C rows d ∧ side < C.pl.length ∧ ∀ p H', Same H H' → BlAt H' p (billW (linesW C.pl.length (tillR rows d)) (tillR rows d) side (5 * coinDays (tillR rows d) (owedW C.pl.length (tillR rows d)) d side / 36500)) → Q (.ref p) H'

def spIntsT (K : PySem.W.Frag) : Sp := fun vs H Q _ => ∃ p q ns, vs = [.ref p, .ref q] ∧ SqT K H p (List.map V.int ns) ∧ SqT K H q (List.map V.int ns) ∧ ns.length ≤ 1000 ∧ Q (.bl true) H
def spSameBill : Sp := fun vs H Q _ => ∃ p q b, vs = [.ref p, .ref q] ∧ BlAt H p b ∧ BlAt H q b ∧ b.rows.length ≤ 1000 ∧ ∀ H', Same H H' → Q (.bl true) H'
def spCoinsL : Sp := fun vs H Q _ => ∃ c, vs = [.int c] ∧ ∀ m H', Same H H' → 0 ≤ m → Q (.int m) H'
theorem WrU_n {cB : Addr} {cs : List Addr} {A : BkA} {C : BkC} {rows : List Rw} {r : Rw} {H : Hp} {Q : VK} {E : XK} (B : BnAt cB H A C rows) (ok : OkRows rows) (hn : rows.length ≤ 300) (hno : refuseR (roundsR rows) (lastR rows) (rows.length : Int) r = none)
    (q : ∀ H', BnAt cB H' A C (rows ++ [r]) → SameU A H H' → Q (.int r.num) H') : WrU cB cs A C (mkEs rows) (rows.length : Int) r H Q E :=
  ⟨B, by rw [mkEs_kept]; exact ok, by rw [mkEs_len]; exact hn, fun _ H' B' s => q H' (by
    show BuAt cB H' A C (mkEs (rows ++ [r])) (((rows ++ [r]).length : Nat) : Int)
    rw [mkEs_snoc, List.length_append, List.length_singleton]
    exact B') s, fun k e => by rw [mkEs_kept, mkEs_len, hno] at e; cases e⟩

local macro_rules | `(tactic| walk_at "sq") => `(tactic| first | assumption | exact SqL.of upd_same | exact SqT.of upd_same | exact SqL.of (by assumption) | exact SqT.of (by assumption) | (refine' Same.seq ?s ?t; (case s => assumption); (case t => walk_at "sq")) | (refine' Same.seqT ?s ?t; (case s => assumption); (case t => walk_at "sq")) | (refine' Same.seq ?s ?t; (case s => exact Same.new (by assumption)); (case t => walk_at "sq")) | (refine' Same.seqT ?s ?t; (case s => exact Same.new (by assumption)); (case t => walk_at "sq")))
local macro_rules | `(tactic| walk_at "sm") => `(tactic| first | assumption | exact Same.refl _ | exact Same.new (by assumption) | (refine Same.trans ?_ (Same.new (by assumption)); walk_at "sm") | (refine Same.trans ?_ (by assumption); walk_at "sm"))
local macro_rules | `(tactic| walk_at "ix") => `(tactic| first | exact atI2 (by omega) (by omega) | exact atI3 (by omega) (by omega) | exact atI4 (by omega) (by omega) | exact atI5 (by omega) (by omega) | exact atI7 (by omega) (by omega) | exact atI_tab (by omega) | exact atI_ints (by omega) (by omega) | exact atI_refs (by omega) (by omega) | exact rfl)
local macro_rules | `(tactic| walk_at "rd") => `(tactic| repeat' (first
  | ((with_reducible refine' r_var ?e ?_); (case e => exact rfl))
  | with_reducible refine r_c ?_ | with_reducible refine r_op ?_ | with_reducible refine r_I0 ?_ | ((with_reducible refine' r_I ?_ ?_); (first | (focus (first | exact ⟨by decide, by decide⟩ | (show (0 : Int) < _; decide) | exact Or.inr ⟨by decide, by decide⟩ | exact Or.inl ⟨by decide, by decide⟩ | exact ⟨by decide, by decide, by decide⟩ | exact ⟨by omega, by omega⟩ | (show (0 : Int) < _; omega) | exact Or.inr ⟨by omega, by omega⟩ | exact Or.inl ⟨by omega, by omega⟩)) | skip))
  | with_reducible refine r_EqI ?_ | with_reducible refine r_NeI ?_ | with_reducible refine r_EqS ?_ | with_reducible refine r_NeS ?_
  | with_reducible refine r_un ?_ | with_reducible refine r_U ?_ | with_reducible refine r_test ?_ | with_reducible refine r_tB ?_ | with_reducible refine r_bl ?_
  | with_reducible refine r_and ?_ | with_reducible refine r_or ?_ | with_reducible refine r_not ?_ | with_reducible refine r_andV ?_ | with_reducible refine r_orV ?_ | with_reducible refine r_notV ?_
  | with_reducible refine r_if ?_ | with_reducible refine r_next ?_ | with_reducible refine r_seq ?_ | with_reducible refine r_drop ?_ | with_reducible refine r_ret ?_ | with_reducible refine r_ifS ?_
  | with_reducible refine r_asg ?_ | with_reducible refine r_name ?_ | with_reducible refine r_gnil ?_ | with_reducible refine r_gcons ?_ | with_reducible refine r_gsub ?_ | with_reducible refine r_augS ?_
  | with_reducible refine r_nil ?_ | with_reducible refine r_cons ?_ | with_reducible refine r_tup ?_ | with_reducible refine r_lst ?_ | with_reducible refine r_call ?_ | with_reducible refine r_callX ?_ | with_reducible refine r_cb ?_
  | with_reducible refine r_bm ?_ | with_reducible refine r_sl ?_ | with_reducible refine r_noPart ?_ | with_reducible refine r_part ?_ | with_reducible refine r_exI ?_ | with_reducible refine r_for ?_
  | with_reducible refine r_rng1 ?_ | with_reducible refine r_rngD ?_ | with_reducible refine r_rng2 ?_ | with_reducible refine r_enum ?_ | with_reducible refine r_zip ?_ | with_reducible refine r_ilist ?_ | with_reducible refine iteT ?_ | with_reducible refine iteF ?_ | with_reducible refine iteNT ?_ | with_reducible refine iteNF ?_ | with_reducible refine r_comp ?_ | with_reducible refine r_tt ?_
  | ((with_reducible refine' r_lenL ?h ?_); (case h => walk_at "sq")) | ((with_reducible refine' r_lenT ?h ?_); (case h => walk_at "sq"))
  | with_reducible refine r_min ?_ | with_reducible refine r_max ?_ | with_reducible refine r_intB ?_ | with_reducible refine r_isiInt ?_ | with_reducible refine r_isiNoB ?_ | with_reducible refine r_isiStr ?_ | ((with_reducible refine' r_isiList ?h ?_); (case h => first | assumption | exact upd_same)) | ((with_reducible refine' r_isiTup ?h ?_); (case h => first | assumption | exact upd_same))
  | ((with_reducible refine' r_disp ?h ?_); (case h => exact Nat.le_of_ble_eq_true rfl))
  | ((with_reducible refine' r_at ?h ?l ?_); (case h => walk_at "sq"); (case l => assumption); (refine fun (H' : Hp) (s' : Same _ H') => ?_)) | with_reducible refine r_int ?_
  | ((with_reducible refine' r_sum ?h ?_); (case h => walk_at "sq"))
  | with_reducible refine r_inD ?_ | ((with_reducible refine' r_isiTT ?h ?_); (case h => walk_at "sq"))
  | ((with_reducible refine' r_tyL ?h ?_); (case h => walk_at "sq"))
  | ((with_reducible refine' r_ixL ?h ?e ?_); (case h => walk_at "sq"); (case e => walk_at "ix"))
  | ((with_reducible refine' r_ixT ?h ?e ?_); (case h => walk_at "sq"); (case e => exact rfl))
  | (refine fun (p : Addr) (hp : (_ : Hp) p = none) => ?_)
  | ((with_reducible refine' iteDF ?h ?_); (case h => omega)) | ((with_reducible refine' iteDT ?h ?_); (case h => omega)) | ((with_reducible refine' iteNDF ?h ?_); (case h => omega)) | ((with_reducible refine' iteNDT ?h ?_); (case h => omega))
  | ((with_reducible refine' iteDF ?h ?_); (case h => decide +kernel)) | ((with_reducible refine' iteDT ?h ?_); (case h => decide +kernel)) | ((with_reducible refine' iteNDF ?h ?_); (case h => exact rfl))))

section
variable {P : Program} {w : World} {K : PySem.W.Frag} {mg : Str → Option Value} {base : Heap} {cB c_CostError c_Full c_NoClaim c_RoundOver c_TooLate c_Twice c_TooMuch : Addr}
theorem scInterest : FnScope ["coin_days"] ["coin_days"] (defScope sInterest) := ⟨rfl, rfl, rfl, by decide +kernel, rfl, by decide +kernel, by decide +kernel⟩
theorem ok_Interest {f : Addr} {fd : FuncData} {dV : Value} (F : FunD K "interest" "interest" sInterest f fd dV) (T : Txt K mg cB c_CostError c_Full c_NoClaim c_RoundOver c_TooLate c_Twice c_TooMuch) : FnOk P w K mg base CX0 1 f fd ["coin_days"] (spInterest) := by
  refine F.ok scInterest (fun vs H Q E h => ?_) (fun cdv A outer s H vs Q E hr h => ?_)
  · obtain ⟨c, rfl, q⟩ := h
    rfl
  · obtain ⟨c, rfl, q⟩ := h
    refine ⟨_, (pss_one (ps_ret (pe_op op_fdivB (pe_op op_mul (pe_globI (by rfl) T.c_INTEREST_COINS) (pv 0)) (pe_globI (by rfl) T.c_INTEREST_COIN_DAYS)))), ?_⟩
    try dsimp only [cxOf]
    walk_at "rd"
    exact q

theorem scCostOf : FnScope ["kind", "many", "worth", "court", "speakers"] ["kind", "many", "worth", "court", "speakers"] (defScope sCostOf) := ⟨rfl, rfl, rfl, by decide +kernel, rfl, by decide +kernel, by decide +kernel⟩
theorem ok_CostOf {f : Addr} {fd : FuncData} {dV : Value} (F : FunD K "cost_of" "cost_of" sCostOf f fd dV) (T : Txt K mg cB c_CostError c_Full c_NoClaim c_RoundOver c_TooLate c_Twice c_TooMuch) : FnOk P w K mg base CX0 1 f fd ["kind", "many", "worth", "court", "speakers"] (spCostOf) := by
  refine F.ok scCostOf (fun vs H Q E h => ?_) (fun cdv A outer s H vs Q E hr h => ?_)
  · obtain ⟨m, v1, v2, v3, rfl, q⟩ := h
    rfl
  · obtain ⟨m, v1, v2, v3, rfl, q⟩ := h
    refine ⟨_, (pss_cons (ps_if (pt_cmpR op_eq (pv 0) pe_str (nomark _)) (pss_one (ps_ret (pv 1))) pss_nil)
      (pss_cons ps_never
      (pss_cons ps_never
      (pss_one ps_never)))), ?_⟩
    try dsimp only [cxOf]
    refine r_seq (r_ifS (r_test (r_op (r_var rfl (r_c (r_EqS ⟨_, rfl, iteP (by decide +kernel) (r_ret (r_var rfl q))⟩))))))

theorem scClaimRow : FnScope ["number", "day", "claim", "asker", "answerer", "worth"] ["number", "day", "claim", "asker", "answerer", "worth"] (defScope sClaimRow) := ⟨rfl, rfl, rfl, by decide +kernel, rfl, by decide +kernel, by decide +kernel⟩
theorem ok_ClaimRow {f : Addr} {fd : FuncData} {dV : Value} (F : FunD K "claim_row" "claim_row" sClaimRow f fd dV) (T : Txt K mg cB c_CostError c_Full c_NoClaim c_RoundOver c_TooLate c_Twice c_TooMuch) : FnOk P w K mg base CX0 1 f fd ["number", "day", "claim", "asker", "answerer", "worth"] (spClaimRow) := by
  refine F.ok scClaimRow (fun vs H Q E h => ?_) (fun cdv A outer s H vs Q E hr h => ?_)
  · obtain ⟨n, d, c, a, b, w, rfl, q⟩ := h
    rfl
  · obtain ⟨n, d, c, a, b, w, rfl, q⟩ := h
    refine ⟨_, (pss_one (ps_ret (pe_tup (pa_cons (pv 0) (pa_cons pe_str (pa_cons (pv 1) (pa_cons (pv 2) (pa_cons (pv 3) (pa_cons (pv 4) (pa_cons (pv 5) pa_nil)))))))))), ?_⟩
    try dsimp only [cxOf]
    walk_at "rd"
    rename_i p hp
    exact q p _ (Same.new hp) hp upd_same

theorem scStepRow : FnScope ["number", "day", "turn", "side", "kind", "many", "laid"] ["number", "day", "turn", "side", "kind", "many", "laid"] (defScope sStepRow) := ⟨rfl, rfl, rfl, by decide +kernel, rfl, by decide +kernel, by decide +kernel⟩
theorem ok_StepRow {f : Addr} {fd : FuncData} {dV : Value} (F : FunD K "step_row" "step_row" sStepRow f fd dV) (T : Txt K mg cB c_CostError c_Full c_NoClaim c_RoundOver c_TooLate c_Twice c_TooMuch) : FnOk P w K mg base CX0 1 f fd ["number", "day", "turn", "side", "kind", "many", "laid"] (spStepRow) := by
  refine F.ok scStepRow (fun vs H Q E h => ?_) (fun cdv A outer s H vs Q E hr h => ?_)
  · obtain ⟨n, d, t, sd, k, m, l, rfl, q⟩ := h
    rfl
  · obtain ⟨n, d, t, sd, k, m, l, rfl, q⟩ := h
    refine ⟨_, (pss_one (ps_ret (pe_tup (pa_cons (pv 0) (pa_cons pe_str (pa_cons (pv 1) (pa_cons (pv 2) (pa_cons (pv 3) (pa_cons (pv 4) (pa_cons (pv 5) (pa_cons (pv 6) pa_nil))))))))))), ?_⟩
    try dsimp only [cxOf]
    walk_at "rd"
    rename_i p hp
    exact q p _ (Same.new hp) hp upd_same

theorem scPayRow : FnScope ["number", "day", "side", "person", "coins"] ["number", "day", "side", "person", "coins"] (defScope sPayRow) := ⟨rfl, rfl, rfl, by decide +kernel, rfl, by decide +kernel, by decide +kernel⟩
theorem ok_PayRow {f : Addr} {fd : FuncData} {dV : Value} (F : FunD K "pay_row" "pay_row" sPayRow f fd dV) (T : Txt K mg cB c_CostError c_Full c_NoClaim c_RoundOver c_TooLate c_Twice c_TooMuch) : FnOk P w K mg base CX0 1 f fd ["number", "day", "side", "person", "coins"] (spPayRow) := by
  refine F.ok scPayRow (fun vs H Q E h => ?_) (fun cdv A outer s H vs Q E hr h => ?_)
  · obtain ⟨n, d, s1, p1, c, rfl, q⟩ := h
    rfl
  · obtain ⟨n, d, s1, p1, c, rfl, q⟩ := h
    refine ⟨_, (pss_one (ps_ret (pe_tup (pa_cons (pv 0) (pa_cons pe_str (pa_cons (pv 1) (pa_cons (pv 2) (pa_cons (pv 3) (pa_cons (pv 4) pa_nil))))))))), ?_⟩
    try dsimp only [cxOf]
    walk_at "rd"
    rename_i p hp
    exact q p _ (Same.new hp) hp upd_same

theorem scDunRow : FnScope ["number", "day", "side"] ["number", "day", "side"] (defScope sDunRow) := ⟨rfl, rfl, rfl, by decide +kernel, rfl, by decide +kernel, by decide +kernel⟩
theorem ok_DunRow {f : Addr} {fd : FuncData} {dV : Value} (F : FunD K "dun_row" "dun_row" sDunRow f fd dV) (T : Txt K mg cB c_CostError c_Full c_NoClaim c_RoundOver c_TooLate c_Twice c_TooMuch) : FnOk P w K mg base CX0 1 f fd ["number", "day", "side"] (spDunRow) := by
  refine F.ok scDunRow (fun vs H Q E h => ?_) (fun cdv A outer s H vs Q E hr h => ?_)
  · obtain ⟨n, d, s1, rfl, q⟩ := h
    rfl
  · obtain ⟨n, d, s1, rfl, q⟩ := h
    refine ⟨_, (pss_one (ps_ret (pe_tup (pa_cons (pv 0) (pa_cons pe_str (pa_cons (pv 1) (pa_cons (pv 2) pa_nil))))))), ?_⟩
    try dsimp only [cxOf]
    walk_at "rd"
    rename_i p hp
    exact q p _ (Same.new hp) hp upd_same

theorem scRoundsOf : FnScope ["rows", "rounds", "row"] ["rows"] (defScope sRoundsOf) := ⟨rfl, rfl, rfl, by decide +kernel, rfl, by decide +kernel, by decide +kernel⟩
theorem ok_RoundsOf {f : Addr} {fd : FuncData} {dV : Value} (F : FunD K "rounds_of" "rounds_of" sRoundsOf f fd dV) (T : Txt K mg cB c_CostError c_Full c_NoClaim c_RoundOver c_TooLate c_Twice c_TooMuch) (GPutRow : Fn P w K mg base "put_row" 2 ["rounds", "row"] (spPut)) : FnOk P w K mg base CX0 3 f fd ["rows"] (spRounds K) := by
  refine F.ok scRoundsOf (fun vs H Q E h => ?_) (fun cdv A outer s H vs Q E hr h => ?_)
  · obtain ⟨a, ps, rows, rfl, hS, hR, hc, hn, q⟩ := h
    rfl
  · obtain ⟨a, ps, rows, rfl, hS, hR, hc, hn, q⟩ := h
    refine ⟨_, (pss_cons (ps_set (i := 1) scRoundsOf.nd rfl (Or.inl rfl) (pe_lst (pa_cons (pe_lst pa_nil) pa_nil)))
      (pss_cons (ps_for PassesOwn.never rfl (pi_list (pv 0)) (pg_name (i := 2) scRoundsOf.nd rfl (Or.inl rfl)) (pss_one (ps_expr (pe_fn GPutRow hr (by decide) (by rfl) (pa_cons (pv 1) (pa_cons (pv 2) pa_nil))))))
      (pss_one (ps_ret (pv 1))))), ?_⟩
    try dsimp only [cxOf]
    walk_at "rd"
    rename_i e ne p np
    have s0 : Same H (upd (upd H e (.lst [])) p (.lst [.ref e])) := (Same.new ne).trans (Same.new np)
    have np0 : H p = none := by
      cases z : H p with
      | none => rfl
      | some o => have := Same.new (o := .lst []) ne _ _ z; rw [np] at this; cases this
    have pe : p ≠ e := fun z => by rw [z, upd_same] at np; cases np
    refine ⟨_, rfl, ⟨_, s0.seq hS⟩, ?_⟩
    have lps := hR.1
    refine for_list (xs := List.map V.ref ps) (fun i σ H2 => (∃ v, σ = [some (.ref a), some (.ref p), v]) ∧ Same H H2 ∧ ∃ ls, RdsAt H2 p ls (roundsR (rows.take i)) ∧ ∀ l ∈ ls, H l = none) ?_ ?_ ?_ ?_
    · refine ⟨⟨_, rfl⟩, s0, [e], ⟨upd_same, rfl, by simp, by simpa using pe, fun i l r e1 e2 => ?_⟩, fun l hl => by rw [List.mem_singleton.mp hl]; exact ne⟩
      cases i with
      | zero => cases e1; cases e2; exact ⟨[], by rw [upd_ne (Ne.symm pe), upd_same]; rfl, TabIs.nil⟩
      | succ i => simp at e1
    · rintro i σ H2 hi ⟨_, s2, _⟩
      exact s2.seq hS
    · rintro i x σ H2 hx ⟨⟨v, rfl⟩, s2, ls, R, hl⟩
      rw [List.getElem?_map] at hx
      cases e1 : ps[i]? with
      | none => rw [e1] at hx; cases hx
      | some b =>
        rw [e1] at hx
        cases hx
        have hi : i < ps.length := (List.getElem?_eq_some_iff.mp e1).1
        have hir : i < rows.length := by omega
        have hb := (hR.2 i b rows[i] e1 (by simp [hir])).mono s2.tupS
        obtain ⟨g1, g2, g3⟩ := roundsR_take rows i (by omega)
        walk_at "rd"
        refine ⟨p, b, ls, _, rows[i], rfl, R, g1, fun x hx => by have := (g3 x hx).1; omega, by omega, fun x hx y hy => (g3 x hx).2 y hy, hb, hc.at i hir, fun ls' H3 R' kp nl => ?_⟩
        have s3 : Same H H3 := fun x o ex => kp x o (s2 x o ex) (fun z => by rw [z, np0] at ex; cases ex) (fun z => by rw [hl x z] at ex; cases ex)
        refine ⟨⟨_, rfl⟩, s3, ls', ?_, fun l hl' => ?_⟩
        · rw [List.take_succ_eq_append_getElem hir, roundsR_snoc]
          exact R'
        · rcases nl l hl' with z | z
          · exact hl l z
          · cases e2 : H l with
            | none => rfl
            | some o => have := s2 _ _ e2; rw [z] at this; cases this
    · rintro σ H2 ⟨⟨v, rfl⟩, s2, ls, R, hl⟩
      walk_at "rd"
      refine q p ls H2 s2 np0 ?_
      have e : rows.take (List.map V.ref ps).length = rows := by rw [List.length_map, lps, List.take_length]
      rw [e] at R
      exact R

theorem scPutRow : FnScope ["rounds", "row"] ["rounds", "row"] (defScope sPutRow) := ⟨rfl, rfl, rfl, by decide +kernel, rfl, by decide +kernel, by decide +kernel⟩
theorem ok_PutRow {f : Addr} {fd : FuncData} {dV : Value} (F : FunD K "put_row" "put_row" sPutRow f fd dV) (T : Txt K mg cB c_CostError c_Full c_NoClaim c_RoundOver c_TooLate c_Twice c_TooMuch) (GFindClaim : Fn P w K mg base "find_claim" 1 ["claims", "number"] (spFind K)) : FnOk P w K mg base CX0 2 f fd ["rounds", "row"] (spPut) := by
  refine F.ok scPutRow (fun vs H Q E h => ?_) (fun cdv A outer s H vs Q E hr h => ?_)
  · obtain ⟨p, q1, ls, rs, r, rfl, R, ne, hz1, hz2, hz3, hr1, hc, q⟩ := h
    rfl
  · obtain ⟨p, q1, ls, rs, r, rfl, R, ne, hz1, hz2, hz3, hr1, hc, q⟩ := h
    refine ⟨_, (pss_one (ps_if (pt_cmpR op_eq (pe_ix (ix_tupK K rfl) (pv 1) (pe_globI (by rfl) T.c_WORD) (fun _ _ => rfl)) pe_str (nomark _)) (pss_one (ps_expr (pe_bm PySem.F.plainAttrs_list PySem.F.slot_list_append PySem.F.type_list_append mt_append (pe_ix (ix_listK K rfl) (pv 0) pe_int (fun _ _ => rfl)) (pa_cons (pe_slice sl_tup (pv 1) (po_some (pe_globI (by rfl) T.c_CLAIM)) po_none) pa_nil)))) (pss_one (ps_if (pt_cmpR op_eq (pe_ix (ix_tupK K rfl) (pv 1) (pe_globI (by rfl) T.c_WORD) (fun _ _ => rfl)) pe_str (nomark _)) (pss_one (ps_expr (pe_bm PySem.F.plainAttrs_list PySem.F.slot_list_append PySem.F.type_list_append mt_append (pe_ix (ix_listK K rfl) (pv 0) (pe_un un_neg pe_int) (fun _ _ => rfl)) (pa_cons (pe_fn GFindClaim hr (by decide) (by rfl) (pa_cons (pe_ix (ix_listK K rfl) (pv 0) (pe_un un_neg pe_int) (fun _ _ => rfl)) (pa_cons (pe_ix (ix_tupK K rfl) (pv 1) (pe_globI (by rfl) T.c_CLAIM) (fun _ _ => rfl)) pa_nil))) pa_nil)))) (pss_one (ps_if (pt_cmpR op_eq (pe_ix (ix_tupK K rfl) (pv 1) (pe_globI (by rfl) T.c_WORD) (fun _ _ => rfl)) pe_str (nomark _)) (pss_one (ps_expr (pe_bm PySem.F.plainAttrs_list PySem.F.slot_list_append PySem.F.type_list_append mt_append (pv 0) (pa_cons (pe_lst pa_nil) pa_nil)))) pss_nil)))))), ?_⟩
    try dsimp only [cxOf]
    have hL := R.at_
    have l0 : 0 < ls.length := by
      have := R.len
      cases rs with
      | nil => exact absurd rfl ne
      | cons x y => simp only [List.length_cons] at this; omega
    have zz : ∀ {n : Nat}, n ≤ 500 → n < sizeLine := fun h => small1000 (by omega)
    cases r with
    | claim n d c a b w =>
      have h1 : H q1 = some (.tup [.int n, .str "claim", .int d, .int c, .int a, .int b, .int w]) := hr1
      walk_at "rd"
      obtain ⟨l, lt, rfl⟩ : ∃ l lt, ls = l :: lt := by
        cases ls with
        | nil => exact absurd l0 (by simp)
        | cons l lt => exact ⟨l, lt, rfl⟩
      obtain ⟨r0, rt, rfl⟩ : ∃ r0 rt, rs = r0 :: rt := by
        cases rs with
        | nil => exact absurd rfl ne
        | cons l lt => exact ⟨l, lt, rfl⟩
      obtain ⟨cs, c1, c2⟩ := R.ro 0 l r0 rfl rfl
      have c1' : H ((l :: lt).getD (Int.toNat 0) 0) = some (.lst (cs.map V.ref)) := c1
      refine r_tyL (.of c1') (r_cons (r_sl (r_var rfl (r_part (r_c (r_exI (r_noPart ?_)))))))
      refine r_slT (ys := [.int c, .int a, .int b, .int w]) (.of h1) (show ¬ (HT.sIx 7 0 (some 3) = 0 ∧ HT.sIx 7 7 none = 7) by decide) rfl fun t nt => r_nil ?_
      have s1 : Same H (upd H t (.tup [.int c, .int a, .int b, .int w])) := Same.new nt
      refine r_app (l := l) (xs := cs.map V.ref) (s1 _ _ c1) (zz (by rw [List.length_map, c2.1]; exact hz1 _ List.mem_cons_self)) ?_
      refine q (l :: lt) _ ((R.same s1).push (i := 0) (x := [c, a, b, w]) rfl rfl (s1 _ _ c1) (c2.same s1) upd_same) (fun x o e x1 x2 => ?_) (fun m hm => .inl hm)
      rw [upd_ne (fun z => x2 (by rw [z]; exact List.mem_cons_self)), upd_ne (ne_of_none e nt)]
      exact e
    | carry n d c =>
      have h1 : H q1 = some (.tup [.int n, .str "carry", .int d, .int c]) := hr1
      obtain ⟨hc2, hca⟩ := hc
      have len := R.len
      have i1 : ls.length - 1 < ls.length := by omega
      have i2 : ls.length - 2 < ls.length := by omega
      have j1 : rs.length - 1 < rs.length := by omega
      have j2 : rs.length - 2 < rs.length := by omega
      obtain ⟨ca, a1, a2⟩ := R.ro (ls.length - 1) ls[ls.length - 1] rs[rs.length - 1] (by simp [i1]) (by rw [len]; simp [j1])
      obtain ⟨cb, b1, b2⟩ := R.ro (ls.length - 2) ls[ls.length - 2] rs[rs.length - 2] (by simp [i2]) (by rw [len]; simp [j2])
      have e1 : ls.getD (ls.length - 1) 0 = ls[ls.length - 1] := by simp [List.getD, i1]
      have e2 : ls.getD (ls.length - 2) 0 = ls[ls.length - 2] := by simp [List.getD, i2]
      have f1 : rs.getD (rs.length - 1) [] = rs[rs.length - 1] := by simp [List.getD, j1]
      have f2 : rs.getD (rs.length - 2) [] = rs[rs.length - 2] := by simp [List.getD, j2]
      have ne' : ls ≠ [] := fun z => by rw [z] at i1; cases i1
      walk_at "rd"
      refine r_ixL (.of hL) (atI_refs_last ne') ?_
      rw [e1]
      refine r_tyL (.of a1) (r_cons (r_callX (r_cons (r_op (r_var rfl ?_)))))
      refine r_un (r_c (r_U ?_))
      refine r_ixL (.of hL) (atI_refs_m2 (by omega)) ?_
      rw [e2]
      walk_at "rd"
      refine ⟨_, cb, _, c, rfl, .of b1, b2, fun x hx => hz3 _ (List.getElem_mem j2) x hx, fun v hv => ?_⟩
      rw [f2] at hca
      obtain ⟨x, bb, ex, rfl, hb⟩ := hv.found hca
      refine r_nil (r_app (l := ls[ls.length - 1]) (xs := ca.map V.ref) a1 (zz (by rw [List.length_map, a2.1]; exact hz1 _ (List.getElem_mem j1))) ?_)
      have ep : putR rs (.carry n d c) = rs.set (ls.length - 1) (rs[rs.length - 1] ++ [x]) := by
        unfold putR
        dsimp only
        rw [f2, ex, f1, len]
      refine q ls _ ?_ (fun y o e x1 x2 => ?_) (fun m hm => .inl hm)
      · rw [ep]
        exact R.push (i := ls.length - 1) (by simp [i1]) (by rw [len]; simp [j1]) a1 a2 hb
      · rw [upd_ne (fun z => x2 (by rw [z]; exact List.getElem_mem i1))]
        exact e
    | rule n d t bk ws =>
      obtain ⟨q2, h1, h2⟩ := hr1
      walk_at "rd"
      rename_i e ne1
      refine r_app (xs := List.map V.ref ls) (Same.new ne1 _ _ hL) (zz (by rw [List.length_map, R.len]; exact hz2)) ?_
      refine q (ls ++ [e]) _ (R.add ne1) (fun x o e1 x1 x2 => ?_) (fun m hm => ?_)
      · rw [upd_ne x1, upd_ne (ne_of_none e1 ne1)]
        exact e1
      · rcases List.mem_append.mp hm with z | z
        · exact .inl z
        · rw [List.mem_singleton.mp z]
          exact .inr ne1
    | step n d t sd k m l =>
      have h1 : H q1 = some (.tup [.int n, .str "step", .int d, .int t, .int sd, .str k, .int m, .str l]) := hr1
      walk_at "rd"
      exact q ls H R (fun x o e _ _ => e) (fun m hm => .inl hm)
    | offer n d t c a =>
      have h1 : H q1 = some (.tup [.int n, .str "offer", .int d, .int t, .int c, .int a]) := hr1
      walk_at "rd"
      exact q ls H R (fun x o e _ _ => e) (fun m hm => .inl hm)
    | pay n d sd pp co =>
      have h1 : H q1 = some (.tup [.int n, .str "pay", .int d, .int sd, .int pp, .int co]) := hr1
      walk_at "rd"
      exact q ls H R (fun x o e _ _ => e) (fun m hm => .inl hm)
    | dun n d sd =>
      have h1 : H q1 = some (.tup [.int n, .str "dun", .int d, .int sd]) := hr1
      walk_at "rd"
      exact q ls H R (fun x o e _ _ => e) (fun m hm => .inl hm)

theorem scOverOf : FnScope ["rounds"] ["rounds"] (defScope sOverOf) := ⟨rfl, rfl, rfl, by decide +kernel, rfl, by decide +kernel, by decide +kernel⟩
theorem ok_OverOf {f : Addr} {fd : FuncData} {dV : Value} (F : FunD K "over_of" "over_of" sOverOf f fd dV) (T : Txt K mg cB c_CostError c_Full c_NoClaim c_RoundOver c_TooLate c_Twice c_TooMuch) : FnOk P w K mg base CX0 1 f fd ["rounds"] (spOver K) := by
  refine F.ok scOverOf (fun vs H Q E h => ?_) (fun cdv A outer s H vs Q E hr h => ?_)
  · obtain ⟨p, xs, rfl, h, q⟩ := h
    rfl
  · obtain ⟨p, xs, rfl, h, q⟩ := h
    refine ⟨_, (pss_one (ps_ret (pe_op op_sub (pe_callB (cb_lenK K rfl) (by rfl) T.b_len PySem.boot_len (pa_cons (pv 0) pa_nil)) pe_int))), ?_⟩
    try dsimp only [cxOf]
    walk_at "rd"
    exact q

theorem scClaimsOf : FnScope ["rounds", "turn"] ["rounds", "turn"] (defScope sClaimsOf) := ⟨rfl, rfl, rfl, by decide +kernel, rfl, by decide +kernel, by decide +kernel⟩
theorem ok_ClaimsOf {f : Addr} {fd : FuncData} {dV : Value} (F : FunD K "claims_of" "claims_of" sClaimsOf f fd dV) (T : Txt K mg cB c_CostError c_Full c_NoClaim c_RoundOver c_TooLate c_Twice c_TooMuch) : FnOk P w K mg base CX0 1 f fd ["rounds", "turn"] (spClaims) := by
  refine F.ok scClaimsOf (fun vs H Q E h => ?_) (fun cdv A outer s H vs Q E hr h => ?_)
  · obtain ⟨p, ls, rs, t, rfl, R, q⟩ := h
    rfl
  · obtain ⟨p, ls, rs, t, rfl, R, q⟩ := h
    refine ⟨_, (pss_cons (ps_if (pt_chain op_le op_lt pe_int (pv 1) (pe_callB (cb_lenK K rfl) (by rfl) T.b_len PySem.boot_len (pa_cons (pv 0) pa_nil))) (pss_one (ps_ret (pe_callTy cb_list (by rfl) T.b_list PyProof.Rows.boot_list (pa_cons (pe_ix (ix_listK K rfl) (pv 0) (pv 1) (fun _ _ => rfl)) pa_nil)))) pss_nil)
      (pss_one (ps_ret (pe_lst pa_nil)))), ?_⟩
    try dsimp only [cxOf]
    have hL := R.at_
    have ll : ((List.map V.ref ls).length : Int) = (rs.length : Int) := by rw [List.length_map, R.len]
    walk_at "rd"
    refine r_chain ?_
    walk_at "rd"
    refine ite2 (fun z => ?_) (fun z => ?_)
    · have z : 0 ≤ t := by simpa using z
      walk_at "rd"
      rw [ll]
      refine ite2 (fun z2 => ?_) (fun z2 => ?_)
      · have z2 : t < (rs.length : Int) := by simpa using z2
        have hi : t.toNat < ls.length := by have := R.len; omega
        have hir : t.toNat < rs.length := by omega
        obtain ⟨cs, h1, h2⟩ := R.ro t.toNat ls[t.toNat] rs[t.toNat] (by simp [hi]) (by simp [hir])
        have ec : claimsR rs t = rs[t.toNat] := by
          unfold claimsR
          rw [if_pos ⟨z, z2⟩]
          simp [List.getD, hir]
        have ea : atI (List.map V.ref ls) t = some (V.ref ls[t.toNat]) := by
          rw [atI_refs z (by have := R.len; omega)]
          simp [List.getD, hi]
        refine r_ret (r_cb (r_cons (r_op (r_var rfl (r_var rfl (r_ixL (.of hL) ea (r_nil ?_)))))))
        refine r_list (.of h1) fun l hl => ?_
        exact q l cs hl (by rw [ec]; exact h2)
      · have z2 : ¬ t < (rs.length : Int) := by simpa using z2
        have ec : claimsR rs t = [] := by
          unfold claimsR
          rw [if_neg (fun z => z2 z.2)]
        walk_at "rd"
        rename_i l hl
        exact q l [] hl (by rw [ec]; exact TabIs.nil)
    · have z : ¬ 0 ≤ t := by simpa using z
      have ec : claimsR rs t = [] := by
        unfold claimsR
        rw [if_neg (fun y => z y.1)]
      walk_at "rd"
      rename_i l hl
      exact q l [] hl (by rw [ec]; exact TabIs.nil)

theorem scFindClaim : FnScope ["claims", "number", "claim"] ["claims", "number"] (defScope sFindClaim) := ⟨rfl, rfl, rfl, by decide +kernel, rfl, by decide +kernel, by decide +kernel⟩
theorem ok_FindClaim {f : Addr} {fd : FuncData} {dV : Value} (F : FunD K "find_claim" "find_claim" sFindClaim f fd dV) (T : Txt K mg cB c_CostError c_Full c_NoClaim c_RoundOver c_TooLate c_Twice c_TooMuch) : FnOk P w K mg base CX0 1 f fd ["claims", "number"] (spFind K) := by
  refine F.ok scFindClaim (fun vs H Q E h => ?_) (fun cdv A outer s H vs Q E hr h => ?_)
  · obtain ⟨a, cs, r, c, rfl, hS, hT, h4, q⟩ := h
    rfl
  · obtain ⟨a, cs, r, c, rfl, hS, hT, h4, q⟩ := h
    refine ⟨_, (pss_cons (ps_for PassesOwn.never rfl (pi_list (pv 0)) (pg_name (i := 2) scFindClaim.nd rfl (Or.inl rfl)) (pss_one (ps_if (pt_cmpR op_eq (pe_ix (ix_tupK K rfl) (pv 2) pe_int (fun _ _ => rfl)) (pv 1) (nomark _)) (pss_one (ps_ret (pv 2))) pss_nil)))
      (pss_one (ps_ret pe_non))), ?_⟩
    try dsimp only [cxOf]
    walk_at "rd"
    refine ⟨_, rfl, ⟨_, hS⟩, ?_⟩
    have lr := hT.1
    refine for_list (xs := List.map V.ref cs) (fun i σ H2 => H2 = H ∧ (∃ v, σ = [some (.ref a), some (.int c), v]) ∧ ∀ j, j < i → ((r.getD j []).getD 0 0 == c) = false) ⟨rfl, ⟨_, rfl⟩, fun j hj => absurd hj (Nat.not_lt_zero j)⟩ ?_ ?_ ?_
    · rintro i σ H2 hi ⟨rfl, _⟩
      exact hS
    · rintro i x σ H2 hx ⟨rfl, ⟨v, rfl⟩, hn⟩
      rw [List.getElem?_map] at hx
      cases e : cs[i]? with
      | none => rw [e] at hx; cases hx
      | some b =>
        rw [e] at hx
        cases hx
        have hi : i < cs.length := (List.getElem?_eq_some_iff.mp e).1
        have hir : i < r.length := by omega
        have hr : r[i]? = some r[i] := by simp [hir]
        have hb := hT.2 i b _ e hr
        obtain ⟨x0, x1, x2, x3, e4⟩ : ∃ x0 x1 x2 x3, r[i] = [x0, x1, x2, x3] := by
          have := h4 _ (List.getElem_mem hir)
          match hh : r[i], this with
          | [x0, x1, x2, x3], _ => exact ⟨x0, x1, x2, x3, rfl⟩
        have e5 : (r.getD i []) = [x0, x1, x2, x3] := by rw [← e4]; simp [List.getD, hir]
        rw [e4] at hb
        walk_at "rd"
        refine ite2 (fun z => ?_) (fun z => ?_)
        · have z : x0 = c := by simpa using z
          walk_at "rd"
          refine q _ ?_
          have ef : r.find? (fun x => x.getD 0 0 == c) = some r[i] := by
            rw [List.find?_eq_some_iff_getElem]
            refine ⟨by rw [e4]; simp [z], i, hir, rfl, fun j hj => ?_⟩
            have := hn j hj
            have hjr : j < r.length := by omega
            have e6 : r.getD j [] = r[j] := by simp [List.getD, hjr]
            rw [e6] at this
            rw [this]
            rfl
          unfold Hit
          rw [ef]
          exact ⟨b, rfl, by rw [e4]; exact hb⟩
        · have z : ¬ x0 = c := by simpa using z
          walk_at "rd"
          refine ⟨rfl, ⟨_, rfl⟩, fun j hj => ?_⟩
          by_cases hji : j = i
          · subst hji
            rw [e5]
            simp [z]
          · exact hn j (by omega)
    · rintro σ H2 ⟨rfl, ⟨v, rfl⟩, hn⟩
      walk_at "rd"
      refine q _ ?_
      have ef : r.find? (fun x => x.getD 0 0 == c) = none := by
        rw [List.find?_eq_none]
        intro x hx
        obtain ⟨j, hj, e⟩ := List.getElem_of_mem hx
        have := hn j (by rw [List.length_map]; omega)
        have e6 : r.getD j [] = r[j] := by simp [List.getD, hj]
        rw [e6, e] at this
        rw [this]
        exact Bool.false_ne_true
      unfold Hit
      rw [ef]

theorem scWorthOf : FnScope ["claims"] ["claims"] (defScope sWorthOf) := ⟨rfl, rfl, rfl, by decide +kernel, rfl, by decide +kernel, by decide +kernel⟩
theorem ok_WorthOf {f : Addr} {fd : FuncData} {dV : Value} (F : FunD K "worth_of" "worth_of" sWorthOf f fd dV) (T : Txt K mg cB c_CostError c_Full c_NoClaim c_RoundOver c_TooLate c_Twice c_TooMuch) : FnOk P w K mg base CX0 1 f fd ["claims"] (spWorthOf K) := by
  refine F.ok scWorthOf (fun vs H Q E h => ?_) (fun cdv A outer s H vs Q E hr h => ?_)
  · obtain ⟨l, cs, r, rfl, hS, hT, h4, hn, q⟩ := h
    rfl
  · obtain ⟨l, cs, r, rfl, hS, hT, h4, hn, q⟩ := h
    refine ⟨_, (pss_one (ps_ret (pe_callB (cb_sumK K rfl rfl) (by rfl) T.b_sum PyProof.Rows.boot_sum (pa_cons (pe_comp ["claims"] (defScope sWorthOf) 1 [] ["claim"] rfl (by decide +kernel) (pi_list (pv 0)) (fun _ _ _ _ => (pg_name (i := 0) (show List.Nodup (["claim"] : List Str) by decide +kernel) rfl (Or.inl rfl))) (fun _ _ _ _ => pts_nil) (fun _ _ _ _ => (pe_ix (ix_tupK K rfl) (pv 0) (pe_globI (by rfl) T.c_WORTH) (fun _ _ => rfl))) (by decide +kernel) (by decide +kernel) (by decide +kernel)) pa_nil)))), ?_⟩
    try dsimp only [cxOf]
    refine r_ret (r_cb (r_cons (r_comp (r_ilist (r_var rfl ⟨l, rfl, ⟨_, hS⟩, fun D nD => ?_⟩)))))
    refine comp_listF (fun i => .int ((r.getD i []).getD 3 0)) nD hS (by rw [List.length_map, hT.1]; exact hn) ?_ ?_
    · intro i x H' q' hx sm k
      rw [List.getElem?_map] at hx
      obtain ⟨z, hz, rfl⟩ := Option.map_eq_some_iff.mp hx
      obtain ⟨y, hy, hz2⟩ := hT.at hz
      have hm : y ∈ r := List.mem_of_getElem? hy
      obtain ⟨x0, x1, x2, x3, rfl⟩ : ∃ x0 x1 x2 x3, y = [x0, x1, x2, x3] := by
        have := h4 y hm
        match y, this with
        | [x0, x1, x2, x3], _ => exact ⟨x0, x1, x2, x3, rfl⟩
      have ey : r.getD i [] = [x0, x1, x2, x3] := by rw [List.getD_eq_getElem?_getD, hy]; rfl
      rw [ey] at k
      exact r_op (r_var rfl (r_c (r_ixT (.of (sm _ _ hz2)) rfl (k _ (Same.refl _)))))
    · intro H' sm hD
      refine r_nil (r_sum (ns := (List.range (List.map V.ref cs).length).map fun i => (r.getD i []).getD 3 0) (.of (by rw [hD, List.map_map]; rfl)) (q _ _ sm))

theorem scRowsUntil : FnScope ["rows", "day"] ["rows", "day"] (defScope sRowsUntil) := ⟨rfl, rfl, rfl, by decide +kernel, rfl, by decide +kernel, by decide +kernel⟩
theorem ok_RowsUntil {f : Addr} {fd : FuncData} {dV : Value} (F : FunD K "rows_until" "rows_until" sRowsUntil f fd dV) (T : Txt K mg cB c_CostError c_Full c_NoClaim c_RoundOver c_TooLate c_Twice c_TooMuch) : FnOk P w K mg base CX0 1 f fd ["rows", "day"] (spUntil K) := by
  refine F.ok scRowsUntil (fun vs H Q E h => ?_) (fun cdv A outer s H vs Q E hr h => ?_)
  · obtain ⟨a, rows, d, rfl, hR0, hn, q⟩ := h
    rfl
  · obtain ⟨a, rows, d, rfl, hR0, hn, q⟩ := h
    refine ⟨_, (pss_one (ps_ret (pe_comp ["rows", "day"] (defScope sRowsUntil) 1 [1] ["row", "day"] rfl (by decide +kernel) (pi_list (pv 0)) (fun _ _ _ _ => (pg_name (i := 0) (show List.Nodup (["row", "day"] : List Str) by decide +kernel) rfl (Or.inl rfl))) (fun _ _ _ _ => (pts_one (pt_cmpR op_le (pe_ix (ix_tupK K rfl) (pv 0) (pe_globI (by rfl) T.c_DAY) (fun _ _ => rfl)) (pv 1) (nomark _)))) (fun _ _ _ _ => (pv 0)) (by decide +kernel) (by decide +kernel) (by decide +kernel)))), ?_⟩
    try dsimp only [cxOf]
    obtain ⟨ps, hS, hR⟩ := hR0
    have lp := hR.1
    refine r_ret (r_comp (r_ilist (r_var rfl ⟨a, rfl, ⟨_, hS⟩, fun D nD => ?_⟩)))
    refine comp_listP (fun j => (fun r : Rw => decide (r.day ≤ d)) (rows.getD j (.dun 0 0 0))) (fun j => .ref (ps.getD j 0)) nD hS (by rw [List.length_map]; omega) ?_ ?_ ?_
    · intro j x H' q' hx sm k
      obtain ⟨b, rfl, e1, hj, hb⟩ := hR.at hx
      have hb := hb.mono sm.tupS
      obtain ⟨xs0, hb0⟩ := hb.head
      have ee : rows.getD j (.dun 0 0 0) = rows[j] := by simp [List.getD, hj]
      have k := k _ (Same.refl _)
      rw [ee] at k
      refine r_test (r_op (r_op (r_var rfl (r_c (r_ixT (v := .int rows[j].day) (.of hb0) (atI_nat (j := 2) rfl) (r_var rfl (r_I0 ⟨_, rfl, k⟩)))))))
    · intro j x H' q' hx sm k
      have ex : x = V.ref (ps.getD j 0) := by
        obtain ⟨hi, ex⟩ := List.getElem?_eq_some_iff.mp hx
        rw [List.length_map] at hi
        rw [← ex]; simp [List.getD, hi]
      subst ex
      exact r_var rfl (k _ (Same.refl _))
    · intro H' sm hD
      rw [List.length_map] at hD
      refine q D H' sm nD ⟨_, .of ?_, (hR.mono sm.tupS).filt (fun r : Rw => decide (r.day ≤ d))⟩
      rw [hD, List.map_map]
      rfl

theorem scCheckRow : FnScope ["rows", "written", "row"] ["rows", "written", "row"] (defScope sCheckRow) := ⟨rfl, rfl, rfl, by decide +kernel, rfl, by decide +kernel, by decide +kernel⟩
theorem ok_CheckRow {f : Addr} {fd : FuncData} {dV : Value} (F : FunD K "check_row" "check_row" sCheckRow f fd dV) (T : Txt K mg cB c_CostError c_Full c_NoClaim c_RoundOver c_TooLate c_Twice c_TooMuch) (GCheckNext : FnX P w K mg base "check_next" 4 ["rounds", "last", "written", "row"] (spNext [c_Full, c_NoClaim, c_RoundOver, c_TooLate, c_Twice, c_TooMuch])) (GRoundsOf : Fn P w K mg base "rounds_of" 3 ["rows"] (spRounds K)) : FnOk P w K mg base (CX1 P w) 5 f fd ["rows", "written", "row"] (spCheck K [c_Full, c_NoClaim, c_RoundOver, c_TooLate, c_Twice, c_TooMuch]) := by
  refine F.okX scCheckRow (fun vs H Q E h => ?_) (fun cdv A outer s H vs Q E hr h => ?_)
  · obtain ⟨a, wn, q1, ps, rows, r, rfl, hS, hR, hcs, hn, hr1, q, qe⟩ := h
    rfl
  · obtain ⟨a, wn, q1, ps, rows, r, rfl, hS, hR, hcs, hn, hr1, q, qe⟩ := h
    refine ⟨_, (pss_one (ps_expr (pe_fnX GCheckNext hr (by decide) passX (by rfl) (pa_cons (pe_fn GRoundsOf hr (by decide) (by rfl) (pa_cons (pv 0) pa_nil)) (pa_cons (pe_ifExp (pt_cmpR (op_neL hr.units0) (pv 0) (pe_lst pa_nil) (nomark _)) (pe_ix (ix_listK K rfl) (pv 0) (pe_un un_neg pe_int) (fun _ _ => rfl)) pe_non) (pa_cons (pv 1) (pa_cons (pv 2) pa_nil))))))), ?_⟩
    try dsimp only [cxOf]
    walk_at "rd"
    refine ⟨a, ps, rows, rfl, hS, hR, hcs, hn, fun p ls H1 s1 np R => ?_⟩
    obtain ⟨g1, g2, g3⟩ := roundsR_ok rows
    have f4 : F4 (roundsR rows) := fun x hx y hy => (g3 x hx).2 y hy
    walk_at "rd"
    rename_i p2 np2
    have s2 := s1.trans (Same.new (o := .lst []) np2)
    have R2 := R.same (Same.new (o := .lst []) np2)
    refine rNeL_nl (xs := List.map V.ref ps) (s2.seq hS) (.of upd_same) ⟨_, rfl, ?_⟩
    have lps := hR.1
    by_cases e : ps = []
    · have er : rows = [] := by rw [e] at lps; exact List.length_eq_zero_iff.mp lps.symm
      refine iteN (by simp [e]) ?_
      walk_at "rd"
      refine ⟨p, .non, wn, q1, ls, roundsR rows, lastR rows, r, rfl, R2, g1, f4, .inl ⟨rfl, by rw [er]; rfl⟩, hr1.mono s2.tupS, fun e1 H' s' => q e1 _ (s2.trans s'), fun k e1 t H' s' ht => qe k e1 t _ (s2.trans s') ht⟩
    · have er : rows ≠ [] := fun z => e (by rw [z] at lps; exact List.length_eq_zero_iff.mp lps)
      refine iteP (by simpa using e) ?_
      refine r_op (r_var rfl ?_)
      refine r_un (r_c (r_U ?_))
      refine r_ixL (s2.seq hS) (atI_refs_last e) ?_
      have n0 : 0 < rows.length := List.length_pos_iff.mpr er
      have n1 : ps.length - 1 < ps.length := by omega
      have n2 : ps.length - 1 < rows.length := by omega
      have hb := (hR.2 (ps.length - 1) ps[ps.length - 1] rows[ps.length - 1] (by simp [n1]) (by simp [n2])).mono s2.tupS
      have eb : ps.getD (ps.length - 1) 0 = ps[ps.length - 1] := by simp [List.getD, n1]
      rw [eb]
      walk_at "rd"
      refine ⟨p, _, wn, q1, ls, roundsR rows, lastR rows, r, rfl, R2, g1, f4, .inr ⟨_, _, rfl, hb, ?_⟩, hr1.mono s2.tupS, fun e1 H' s' => q e1 _ (s2.trans s'), fun k e1 t H' s' ht => qe k e1 t _ (s2.trans s') ht⟩
      unfold lastR
      rw [List.getLast?_eq_getElem?]
      have : rows.length - 1 = ps.length - 1 := by omega
      rw [this]
      simp [n2]

theorem scCheckNext : FnScope ["rounds", "last", "written", "row"] ["rounds", "last", "written", "row"] (defScope sCheckNext) := ⟨rfl, rfl, rfl, by decide +kernel, rfl, by decide +kernel, by decide +kernel⟩
theorem ok_CheckNext {f : Addr} {fd : FuncData} {dV : Value} (F : FunD K "check_next" "check_next" sCheckNext f fd dV) (T : Txt K mg cB c_CostError c_Full c_NoClaim c_RoundOver c_TooLate c_Twice c_TooMuch) (GComesTwice : Fn P w K mg base "comes_twice" 2 ["rounds", "row"] (spTwice)) (GLacksClaim : Fn P w K mg base "lacks_claim" 2 ["rounds", "row"] (spLacks)) (GMeetsOver : Fn P w K mg base "meets_over" 2 ["rounds", "row"] (spMeets)) (GNamesTooMuch : Fn P w K mg base "names_too_much" 3 ["rounds", "row"] (spMuch)) : FnOk P w K mg base (CX1 P w) 4 f fd ["rounds", "last", "written", "row"] (spNext [c_Full, c_NoClaim, c_RoundOver, c_TooLate, c_Twice, c_TooMuch]) := by
  refine F.okX scCheckNext (fun vs H Q E h => ?_) (fun cdv A outer s H vs Q E hr h => ?_)
  · obtain ⟨p, lv, wn, q1, ls, rs, last, r, rfl, R, ne, f4, hl, hr1, q, qe⟩ := h
    rfl
  · obtain ⟨p, lv, wn, q1, ls, rs, last, r, rfl, R, ne, f4, hl, hr1, q, qe⟩ := h
    refine ⟨_, (pss_cons (ps_if (pt_cmpR op_ge (pv 2) (pe_globI (by rfl) T.c_MOST_ROWS) (nomark _)) (pss_one (ps_raise raiseX hr.hd (by rfl) T.y_Full T.x_Full (pa_cons pe_str pa_nil))) pss_nil)
      (pss_cons (ps_if (pt_val (pe_fn GLacksClaim hr (by decide) (by rfl) (pa_cons (pv 0) (pa_cons (pv 3) pa_nil)))) (pss_one (ps_raise raiseX hr.hd (by rfl) T.y_NoClaim T.x_NoClaim (pa_cons pe_str pa_nil))) pss_nil)
      (pss_cons (ps_if (pt_val (pe_fn GMeetsOver hr (by decide) (by rfl) (pa_cons (pv 0) (pa_cons (pv 3) pa_nil)))) (pss_one (ps_raise raiseX hr.hd (by rfl) T.y_RoundOver T.x_RoundOver (pa_cons pe_str pa_nil))) pss_nil)
      (pss_cons (ps_if (PW.pt (pw_and (pt_cmpR op_notN (pv 1) pe_non (nomark _)) (pw_and1 (pt_cmpR op_lt (pe_ix (ix_tupK K rfl) (pv 3) (pe_globI (by rfl) T.c_DAY) (fun _ _ => rfl)) (pe_ix (ix_tupK K rfl) (pv 1) (pe_globI (by rfl) T.c_DAY) (fun _ _ => rfl)) (nomark _))))) (pss_one (ps_raise raiseX hr.hd (by rfl) T.y_TooLate T.x_TooLate (pa_cons pe_str pa_nil))) pss_nil)
      (pss_cons (ps_if (pt_val (pe_fn GComesTwice hr (by decide) (by rfl) (pa_cons (pv 0) (pa_cons (pv 3) pa_nil)))) (pss_one (ps_raise raiseX hr.hd (by rfl) T.y_Twice T.x_Twice (pa_cons pe_str pa_nil))) pss_nil)
      (pss_one (ps_if (pt_val (pe_fn GNamesTooMuch hr (by decide) (by rfl) (pa_cons (pv 0) (pa_cons (pv 3) pa_nil)))) (pss_one (ps_raise raiseX hr.hd (by rfl) T.y_TooMuch T.x_TooMuch (pa_cons pe_str pa_nil))) pss_nil))))))), ?_⟩
    try dsimp only [cxOf]
    have raise : ∀ {k : Nat} {H1 : Hp} {t : Addr}, refuseR rs last wn r = some k → Same H H1 → H1 t = none → E (.ref (([c_Full, c_NoClaim, c_RoundOver, c_TooLate, c_Twice, c_TooMuch] : List Addr).getD k 0)) (some t) (upd H1 t (.tup [.str (msgR k)])) := fun e s1 nt => qe _ e _ _ (s1.trans (Same.new nt)) upd_same
    walk_at "rd"
    refine ite2 (fun z => ?_) (fun z => ?_)
    · have z : 300 ≤ wn := by simpa using z
      refine r_raise (r_cons (r_c (r_nil ⟨by show 1 ≤ sizeLine; decide, fun t nt => ?_⟩)))
      exact raise (k := 0) (by unfold refuseR; rw [if_pos z]) (Same.refl H) nt
    have z0 : ¬ 300 ≤ wn := by simpa using z
    walk_at "rd"
    refine ⟨p, q1, ls, rs, r, rfl, R, f4, hr1, fun H1 s1 => ⟨_, rfl, ?_⟩⟩
    refine ite2 (fun z => ?_) (fun z1 => ?_)
    · refine r_raise (r_cons (r_c (r_nil ⟨by show 1 ≤ sizeLine; decide, fun t nt => ?_⟩)))
      exact raise (k := 1) (by unfold refuseR; rw [if_neg z0, if_pos z]) s1 nt
    walk_at "rd"
    refine ⟨p, q1, ls, rs, r, rfl, R.same s1, hr1.mono s1.tupS, fun H2 s2' => ⟨_, rfl, ?_⟩⟩
    have s2 := s1.trans s2'
    refine ite2 (fun z => ?_) (fun z2 => ?_)
    · refine r_raise (r_cons (r_c (r_nil ⟨by show 1 ≤ sizeLine; decide, fun t nt => ?_⟩)))
      exact raise (k := 2) (by unfold refuseR; rw [if_neg z0, if_neg z1, if_pos z]) s2 nt
    obtain ⟨xs1, hh1⟩ := (hr1.mono s2.tupS).head
    walk_at "rd"
    rcases hl.mono s2.tupS with ⟨rfl, el⟩ | ⟨b, r0, rfl, hb, el⟩
    · have e3 : lateR last r = false := by rw [el]; rfl
      refine ⟨rfl, _, rfl, ?_⟩
      refine iteN (by simp) ?_
      walk_at "rd"
      refine ⟨p, q1, ls, rs, r, rfl, R.same s2, ne, f4, hr1.mono s2.tupS, fun H3 s3' => ⟨_, rfl, ?_⟩⟩
      have s3 := s2.trans s3'
      refine ite2 (fun z => ?_) (fun z4 => ?_)
      · refine r_raise (r_cons (r_c (r_nil ⟨by show 1 ≤ sizeLine; decide, fun t nt => ?_⟩)))
        exact raise (k := 4) (by unfold refuseR; rw [if_neg z0, if_neg z1, if_neg z2, if_neg (by rw [e3]; exact Bool.false_ne_true), if_pos z]) s3 nt
      walk_at "rd"
      refine ⟨p, q1, ls, rs, r, rfl, R.same s3, f4, hr1.mono s3.tupS, by simpa using z1, fun H4 s4' => ⟨_, rfl, ?_⟩⟩
      refine ite2 (fun z => ?_) (fun z5 => ?_)
      · refine r_raise (r_cons (r_c (r_nil ⟨by show 1 ≤ sizeLine; decide, fun t nt => ?_⟩)))
        exact raise (k := 5) (by unfold refuseR; rw [if_neg z0, if_neg z1, if_neg z2, if_neg (by rw [e3]; exact Bool.false_ne_true), if_neg z4, if_pos z]) (s3.trans s4') nt
      refine r_next ?_
      exact q (by unfold refuseR; rw [if_neg z0, if_neg z1, if_neg z2, if_neg (by rw [e3]; exact Bool.false_ne_true), if_neg z4, if_neg z5]) _ (s3.trans s4')
    
    · obtain ⟨xs0, hb0⟩ := hb.head
      have e3' : lateR last r = decide (r.day < r0.day) := by rw [el]; rfl
      refine ⟨rfl, _, rfl, ?_⟩
      refine iteP (by simp) ?_
      refine r_test (r_op ?_)
      refine r_op (r_var rfl (r_c ?_))
      refine r_ixT (v := .int r.day) (.of hh1) (atI_nat (j := 2) rfl) ?_
      refine r_op (r_var rfl (r_c ?_))
      refine r_ixT (v := .int r0.day) (.of hb0) (atI_nat (j := 2) rfl) ?_
      refine r_I0 ⟨_, rfl, ?_⟩
      rw [← e3']
      refine ite2 (fun z => ?_) (fun z3 => ?_)
      · refine r_raise (r_cons (r_c (r_nil ⟨by show 1 ≤ sizeLine; decide, fun t nt => ?_⟩)))
        exact raise (k := 3) (by unfold refuseR; rw [if_neg z0, if_neg z1, if_neg z2, if_pos z]) s2 nt
      have e3 : lateR last r = false := by simpa using z3
      walk_at "rd"
      refine ⟨p, q1, ls, rs, r, rfl, R.same s2, ne, f4, hr1.mono s2.tupS, fun H3 s3' => ⟨_, rfl, ?_⟩⟩
      have s3 := s2.trans s3'
      refine ite2 (fun z => ?_) (fun z4 => ?_)
      · refine r_raise (r_cons (r_c (r_nil ⟨by show 1 ≤ sizeLine; decide, fun t nt => ?_⟩)))
        exact raise (k := 4) (by unfold refuseR; rw [if_neg z0, if_neg z1, if_neg z2, if_neg (by rw [e3]; exact Bool.false_ne_true), if_pos z]) s3 nt
      walk_at "rd"
      refine ⟨p, q1, ls, rs, r, rfl, R.same s3, f4, hr1.mono s3.tupS, by simpa using z1, fun H4 s4' => ⟨_, rfl, ?_⟩⟩
      refine ite2 (fun z => ?_) (fun z5 => ?_)
      · refine r_raise (r_cons (r_c (r_nil ⟨by show 1 ≤ sizeLine; decide, fun t nt => ?_⟩)))
        exact raise (k := 5) (by unfold refuseR; rw [if_neg z0, if_neg z1, if_neg z2, if_neg (by rw [e3]; exact Bool.false_ne_true), if_neg z4, if_pos z]) (s3.trans s4') nt
      refine r_next ?_
      exact q (by unfold refuseR; rw [if_neg z0, if_neg z1, if_neg z2, if_neg (by rw [e3]; exact Bool.false_ne_true), if_neg z4, if_neg z5]) _ (s3.trans s4')

theorem scLacksClaim : FnScope ["rounds", "row", "claims"] ["rounds", "row"] (defScope sLacksClaim) := ⟨rfl, rfl, rfl, by decide +kernel, rfl, by decide +kernel, by decide +kernel⟩
theorem ok_LacksClaim {f : Addr} {fd : FuncData} {dV : Value} (F : FunD K "lacks_claim" "lacks_claim" sLacksClaim f fd dV) (T : Txt K mg cB c_CostError c_Full c_NoClaim c_RoundOver c_TooLate c_Twice c_TooMuch) (GClaimsOf : Fn P w K mg base "claims_of" 1 ["rounds", "turn"] (spClaims)) (GFindClaim : Fn P w K mg base "find_claim" 1 ["claims", "number"] (spFind K)) (GOverOf : Fn P w K mg base "over_of" 1 ["rounds"] (spOver K)) : FnOk P w K mg base CX0 2 f fd ["rounds", "row"] (spLacks) := by
  refine F.ok scLacksClaim (fun vs H Q E h => ?_) (fun cdv A outer s H vs Q E hr h => ?_)
  · obtain ⟨p, q1, ls, rs, r, rfl, R, f4, hr1, q⟩ := h
    rfl
  · obtain ⟨p, q1, ls, rs, r, rfl, R, f4, hr1, q⟩ := h
    refine ⟨_, (pss_cons (ps_if (pt_cmpR op_eq (pe_ix (ix_tupK K rfl) (pv 1) (pe_globI (by rfl) T.c_WORD) (fun _ _ => rfl)) pe_str (nomark _)) (pss_one (ps_ret (pe_cmpR op_isN (pe_fn GFindClaim hr (by decide) (by rfl) (pa_cons (pe_fn GClaimsOf hr (by decide) (by rfl) (pa_cons (pv 0) (pa_cons (pe_op op_sub (pe_fn GOverOf hr (by decide) (by rfl) (pa_cons (pv 0) pa_nil)) pe_int) pa_nil))) (pa_cons (pe_ix (ix_tupK K rfl) (pv 1) (pe_globI (by rfl) T.c_CLAIM) (fun _ _ => rfl)) pa_nil))) pe_non (nomark _)))) pss_nil)
      (pss_cons (ps_if (pt_cmpR op_eq (pe_ix (ix_tupK K rfl) (pv 1) (pe_globI (by rfl) T.c_WORD) (fun _ _ => rfl)) pe_str (nomark _)) (pss_one (ps_ret (pe_cmpR (op_eqL hr.units0) (pe_fn GClaimsOf hr (by decide) (by rfl) (pa_cons (pv 0) (pa_cons (pe_ix (ix_tupK K rfl) (pv 1) (pe_globI (by rfl) T.c_TURN) (fun _ _ => rfl)) pa_nil))) (pe_lst pa_nil) (nomark _)))) pss_nil)
      (pss_cons (ps_if (pt_cmpR op_eq (pe_ix (ix_tupK K rfl) (pv 1) (pe_globI (by rfl) T.c_WORD) (fun _ _ => rfl)) pe_str (nomark _)) (pss_one (ps_ret (pe_cmpR op_isN (pe_fn GFindClaim hr (by decide) (by rfl) (pa_cons (pe_fn GClaimsOf hr (by decide) (by rfl) (pa_cons (pv 0) (pa_cons (pe_ix (ix_tupK K rfl) (pv 1) (pe_globI (by rfl) T.c_TURN) (fun _ _ => rfl)) pa_nil))) (pa_cons (pe_ix (ix_tupK K rfl) (pv 1) (pe_globI (by rfl) T.c_OFFER_CLAIM) (fun _ _ => rfl)) pa_nil))) pe_non (nomark _)))) pss_nil)
      (pss_cons (ps_if (pt_cmpR op_eq (pe_ix (ix_tupK K rfl) (pv 1) (pe_globI (by rfl) T.c_WORD) (fun _ _ => rfl)) pe_str (nomark _)) (pss_cons (ps_set (i := 2) scLacksClaim.nd rfl (Or.inr rfl) (pe_fn GClaimsOf hr (by decide) (by rfl) (pa_cons (pv 0) (pa_cons (pe_ix (ix_tupK K rfl) (pv 1) (pe_globI (by rfl) T.c_TURN) (fun _ _ => rfl)) pa_nil))))
      (pss_one (ps_ret (pe_or (pe_cmpR (op_eqL hr.units0) (pv 2) (pe_lst pa_nil) (nomark _)) (pe_one (pe_callB (call_any rfl) (by rfl) T.b_any PyProof.Rows.boot_any (pa_cons (pe_comp ["rounds", "row", "claims"] (defScope sLacksClaim) 2 [2] ["claim", "won", "claims"] rfl (by decide +kernel) (pi_tup (pe_ix (ix_tupK K rfl) (pv 1) (pe_globI (by rfl) T.c_RULE_WINS) (fun _ _ => rfl))) (fun _ _ _ _ => (pg_tupK (n := 2) K rfl rfl (pgs_cons (pg_name (i := 0) (show List.Nodup (["claim", "won", "claims"] : List Str) by decide +kernel) rfl (Or.inl rfl)) (pgs_cons (pg_name (i := 1) (show List.Nodup (["claim", "won", "claims"] : List Str) by decide +kernel) rfl (Or.inl rfl)) pgs_nil)))) (fun _ _ _ _ => pts_nil) (fun _ _ _ _ => (pe_cmpR op_isN (pe_fn GFindClaim hr (by decide) (by rfl) (pa_cons (pv 2) (pa_cons (pv 0) pa_nil))) pe_non (nomark _))) (by decide +kernel) (by decide +kernel) (by decide +kernel)) pa_nil))))))) pss_nil)
      (pss_one (ps_ret pe_bl)))))), ?_⟩
    try dsimp only [cxOf]
    have hL := R.at_
    cases r with
    | claim n d c a b w =>
      have h1 : H q1 = some (.tup [.int n, .str "claim", .int d, .int c, .int a, .int b, .int w]) := hr1
      walk_at "rd"
      exact q _ (Same.refl H)
    | rule n d t bk ws =>
      obtain ⟨q2, h1, as, h2, hT2, h22, hn2⟩ := hr1
      walk_at "rd"
      refine ⟨p, ls, rs, t, rfl, R, fun l cs nl hT => ?_⟩
      have s1 : Same H (upd H l (.lst (List.map V.ref cs))) := Same.new nl
      have em : (decide (List.map V.ref cs = [])) = (claimsR rs t).isEmpty := by
        have := hT.1
        cases cs with
        | nil => cases e : claimsR rs t with
          | nil => rfl
          | cons x y => rw [e] at this; simp at this
        | cons x y => cases e : claimsR rs t with
          | nil => rw [e] at this; simp at this
          | cons x y => rfl
      walk_at "rd"
      rename_i p2 np2
      have s2 := s1.trans (Same.new (o := .lst []) np2)
      refine rEqL_nl (xs := List.map V.ref cs) ((Same.new np2).seq (.of upd_same)) (.of upd_same) ?_
      refine ⟨_, rfl, ?_⟩
      rw [em]
      cases e : (claimsR rs t).isEmpty with
      | true =>
        refine iteT ?_
        have := q _ s2
        rw [show lacksR rs (.rule n d t bk ws) = true by show (_ || _) = true; rw [e]; rfl] at this
        exact this
      | false =>
        refine iteF ?_
        refine r_cb (r_cons (r_comp (r_itup (r_op (r_var rfl (r_c (r_ixT (.of (s2 _ _ h1)) rfl ⟨q2, rfl, ⟨_, .of (s2 _ _ h2)⟩, fun D nD => ?_⟩)))))))
        refine comp_pairs (fun x => .bl (!((claimsR rs t).any fun y => y.getD 0 0 == x.getD 0 0))) nD (.of (s2 _ _ h2)) (hT2.same s2) h22 hn2 ?_ ?_
        · intro x H' q' hx sm k
          refine r_op (r_callX (r_cons (r_var rfl (r_cons (r_var rfl (r_nil ?_))))))
          refine ⟨l, cs, _, _, rfl, .of (sm _ _ (Same.new np2 _ _ upd_same)), hT.same (s2.trans sm), f4.claims, fun v hv => ?_⟩
          refine r_c ⟨rfl, ?_⟩
          rw [hv.non]
          exact k _ (Same.refl _)
        · intro H' sm hD
          refine r_nil (r_any (bs := ws.map fun x => !((claimsR rs t).any fun y => y.getD 0 0 == x.getD 0 0)) (.of (by rw [hD, List.map_map]; rfl)) ?_)
          have := q _ (s2.trans sm)
          rw [show lacksR rs (.rule n d t bk ws) = (ws.map fun x => !((claimsR rs t).any fun y => y.getD 0 0 == x.getD 0 0)).any id by show ((claimsR rs t).isEmpty || ws.any _) = _; rw [e, Bool.false_or, List.any_map]; rfl] at this
          exact this
    | carry n d c =>
      have h1 : H q1 = some (.tup [.int n, .str "carry", .int d, .int c]) := hr1
      have ll : ((List.map V.ref ls).length : Int) = (rs.length : Int) := by rw [List.length_map, R.len]
      walk_at "rd"
      refine ⟨p, _, rfl, .of hL, ?_⟩
      rw [ll]
      walk_at "rd"
      refine ⟨p, ls, rs, _, rfl, R, fun l cs nl hT => ?_⟩
      have s1 : Same H (upd H l (.lst (List.map V.ref cs))) := Same.new nl
      have h1' := s1 _ _ h1
      walk_at "rd"
      refine ⟨l, cs, _, c, rfl, .of upd_same, hT.same s1, f4.claims, fun v hv => ?_⟩
      refine r_c ⟨rfl, ?_⟩
      rw [hv.non]
      exact q _ s1
    | step n d t sd k m l =>
      have h1 : H q1 = some (.tup [.int n, .str "step", .int d, .int t, .int sd, .str k, .int m, .str l]) := hr1
      walk_at "rd"
      refine ⟨p, ls, rs, t, rfl, R, fun l cs nl hT => ?_⟩
      have s1 : Same H (upd H l (.lst (List.map V.ref cs))) := Same.new nl
      have em : (decide (List.map V.ref cs = [])) = (claimsR rs t).isEmpty := by
        have := hT.1
        cases cs with
        | nil => cases e : claimsR rs t with
          | nil => rfl
          | cons x y => rw [e] at this; simp at this
        | cons x y => cases e : claimsR rs t with
          | nil => rw [e] at this; simp at this
          | cons x y => rfl
      walk_at "rd"
      rename_i p2 np2
      have s2 := s1.trans (Same.new (o := .lst []) np2)
      refine rEqL_nl (xs := List.map V.ref cs) ((Same.new np2).seq (.of upd_same)) (.of upd_same) ?_
      rw [em]
      exact q _ s2
    | offer n d t c a =>
      have h1 : H q1 = some (.tup [.int n, .str "offer", .int d, .int t, .int c, .int a]) := hr1
      walk_at "rd"
      refine ⟨p, ls, rs, _, rfl, R, fun l cs nl hT => ?_⟩
      have s1 : Same H (upd H l (.lst (List.map V.ref cs))) := Same.new nl
      have h1' := s1 _ _ h1
      walk_at "rd"
      refine ⟨l, cs, _, c, rfl, .of upd_same, hT.same s1, f4.claims, fun v hv => ?_⟩
      refine r_c ⟨rfl, ?_⟩
      rw [hv.non]
      exact q _ s1
    | pay n d sd pp co =>
      have h1 : H q1 = some (.tup [.int n, .str "pay", .int d, .int sd, .int pp, .int co]) := hr1
      walk_at "rd"
      exact q _ (Same.refl H)
    | dun n d sd =>
      have h1 : H q1 = some (.tup [.int n, .str "dun", .int d, .int sd]) := hr1
      walk_at "rd"
      exact q _ (Same.refl H)

theorem scMeetsOver : FnScope ["rounds", "row"] ["rounds", "row"] (defScope sMeetsOver) := ⟨rfl, rfl, rfl, by decide +kernel, rfl, by decide +kernel, by decide +kernel⟩
theorem ok_MeetsOver {f : Addr} {fd : FuncData} {dV : Value} (F : FunD K "meets_over" "meets_over" sMeetsOver f fd dV) (T : Txt K mg cB c_CostError c_Full c_NoClaim c_RoundOver c_TooLate c_Twice c_TooMuch) (GOverOf : Fn P w K mg base "over_of" 1 ["rounds"] (spOver K)) : FnOk P w K mg base CX0 2 f fd ["rounds", "row"] (spMeets) := by
  refine F.ok scMeetsOver (fun vs H Q E h => ?_) (fun cdv A outer s H vs Q E hr h => ?_)
  · obtain ⟨p, q1, ls, rs, r, rfl, R, hr1, q⟩ := h
    rfl
  · obtain ⟨p, q1, ls, rs, r, rfl, R, hr1, q⟩ := h
    refine ⟨_, (pss_cons (ps_if (pt_cmpR op_eq (pe_ix (ix_tupK K rfl) (pv 1) (pe_globI (by rfl) T.c_WORD) (fun _ _ => rfl)) pe_str (nomark _)) (pss_one (ps_ret (pe_cmpR op_gt (pe_fn GOverOf hr (by decide) (by rfl) (pa_cons (pv 0) pa_nil)) pe_int (nomark _)))) pss_nil)
      (pss_cons (ps_if (pt_cmpR op_eq (pe_ix (ix_tupK K rfl) (pv 1) (pe_globI (by rfl) T.c_WORD) (fun _ _ => rfl)) pe_str (nomark _)) (pss_one (ps_ret (pe_cmpR op_eq (pe_fn GOverOf hr (by decide) (by rfl) (pa_cons (pv 0) pa_nil)) (pe_globI (by rfl) T.c_ROUNDS) (nomark _)))) pss_nil)
      (pss_cons (ps_if (pt_cmpR op_in_seq (pe_ix (ix_tupK K rfl) (pv 1) (pe_globI (by rfl) T.c_WORD) (fun _ _ => rfl)) (pe_tup (pa_cons pe_str (pa_cons pe_str (pa_cons pe_str pa_nil)))) (by with_unfolding_all rfl)) (pss_one (ps_ret (pe_cmpR op_lt (pe_ix (ix_tupK K rfl) (pv 1) (pe_globI (by rfl) T.c_TURN) (fun _ _ => rfl)) (pe_fn GOverOf hr (by decide) (by rfl) (pa_cons (pv 0) pa_nil)) (nomark _)))) pss_nil)
      (pss_one (ps_ret pe_bl))))), ?_⟩
    try dsimp only [cxOf]
    have hL := R.at_
    have ll : ((List.map V.ref ls).length : Int) = (rs.length : Int) := by rw [List.length_map, R.len]
    cases r with
    | claim n d c a b w =>
      have h1 : H q1 = some (.tup [.int n, .str "claim", .int d, .int c, .int a, .int b, .int w]) := hr1
      walk_at "rd"
      refine ⟨p, _, rfl, .of hL, ?_⟩
      walk_at "rd"
      rw [ll]
      exact q _ (Same.refl H)
    | rule n d t bk ws =>
      obtain ⟨q2, h1, h2⟩ := hr1
      walk_at "rd"
      rename_i p2 np2
      refine ⟨p2, _, rfl, .inr (.of upd_same), rfl, rfl, ⟨_, rfl, ?_⟩⟩
      refine iteP (by decide +kernel) ?_
      have s2 := Same.new (o := .tup [V.str "step", V.str "offer", V.str "rule"]) np2
      have h1' := s2 _ _ h1
      walk_at "rd"
      refine ⟨p, _, rfl, .of (s2 _ _ hL), ?_⟩
      walk_at "rd"
      rw [ll]
      exact q _ s2
    | carry n d c =>
      have h1 : H q1 = some (.tup [.int n, .str "carry", .int d, .int c]) := hr1
      walk_at "rd"
      refine ⟨p, _, rfl, .of hL, ?_⟩
      walk_at "rd"
      rw [ll]
      exact q _ (Same.refl H)
    | step n d t sd k m l =>
      have h1 : H q1 = some (.tup [.int n, .str "step", .int d, .int t, .int sd, .str k, .int m, .str l]) := hr1
      walk_at "rd"
      rename_i p2 np2
      refine ⟨p2, _, rfl, .inr (.of upd_same), rfl, rfl, ⟨_, rfl, ?_⟩⟩
      refine iteP (by decide +kernel) ?_
      have s2 := Same.new (o := .tup [V.str "step", V.str "offer", V.str "rule"]) np2
      have h1' := s2 _ _ h1
      walk_at "rd"
      refine ⟨p, _, rfl, .of (s2 _ _ hL), ?_⟩
      walk_at "rd"
      rw [ll]
      exact q _ s2
    | offer n d t c a =>
      have h1 : H q1 = some (.tup [.int n, .str "offer", .int d, .int t, .int c, .int a]) := hr1
      walk_at "rd"
      rename_i p2 np2
      refine ⟨p2, _, rfl, .inr (.of upd_same), rfl, rfl, ⟨_, rfl, ?_⟩⟩
      refine iteP (by decide +kernel) ?_
      have s2 := Same.new (o := .tup [V.str "step", V.str "offer", V.str "rule"]) np2
      have h1' := s2 _ _ h1
      walk_at "rd"
      refine ⟨p, _, rfl, .of (s2 _ _ hL), ?_⟩
      walk_at "rd"
      rw [ll]
      exact q _ s2
    | pay n d sd pp co =>
      have h1 : H q1 = some (.tup [.int n, .str "pay", .int d, .int sd, .int pp, .int co]) := hr1
      walk_at "rd"
      rename_i p2 np2
      refine ⟨p2, _, rfl, .inr (.of upd_same), rfl, rfl, ⟨_, rfl, ?_⟩⟩
      refine iteN (by decide +kernel) ?_
      have s2 := Same.new (o := .tup [V.str "step", V.str "offer", V.str "rule"]) np2
      have h1' := s2 _ _ h1
      walk_at "rd"
      exact q _ s2
    | dun n d sd =>
      have h1 : H q1 = some (.tup [.int n, .str "dun", .int d, .int sd]) := hr1
      walk_at "rd"
      rename_i p2 np2
      refine ⟨p2, _, rfl, .inr (.of upd_same), rfl, rfl, ⟨_, rfl, ?_⟩⟩
      refine iteN (by decide +kernel) ?_
      have s2 := Same.new (o := .tup [V.str "step", V.str "offer", V.str "rule"]) np2
      have h1' := s2 _ _ h1
      walk_at "rd"
      exact q _ s2

theorem scComesTwice : FnScope ["rounds", "row", "named"] ["rounds", "row"] (defScope sComesTwice) := ⟨rfl, rfl, rfl, by decide +kernel, rfl, by decide +kernel, by decide +kernel⟩
theorem ok_ComesTwice {f : Addr} {fd : FuncData} {dV : Value} (F : FunD K "comes_twice" "comes_twice" sComesTwice f fd dV) (T : Txt K mg cB c_CostError c_Full c_NoClaim c_RoundOver c_TooLate c_Twice c_TooMuch) (GFindClaim : Fn P w K mg base "find_claim" 1 ["claims", "number"] (spFind K)) : FnOk P w K mg base CX0 2 f fd ["rounds", "row"] (spTwice) := by
  refine F.ok scComesTwice (fun vs H Q E h => ?_) (fun cdv A outer s H vs Q E hr h => ?_)
  · obtain ⟨p, q1, ls, rs, r, rfl, R, ne, f4, hr1, q⟩ := h
    rfl
  · obtain ⟨p, q1, ls, rs, r, rfl, R, ne, f4, hr1, q⟩ := h
    refine ⟨_, (pss_cons (ps_if (pt_cmpR op_eq (pe_ix (ix_tupK K rfl) (pv 1) (pe_globI (by rfl) T.c_WORD) (fun _ _ => rfl)) pe_str (nomark _)) (pss_one (ps_ret (pe_cmpR op_notN (pe_fn GFindClaim hr (by decide) (by rfl) (pa_cons (pe_ix (ix_listK K rfl) (pv 0) pe_int (fun _ _ => rfl)) (pa_cons (pe_ix (ix_tupK K rfl) (pv 1) (pe_globI (by rfl) T.c_CLAIM) (fun _ _ => rfl)) pa_nil))) pe_non (nomark _)))) pss_nil)
      (pss_cons (ps_if (pt_cmpR op_eq (pe_ix (ix_tupK K rfl) (pv 1) (pe_globI (by rfl) T.c_WORD) (fun _ _ => rfl)) pe_str (nomark _)) (pss_one (ps_ret (pe_cmpR op_notN (pe_fn GFindClaim hr (by decide) (by rfl) (pa_cons (pe_ix (ix_listK K rfl) (pv 0) (pe_un un_neg pe_int) (fun _ _ => rfl)) (pa_cons (pe_ix (ix_tupK K rfl) (pv 1) (pe_globI (by rfl) T.c_CLAIM) (fun _ _ => rfl)) pa_nil))) pe_non (nomark _)))) pss_nil)
      (pss_cons (ps_if (pt_cmpR op_eq (pe_ix (ix_tupK K rfl) (pv 1) (pe_globI (by rfl) T.c_WORD) (fun _ _ => rfl)) pe_str (nomark _)) (pss_cons (ps_comp ["rounds", "row", "named"] (defScope sComesTwice) 2 [] ["claim", "won"] (i := 2) scComesTwice.nd rfl rfl (by decide +kernel) (pi_tup (pe_ix (ix_tupK K rfl) (pv 1) (pe_globI (by rfl) T.c_RULE_WINS) (fun _ _ => rfl))) (fun _ _ _ _ => (pg_tupK (n := 2) K rfl rfl (pgs_cons (pg_name (i := 0) (show List.Nodup (["claim", "won"] : List Str) by decide +kernel) rfl (Or.inl rfl)) (pgs_cons (pg_name (i := 1) (show List.Nodup (["claim", "won"] : List Str) by decide +kernel) rfl (Or.inl rfl)) pgs_nil)))) (fun _ _ _ _ => pts_nil) (fun _ _ _ _ => (pv 0)) (by decide +kernel) (by decide +kernel) (by decide +kernel))
      (pss_one (ps_ret (pe_cmpR op_lt (pe_lensetI hr rfl (by rfl) T.b_len (by rfl) T.b_set (pa_cons (pv 2) pa_nil)) (pe_callB (cb_lenK K rfl) (by rfl) T.b_len PySem.boot_len (pa_cons (pv 2) pa_nil)) (nomark _))))) pss_nil)
      (pss_one (ps_ret pe_bl))))), ?_⟩
    try dsimp only [cxOf]
    have hL := R.at_
    cases r with
    | claim n d c a b w =>
      have h1 : H q1 = some (.tup [.int n, .str "claim", .int d, .int c, .int a, .int b, .int w]) := hr1
      obtain ⟨r0, rt, rfl⟩ : ∃ r0 rt, rs = r0 :: rt := by
        cases rs with
        | nil => exact absurd rfl ne
        | cons l lt => exact ⟨l, lt, rfl⟩
      obtain ⟨l, lt, rfl⟩ : ∃ l lt, ls = l :: lt := by
        have := R.len
        cases ls with
        | nil => simp at this
        | cons l lt => exact ⟨l, lt, rfl⟩
      obtain ⟨cs, c1, c2⟩ := R.ro 0 l r0 rfl rfl
      walk_at "rd"
      have ea : atI (List.map V.ref (l :: lt)) 0 = some (V.ref l) := by
        have := atI_refs (as := l :: lt) (i := 0) (by omega) (by simp only [List.length_cons]; omega)
        exact this
      refine r_ixL (.of hL) ea ?_
      walk_at "rd"
      refine ⟨l, cs, r0, c, rfl, .of c1, c2, fun x hx => f4 _ List.mem_cons_self x hx, fun v hv => ?_⟩
      refine r_c ⟨rfl, ?_⟩
      rw [hv.non, Bool.not_not]
      exact q _ (Same.refl H)
    | rule n d t bk ws =>
      obtain ⟨q2, h1, as, h2, hT2, h22, hn2⟩ := hr1
      walk_at "rd"
      refine r_itup (r_op (r_var rfl (r_c (r_ixT (.of h1) rfl ⟨q2, rfl, ⟨_, .of h2⟩, fun D nD => ?_⟩))))
      refine comp_pairs (fun x => .int (x.getD 0 0)) nD (.of h2) hT2 h22 hn2 (fun x H' q' hx sm k => r_var rfl (k _ (Same.refl _))) fun H' sm hD => ?_
      have hD : H' D = some (.lst (List.map V.int (nmsR ws))) := by rw [hD]; unfold nmsR; rw [List.map_map]; rfl
      refine r_name ?_
      dsimp only
      refine r_ret (r_op (r_lensetI (r_cons (r_var rfl (r_nil ?_)))))
      refine ⟨D, nmsR ws, rfl, .of hD, by unfold nmsR; rw [List.length_map]; exact hn2, ?_⟩
      refine r_cb (r_cons (r_var rfl (r_nil (r_lenL (.of hD) (r_I0 ?_)))))
      rw [List.length_map]
      exact q _ sm
    | carry n d c =>
      have h1 : H q1 = some (.tup [.int n, .str "carry", .int d, .int c]) := hr1
      have len := R.len
      have j1 : rs.length - 1 < rs.length := by have := List.length_pos_iff.mpr ne; omega
      have i1 : ls.length - 1 < ls.length := by omega
      obtain ⟨cs, c1, c2⟩ := R.ro (ls.length - 1) ls[ls.length - 1] rs[rs.length - 1] (by simp [i1]) (by rw [len]; simp [j1])
      have e1 : ls.getD (ls.length - 1) 0 = ls[ls.length - 1] := by simp [List.getD, i1]
      have f1 : rs.getD (rs.length - 1) [] = rs[rs.length - 1] := by simp [List.getD, j1]
      have ne' : ls ≠ [] := fun z => by rw [z] at i1; cases i1
      walk_at "rd"
      refine r_ixL (.of hL) (atI_refs_last ne') ?_
      rw [e1]
      walk_at "rd"
      refine ⟨_, cs, _, c, rfl, .of c1, c2, fun x hx => f4 _ (List.getElem_mem j1) x hx, fun v hv => ?_⟩
      refine r_c ⟨rfl, ?_⟩
      rw [hv.non, Bool.not_not, ← f1]
      exact q _ (Same.refl H)
    | step n d t sd k m l =>
      have h1 : H q1 = some (.tup [.int n, .str "step", .int d, .int t, .int sd, .str k, .int m, .str l]) := hr1
      walk_at "rd"
      exact q _ (Same.refl H)
    | offer n d t c a =>
      have h1 : H q1 = some (.tup [.int n, .str "offer", .int d, .int t, .int c, .int a]) := hr1
      walk_at "rd"
      exact q _ (Same.refl H)
    | pay n d sd pp co =>
      have h1 : H q1 = some (.tup [.int n, .str "pay", .int d, .int sd, .int pp, .int co]) := hr1
      walk_at "rd"
      exact q _ (Same.refl H)
    | dun n d sd =>
      have h1 : H q1 = some (.tup [.int n, .str "dun", .int d, .int sd]) := hr1
      walk_at "rd"
      exact q _ (Same.refl H)

theorem scNamesTooMuch : FnScope ["rounds", "row"] ["rounds", "row"] (defScope sNamesTooMuch) := ⟨rfl, rfl, rfl, by decide +kernel, rfl, by decide +kernel, by decide +kernel⟩
theorem ok_NamesTooMuch {f : Addr} {fd : FuncData} {dV : Value} (F : FunD K "names_too_much" "names_too_much" sNamesTooMuch f fd dV) (T : Txt K mg cB c_CostError c_Full c_NoClaim c_RoundOver c_TooLate c_Twice c_TooMuch) (GWorthIn : Fn P w K mg base "worth_in" 2 ["rounds", "row", "claim"] (spWorth)) : FnOk P w K mg base CX0 3 f fd ["rounds", "row"] (spMuch) := by
  refine F.ok scNamesTooMuch (fun vs H Q E h => ?_) (fun cdv A outer s H vs Q E hr h => ?_)
  · obtain ⟨p, q1, ls, rs, r, rfl, R, f4, hr1, hlk, q⟩ := h
    rfl
  · obtain ⟨p, q1, ls, rs, r, rfl, R, f4, hr1, hlk, q⟩ := h
    refine ⟨_, (pss_cons (ps_if (pt_cmpR op_eq (pe_ix (ix_tupK K rfl) (pv 1) (pe_globI (by rfl) T.c_WORD) (fun _ _ => rfl)) pe_str (nomark _)) (pss_one (ps_ret (pe_cmpR op_gt (pe_ix (ix_tupK K rfl) (pv 1) (pe_globI (by rfl) T.c_OFFER_AMOUNT) (fun _ _ => rfl)) (pe_fn GWorthIn hr (by decide) (by rfl) (pa_cons (pv 0) (pa_cons (pv 1) (pa_cons (pe_ix (ix_tupK K rfl) (pv 1) (pe_globI (by rfl) T.c_OFFER_CLAIM) (fun _ _ => rfl)) pa_nil)))) (nomark _)))) pss_nil)
      (pss_cons (ps_if (pt_cmpR op_eq (pe_ix (ix_tupK K rfl) (pv 1) (pe_globI (by rfl) T.c_WORD) (fun _ _ => rfl)) pe_str (nomark _)) (pss_one (ps_ret (pe_callB (call_any rfl) (by rfl) T.b_any PyProof.Rows.boot_any (pa_cons (pe_comp ["rounds", "row"] (defScope sNamesTooMuch) 2 [0, 1] ["claim", "won", "rounds", "row"] rfl (by decide +kernel) (pi_tup (pe_ix (ix_tupK K rfl) (pv 1) (pe_globI (by rfl) T.c_RULE_WINS) (fun _ _ => rfl))) (fun _ _ _ _ => (pg_tupK (n := 2) K rfl rfl (pgs_cons (pg_name (i := 0) (show List.Nodup (["claim", "won", "rounds", "row"] : List Str) by decide +kernel) rfl (Or.inl rfl)) (pgs_cons (pg_name (i := 1) (show List.Nodup (["claim", "won", "rounds", "row"] : List Str) by decide +kernel) rfl (Or.inl rfl)) pgs_nil)))) (fun _ _ _ _ => pts_nil) (fun _ _ _ _ => (pe_cmpR op_gt (pv 1) (pe_fn GWorthIn hr (by decide) (by rfl) (pa_cons (pv 2) (pa_cons (pv 3) (pa_cons (pv 0) pa_nil)))) (nomark _))) (by decide +kernel) (by decide +kernel) (by decide +kernel)) pa_nil)))) pss_nil)
      (pss_one (ps_ret pe_bl)))), ?_⟩
    try dsimp only [cxOf]
    cases r with
    | claim n d c a b w =>
      have h1 : H q1 = some (.tup [.int n, .str "claim", .int d, .int c, .int a, .int b, .int w]) := hr1
      walk_at "rd"
      exact q _ (Same.refl H)
    | rule n d t bk ws =>
      obtain ⟨q2, h1, as, h2, hT2, h22, hn2⟩ := hr1
      have hl2 : ((claimsR rs t).isEmpty || ws.any fun x => !((claimsR rs t).any fun y => y.getD 0 0 == x.getD 0 0)) = false := hlk
      rw [Bool.or_eq_false_iff] at hl2
      walk_at "rd"
      refine r_itup (r_op (r_var rfl (r_c (r_ixT (.of h1) rfl ⟨q2, rfl, ⟨_, .of h2⟩, fun D nD => ?_⟩))))
      refine comp_pairs (fun x => .bl (decide (x.getD 1 0 > worthR rs t (x.getD 0 0)))) nD (.of h2) hT2 h22 hn2 ?_ ?_
      · intro x H' q' hx sm k
        refine r_op (r_var rfl (r_callX (r_cons (r_var rfl (r_cons (r_var rfl (r_cons (r_var rfl (r_nil ?_)))))))))
        refine ⟨p, q1, ls, rs, x.getD 0 0, _, _, _, t, _, rfl, R.same sm, f4, sm _ _ h1, ?_, fun H1 s1 => ?_⟩
        · have := List.any_eq_false.mp hl2.2 x hx
          simpa using this
        refine r_I0 ?_
        exact k _ s1
      · intro H' sm hD
        refine r_nil (r_any (bs := ws.map fun x => decide (x.getD 1 0 > worthR rs t (x.getD 0 0))) (.of (by rw [hD, List.map_map]; rfl)) ?_)
        rw [List.any_map]
        exact q _ sm
    | carry n d c =>
      have h1 : H q1 = some (.tup [.int n, .str "carry", .int d, .int c]) := hr1
      walk_at "rd"
      exact q _ (Same.refl H)
    | step n d t sd k m l =>
      have h1 : H q1 = some (.tup [.int n, .str "step", .int d, .int t, .int sd, .str k, .int m, .str l]) := hr1
      walk_at "rd"
      exact q _ (Same.refl H)
    | offer n d t c a =>
      have h1 : H q1 = some (.tup [.int n, .str "offer", .int d, .int t, .int c, .int a]) := hr1
      walk_at "rd"
      refine ⟨p, q1, ls, rs, c, _, _, _, t, _, rfl, R, f4, h1, ?_, fun H1 s1 => ?_⟩
      · have : (!((claimsR rs t).any fun x => x.getD 0 0 == c)) = false := hlk
        simpa using this
      refine r_I0 ?_
      exact q _ s1
    | pay n d sd pp co =>
      have h1 : H q1 = some (.tup [.int n, .str "pay", .int d, .int sd, .int pp, .int co]) := hr1
      walk_at "rd"
      exact q _ (Same.refl H)
    | dun n d sd =>
      have h1 : H q1 = some (.tup [.int n, .str "dun", .int d, .int sd]) := hr1
      walk_at "rd"
      exact q _ (Same.refl H)

theorem scWorthIn : FnScope ["rounds", "row", "claim"] ["rounds", "row", "claim"] (defScope sWorthIn) := ⟨rfl, rfl, rfl, by decide +kernel, rfl, by decide +kernel, by decide +kernel⟩
theorem ok_WorthIn {f : Addr} {fd : FuncData} {dV : Value} (F : FunD K "worth_in" "worth_in" sWorthIn f fd dV) (T : Txt K mg cB c_CostError c_Full c_NoClaim c_RoundOver c_TooLate c_Twice c_TooMuch) (GClaimsOf : Fn P w K mg base "claims_of" 1 ["rounds", "turn"] (spClaims)) (GFindClaim : Fn P w K mg base "find_claim" 1 ["claims", "number"] (spFind K)) : FnOk P w K mg base CX0 2 f fd ["rounds", "row", "claim"] (spWorth) := by
  refine F.ok scWorthIn (fun vs H Q E h => ?_) (fun cdv A outer s H vs Q E hr h => ?_)
  · obtain ⟨p, q1, ls, rs, c, y0, y1, y2, t, ys, rfl, R, f4, h1, ha, q⟩ := h
    rfl
  · obtain ⟨p, q1, ls, rs, c, y0, y1, y2, t, ys, rfl, R, f4, h1, ha, q⟩ := h
    refine ⟨_, (pss_one (ps_ret (pe_ix (ix_tupK K rfl) (pe_fn GFindClaim hr (by decide) (by rfl) (pa_cons (pe_fn GClaimsOf hr (by decide) (by rfl) (pa_cons (pv 0) (pa_cons (pe_ix (ix_tupK K rfl) (pv 1) (pe_globI (by rfl) T.c_TURN) (fun _ _ => rfl)) pa_nil))) (pa_cons (pv 2) pa_nil))) (pe_globI (by rfl) T.c_WORTH) (fun _ _ => rfl)))), ?_⟩
    try dsimp only [cxOf]
    refine r_ret (r_op (r_callX (r_cons (r_callX (r_cons (r_var rfl (r_cons (r_op (r_var rfl (r_c ?_))))))))))
    refine r_ixT (v := .int t) (.of h1) (atI_nat (j := 3) rfl) (r_nil ?_)
    refine ⟨p, ls, rs, t, rfl, R, fun l cs nl hT => ?_⟩
    have s1 : Same H (upd H l (.lst (List.map V.ref cs))) := Same.new nl
    refine r_cons (r_var rfl (r_nil ?_))
    refine ⟨l, cs, _, c, rfl, .of upd_same, hT.same s1, f4.claims, fun v hv => ?_⟩
    obtain ⟨x, bb, ex, rfl, hb⟩ := hv.found ha
    have x4 := f4.claims x (List.mem_of_find?_eq_some ex)
    obtain ⟨x0, x1, x2, x3, rfl⟩ : ∃ x0 x1 x2 x3, x = [x0, x1, x2, x3] := by
      match x, x4 with
      | [x0, x1, x2, x3], _ => exact ⟨x0, x1, x2, x3, rfl⟩
    refine r_c (r_ixT (v := .int x3) (.of hb) (atI_nat (j := 3) rfl) ?_)
    have ew : worthR rs t c = x3 := by
      unfold worthR
      rw [ex]
      rfl
    rw [← ew]
    exact q _ s1

theorem scLinesOf : FnScope ["many", "court", "speakers", "rows", "day", "told", "costs", "rounds", "wins", "offers", "lines", "row"] ["many", "court", "speakers", "rows", "day"] (defScope sLinesOf) := ⟨rfl, rfl, rfl, by decide +kernel, rfl, by decide +kernel, by decide +kernel⟩
theorem ok_LinesOf {f : Addr} {fd : FuncData} {dV : Value} (F : FunD K "lines_of" "lines_of" sLinesOf f fd dV) (T : Txt K mg cB c_CostError c_Full c_NoClaim c_RoundOver c_TooLate c_Twice c_TooMuch) (GCostsOf : Fn P w K mg base "costs_of" 3 ["rows", "court", "speakers"] (spCostsOf K)) (GLineOf : Fn P w K mg base "line_of" 2 ["many", "step", "cost", "rounds", "wins", "offers"] (spLineOf K)) (GOffersOf : Fn P w K mg base "offers_of" 1 ["rows"] (spOffersOf K)) (GOverOf : Fn P w K mg base "over_of" 1 ["rounds"] (spOver K)) (GRoundsOf : Fn P w K mg base "rounds_of" 3 ["rows"] (spRounds K)) (GRowsUntil : Fn P w K mg base "rows_until" 1 ["rows", "day"] (spUntil K)) : FnOk P w K mg base CX0 4 f fd ["many", "court", "speakers", "rows", "day"] (spLinesOf K) := by
  refine F.ok scLinesOf (fun vs H Q E h => ?_) (fun cdv A outer s H vs Q E hr h => ?_)
  · obtain ⟨many, a, rows0, d, v1, v2, rfl, hm, hR0, hn0, hW0, hN0, q⟩ := h
    rfl
  · obtain ⟨many, a, rows0, d, v1, v2, rfl, hm, hR0, hn0, hW0, hN0, q⟩ := h
    refine ⟨_, (pss_cons (ps_set (i := 5) scLinesOf.nd rfl (Or.inr rfl) (pe_fn GRowsUntil hr (by decide) (by rfl) (pa_cons (pv 3) (pa_cons (pv 4) pa_nil))))
      (pss_cons (ps_set (i := 6) scLinesOf.nd rfl (Or.inl rfl) (pe_fn GCostsOf hr (by decide) (by rfl) (pa_cons (pv 5) (pa_cons (pv 1) (pa_cons (pv 2) pa_nil)))))
      (pss_cons (ps_set (i := 7) scLinesOf.nd rfl (Or.inr rfl) (pe_fn GRoundsOf hr (by decide) (by rfl) (pa_cons (pv 5) pa_nil)))
      (pss_cons (ps_comp ["many", "court", "speakers", "rows", "day", "told", "costs", "rounds", "wins", "offers", "lines", "row"] (defScope sLinesOf) 1 [5, 7] ["turn", "told", "rounds"] (i := 8) scLinesOf.nd rfl rfl (by decide +kernel) (pi_range1 (by rfl) T.b_range (pa_cons (pe_fn GOverOf hr (by decide) (by rfl) (pa_cons (pv 7) pa_nil)) pa_nil)) (fun _ _ _ _ => (pg_name (i := 0) (show List.Nodup (["turn", "told", "rounds"] : List Str) by decide +kernel) rfl (Or.inl rfl))) (fun _ _ _ _ => pts_nil) (fun _ _ _ _ => pe_never) (by decide +kernel) (by decide +kernel) (by decide +kernel))
      (pss_cons (ps_set (i := 9) scLinesOf.nd rfl (Or.inl rfl) (pe_fn GOffersOf hr (by decide) (by rfl) (pa_cons (pv 5) pa_nil)))
      (pss_cons (ps_set (i := 10) scLinesOf.nd rfl (Or.inl rfl) (pe_lst pa_nil))
      (pss_cons (ps_for PassesOwn.never rfl (pi_list (pv 5)) (pg_name (i := 11) scLinesOf.nd rfl (Or.inl rfl)) (pss_one (ps_if (pt_cmpR op_eq (pe_ix (ix_tupK K rfl) (pv 11) (pe_globI (by rfl) T.c_WORD) (fun _ _ => rfl)) pe_str (nomark _)) (pss_one (ps_expr (pe_bm PySem.F.plainAttrs_list PySem.F.slot_list_append PySem.F.type_list_append mt_append (pv 10) (pa_cons (pe_fn GLineOf hr (by decide) (by rfl) (pa_cons (pv 0) (pa_cons (pv 11) (pa_cons (pe_dget (hu1 hr) (pv 6) (pe_ix (ix_tupK K rfl) (pv 11) (pe_globI (by rfl) T.c_NUMBER) (fun _ _ => rfl)) (fun _ _ => rfl)) (pa_cons (pv 7) (pa_cons (pv 8) (pa_cons (pv 9) pa_nil))))))) pa_nil)))) pss_nil)))
      (pss_one (ps_ret (pv 10)))))))))), ?_⟩
    try dsimp only [cxOf]
    refine r_seq (r_asg (r_callX (r_cons (r_var rfl (r_cons (r_var rfl (r_nil ?_)))))))
    refine ⟨a, rows0, d, rfl, hR0, hn0, fun l H1 s1 nl hl1 => r_name ?_⟩
    dsimp only
    have hn : (tillR rows0 d).length ≤ 300 := Nat.le_trans till_le hn0
    have hW : ∀ r ∈ tillR rows0 d, WitR r := fun r hr => hW0 r (till_mem hr)
    have hN := till_num (d := d) hN0
    generalize tillR rows0 d = rows at *
    refine r_seq (r_asg (r_callX (r_cons (r_var rfl (r_cons (r_var rfl (r_cons (r_var rfl (r_nil ?_)))))))))
    refine ⟨l, rows, _, _, rfl, hl1, hn, hW, hN, fun dc H2 s2 _ hdc => r_name ?_⟩
    dsimp only
    have s12 := s1.trans s2
    obtain ⟨ps, hS, hR⟩ := hl1.same s2
    refine r_seq (r_asg (r_callX (r_cons (r_var rfl (r_nil ?_)))))
    refine ⟨l, ps, rows, rfl, hS, hR, wit_okRows hW, hn, fun rp ls H3 s3 nrp R3 => r_name ?_⟩
    dsimp only
    have hRl := R3.len
    rw [wit_rounds hW] at hRl
    refine r_seq (r_asg (r_comp (r_rng1 (r_cons (r_callX (r_cons (r_var rfl (r_nil ?_))))))))
    refine ⟨rp, _, rfl, .of R3.at_, r_nil ⟨0, by rw [List.length_map, hRl]; rfl, by decide, by decide, fun D nD => ?_⟩⟩
    refine comp_rangeF (n := 0) (fun _ => true) (fun _ => V.non) nD (by decide) (fun i _ _ hi => absurd hi (by omega)) (fun i _ _ hi => absurd hi (by omega)) fun H4 s4 hD => r_name ?_
    dsimp only
    have s34 := s3.trans s4
    refine r_seq (r_asg (r_callX (r_cons (r_var rfl (r_nil ?_)))))
    refine ⟨l, rows, rfl, ⟨ps, s34.seq hS, hR.mono s34.tupS⟩, hW, fun od H5 s5 => r_name ?_⟩
    dsimp only
    refine r_seq (r_asg (r_lst (r_nil ⟨by show 0 ≤ sizeLine; decide, fun lp nlp => r_name ?_⟩)))
    dsimp only
    have s6' := Same.new (o := .lst []) nlp
    have s26 := (s34.trans s5).trans s6'
    have hlp := upd_at (o := .lst []) nlp
    have hD6 := s6' _ _ (s5 _ _ hD)
    obtain ⟨kvs, hk1, hk2⟩ := hdc
    have nlp0 : H2 lp = none := (s34.trans s5).nil nlp
    generalize upd H5 lp (.lst []) = H6 at s26 hlp hD6 ⊢
    refine r_seq (r_for (r_ilist (r_var rfl ⟨_, rfl, ⟨_, s26.seq hS⟩, ?_⟩)))
    have lps := hR.1
    have nD0 : H2 D = none := s3.nil nD
    refine for_list (xs := List.map V.ref ps) (fun i σ H7 => (∃ v, σ = [some (.int ((many : Nat) : Int)), some v1, some v2, some (.ref a), some (.int d), some (.ref l), some (.ref dc), some (.ref rp), some (.ref D), some (.ref od), some (.ref lp), v]) ∧ Same H2 H7 ∧ H7 D = some (.lst []) ∧ ∃ us, H7 lp = some (.lst (List.map V.ref us)) ∧ AllAt LnAt H7 us (linesW many (rows.take i))) ?_ ?_ ?_ ?_
    · exact ⟨⟨_, rfl⟩, s26, hD6, [], hlp, .nil⟩
    · rintro i σ H7 hi ⟨_, s7, _⟩
      exact s7.seq hS
    · rintro i x σ H7 hx ⟨⟨v, rfl⟩, s7, hD7, us, hlp7, hA⟩
      obtain ⟨b, rfl, e1, hir, hb0⟩ := hR.at hx
      have hb := hb0.mono s7.tupS
      obtain ⟨xs0, hh0⟩ := hb.head
      have hwi := hW _ (List.getElem_mem hir)
      have tk : rows.take (i + 1) = rows.take i ++ [rows[i]] := List.take_succ_eq_append_getElem hir
      refine r_name ?_
      dsimp only
      refine r_ifS (r_test (r_op (r_op (r_var rfl (r_c (r_ixT (v := .str rows[i].word) (.of hh0) (atI_nat (j := 1) rfl) (r_c (r_EqS ⟨_, rfl, ?_⟩))))))))
      rw [isStep_word]
      refine ite2 (fun hs => ?_) (fun hs => ?_)
      · refine r_drop (r_bm (r_var rfl (r_tyL (.of hlp7) (r_cons (r_callX (r_cons (r_var rfl (r_cons (r_var rfl ?_)))))))))
        refine r_cons (r_var rfl (r_op (r_var rfl (r_c (r_ixT (v := .int rows[i].num) (.of hh0) (atI_nat (j := 0) rfl) ?_)))))
        refine ⟨dc, .int (costW rows[i]), rfl, ?_, ?_⟩
        · have := DGet.k (k := Sum.inl rows[i].num) (s7 _ _ hk1)
          rw [hk2 _ (List.getElem_mem hir) hs] at this
          exact this
        refine r_cons (r_var rfl (r_cons (r_var rfl (r_cons (r_var rfl (r_nil ?_))))))
        refine ⟨many, b, rows[i], _, _, D, _, rfl, hm, hb, hs, hwi, .of hD7, fun u H8 s8 hu => r_nil ?_⟩
        have la := hA.1
        have lsz : (List.map V.ref us).length ≤ 1000 := by
          have h1 : (linesW many (rows.take i)).length ≤ (rows.take i).length := by unfold linesW; rw [List.length_map]; exact List.length_filter_le _ _
          have h2 : (rows.take i).length ≤ rows.length := by rw [List.length_take]; omega
          rw [List.length_map]
          omega
        refine r_app (s8 _ _ hlp7) (small1000 lsz) ?_
        have lpD : D ≠ lp := fun z => by rw [← z, hD6] at hlp; rw [← z] at nlp; have := s5 _ _ hD; rw [nlp] at this; cases this
        refine ⟨⟨_, rfl⟩, (s7.trans s8).setL nlp0, by rw [upd_ne lpD]; exact s8 _ _ hD7, us ++ [u], by rw [upd_same, List.map_append]; rfl, ?_⟩
        have : linesW many (rows.take (i + 1)) = linesW many (rows.take i) ++ [lnOne many rows[i] "open" (costW rows[i])] := by
          unfold linesW
          rw [tk, List.filter_append, List.map_append, List.filter_cons, if_pos hs]
          rfl
        rw [this]
        exact ((hA.mono fun _ _ e => e.tupS s8.tupS).push hu).mono fun _ _ e => e.tupS (TupS.lst (s8 _ _ hlp7))
      · have : linesW many (rows.take (i + 1)) = linesW many (rows.take i) := by
          unfold linesW
          rw [tk, List.filter_append, List.filter_cons, if_neg hs]
          simp
        refine r_next ⟨⟨_, rfl⟩, s7, hD7, us, hlp7, ?_⟩
        rw [this]
        exact hA
    · rintro σ H7 ⟨⟨v, rfl⟩, s7, hD7, us, hlp7, hA⟩
      refine r_ret (r_var rfl ?_)
      rw [List.length_map, lps, List.take_length] at hA
      exact q lp H7 (s12.trans s7) ⟨us, hlp7, hA⟩

theorem scLineOf : FnScope ["many", "step", "cost", "rounds", "wins", "offers", "turn", "left", "reason"] ["many", "step", "cost", "rounds", "wins", "offers"] (defScope sLineOf) := ⟨rfl, rfl, rfl, by decide +kernel, rfl, by decide +kernel, by decide +kernel⟩
theorem ok_LineOf {f : Addr} {fd : FuncData} {dV : Value} (F : FunD K "line_of" "line_of" sLineOf f fd dV) (T : Txt K mg cB c_CostError c_Full c_NoClaim c_RoundOver c_TooLate c_Twice c_TooMuch) (GLineOfOne : Fn P w K mg base "line_of_one" 1 ["many", "step", "cost", "reason"] (spLineOne)) : FnOk P w K mg base CX0 2 f fd ["many", "step", "cost", "rounds", "wins", "offers"] (spLineOf K) := by
  refine F.ok scLineOf (fun vs H Q E h => ?_) (fun cdv A outer s H vs Q E hr h => ?_)
  · obtain ⟨many, q1, r, c, v1, w1, v2, rfl, hm, hr1, hst, hwi, hw1, q⟩ := h
    rfl
  · obtain ⟨many, q1, r, c, v1, w1, v2, rfl, hm, hr1, hst, hwi, hw1, q⟩ := h
    refine ⟨_, (pss_cons (ps_set (i := 6) scLineOf.nd rfl (Or.inl rfl) (pe_ix (ix_tupK K rfl) (pv 1) (pe_globI (by rfl) T.c_TURN) (fun _ _ => rfl)))
      (pss_cons (ps_if (pt_cmpR op_ne (pe_ix (ix_tupK K rfl) (pv 1) (pe_globI (by rfl) T.c_STEP_LAID) (fun _ _ => rfl)) pe_str (nomark _)) (pss_one (ps_ret (pe_fn GLineOfOne hr (by decide) (by rfl) (pa_cons (pv 0) (pa_cons (pv 1) (pa_cons (pv 2) (pa_cons (pe_ix (ix_tupK K rfl) (pv 1) (pe_globI (by rfl) T.c_STEP_LAID) (fun _ _ => rfl)) pa_nil))))))) pss_nil)
      (pss_cons (ps_if (pt_cmpR op_ge (pv 6) (pe_callB (cb_lenK K rfl) (by rfl) T.b_len PySem.boot_len (pa_cons (pv 4) pa_nil)) (nomark _)) (pss_one (ps_ret (pe_fn GLineOfOne hr (by decide) (by rfl) (pa_cons (pv 0) (pa_cons (pv 1) (pa_cons (pv 2) (pa_cons pe_str pa_nil))))))) pss_nil)
      (pss_cons ps_never
      (pss_cons ps_never
      (pss_one ps_never)))))), ?_⟩
    try dsimp only [cxOf]
    cases r with
    | step n dd t sd kk m l =>
      obtain ⟨rfl, rfl, t0⟩ := hwi
      have h1 : H q1 = some (.tup [.int n, .str "step", .int dd, .int t, .int sd, .str "witness", .int m, .str "none"]) := hr1
      refine r_seq (r_asg (r_op (r_var rfl (r_c (r_ixT (.of h1) rfl (r_name ?_))))))
      dsimp only
      refine r_seq (r_ifS (r_test (r_op (r_op (r_var rfl (r_c (r_ixT (.of h1) rfl (r_c (r_NeS ⟨_, rfl, iteN (by decide +kernel) (r_next ?_)⟩)))))))))
      dsimp only
      refine r_seq (r_ifS (r_test (r_op (r_var rfl (r_cb (r_cons (r_var rfl (r_nil (r_lenL hw1 (r_I0 ⟨_, rfl, iteP (decide_eq_true t0) ?_⟩))))))))))
      refine r_ret (r_callX (r_cons (r_var rfl (r_cons (r_var rfl (r_cons (r_var rfl (r_cons (r_c (r_nil ?_))))))))))
      exact ⟨many, q1, _, c, _, rfl, hm, hr1, rfl, q⟩
    | _ => cases hst

theorem scCostsOf : FnScope ["rows", "court", "speakers", "rounds", "costs", "row", "worth"] ["rows", "court", "speakers"] (defScope sCostsOf) := ⟨rfl, rfl, rfl, by decide +kernel, rfl, by decide +kernel, by decide +kernel⟩
theorem ok_CostsOf {f : Addr} {fd : FuncData} {dV : Value} (F : FunD K "costs_of" "costs_of" sCostsOf f fd dV) (T : Txt K mg cB c_CostError c_Full c_NoClaim c_RoundOver c_TooLate c_Twice c_TooMuch) (GClaimsOf : Fn P w K mg base "claims_of" 1 ["rounds", "turn"] (spClaims)) (GCostOf : Fn P w K mg base "cost_of" 1 ["kind", "many", "worth", "court", "speakers"] (spCostOf)) (GPutRow : Fn P w K mg base "put_row" 2 ["rounds", "row"] (spPut)) (GWorthOf : Fn P w K mg base "worth_of" 1 ["claims"] (spWorthOf K)) : FnOk P w K mg base CX0 3 f fd ["rows", "court", "speakers"] (spCostsOf K) := by
  refine F.ok scCostsOf (fun vs H Q E h => ?_) (fun cdv A outer s H vs Q E hr h => ?_)
  · obtain ⟨a, rows, v1, v2, rfl, hR0, hn, hW, hN, q⟩ := h
    rfl
  · obtain ⟨a, rows, v1, v2, rfl, hR0, hn, hW, hN, q⟩ := h
    refine ⟨_, (pss_cons (ps_set (i := 3) scCostsOf.nd rfl (Or.inl rfl) (pe_lst (pa_cons (pe_lst pa_nil) pa_nil)))
      (pss_cons (ps_set (i := 4) scCostsOf.nd rfl (Or.inl rfl) pe_dnewK)
      (pss_cons (ps_for PassesOwn.never rfl (pi_list (pv 0)) (pg_name (i := 5) scCostsOf.nd rfl (Or.inl rfl)) (pss_cons (ps_if (pt_cmpR op_eq (pe_ix (ix_tupK K rfl) (pv 5) (pe_globI (by rfl) T.c_WORD) (fun _ _ => rfl)) pe_str (nomark _)) (pss_cons (ps_set (i := 6) scCostsOf.nd rfl (Or.inl rfl) (pe_fn GWorthOf hr (by decide) (by rfl) (pa_cons (pe_fn GClaimsOf hr (by decide) (by rfl) (pa_cons (pv 3) (pa_cons (pe_ix (ix_tupK K rfl) (pv 5) (pe_globI (by rfl) T.c_TURN) (fun _ _ => rfl)) pa_nil))) pa_nil)))
      (pss_one (ps_dput (hu1 hr) (pv 4) (pe_ix (ix_tupK K rfl) (pv 5) (pe_globI (by rfl) T.c_NUMBER) (fun _ _ => rfl)) (pe_fn GCostOf hr (by decide) (by rfl) (pa_cons (pe_ix (ix_tupK K rfl) (pv 5) (pe_globI (by rfl) T.c_STEP_KIND) (fun _ _ => rfl)) (pa_cons (pe_ix (ix_tupK K rfl) (pv 5) (pe_globI (by rfl) T.c_STEP_MANY) (fun _ _ => rfl)) (pa_cons (pv 6) (pa_cons (pv 1) (pa_cons (pv 2) pa_nil)))))) rfl))) pss_nil)
      (pss_one (ps_expr (pe_fn GPutRow hr (by decide) (by rfl) (pa_cons (pv 3) (pa_cons (pv 5) pa_nil)))))))
      (pss_one (ps_ret (pv 4)))))), ?_⟩
    try dsimp only [cxOf]
    obtain ⟨ps, hS, hR⟩ := hR0
    refine r_seq (r_asg (r_lst (r_cons (r_lst (r_nil ⟨by show 0 ≤ sizeLine; decide, fun e ne => r_nil ⟨by show 1 ≤ sizeLine; decide, fun p np => r_name ?_⟩⟩)))))
    dsimp only
    have np0 : H p = none := (Same.new (o := .lst []) ne).nil np
    have pe : p ≠ e := fun z => by rw [z, upd_same] at np; cases np
    have s0 : Same H (upd (upd H e (.lst [])) p (.lst [.ref e])) := (Same.new ne).trans (Same.new np)
    have R0 : RdsAt (upd (upd H e (.lst [])) p (.lst [.ref e])) p [e] [[]] := ⟨upd_same, rfl, by simp, by simpa using pe, fun i l r e1 e2 => by
      cases i with
      | zero => cases e1; cases e2; exact ⟨[], by rw [upd_ne (Ne.symm pe), upd_same]; rfl, TabIs.nil⟩
      | succ i => simp at e1⟩
    refine r_seq (r_asg (fun d nd => r_name ?_))
    dsimp only
    have s1 := s0.trans (Same.new (o := .dK []) nd)
    have R1 := R0.same (Same.new (o := .dK []) nd)
    have nd0 := s0.nil nd
    have hd := upd_at (o := .dK []) nd
    generalize upd (upd (upd H e (.lst [])) p (.lst [.ref e])) d (.dK []) = H1 at s1 R1 hd ⊢
    refine r_seq (r_for (r_ilist (r_var rfl ⟨_, rfl, ⟨_, s1.seq hS⟩, ?_⟩)))
    have lps := hR.1
    refine for_list (xs := List.map V.ref ps) (fun i σ H2 => (∃ v w, σ = [some (.ref a), some v1, some v2, some (.ref p), some (.ref d), v, w]) ∧ Same H H2 ∧ (∃ kvs, H2 d = some (.dK kvs) ∧ kvs.length ≤ i ∧ ∀ r ∈ rows.take i, isStep r = true → valV kvs (.inl r.num) = some (.int (costW r))) ∧ ∃ ls, RdsAt H2 p ls (roundsR (rows.take i)) ∧ ∀ l ∈ ls, H l = none) ?_ ?_ ?_ ?_
    · exact ⟨⟨_, _, rfl⟩, s1, ⟨[], hd, Nat.le_refl _, fun r hr => by simp at hr⟩, [e], R1, fun l hl => by rw [List.mem_singleton.mp hl]; exact ne⟩
    · rintro i σ H2 hi ⟨_, s2, _⟩
      exact s2.seq hS
    · rintro i x σ H2 hx ⟨⟨v, w, rfl⟩, s2, ⟨kvs, hd2, lk, hk⟩, ls, R, hl⟩
      obtain ⟨b, rfl, e1, hir, hb0⟩ := hR.at hx
      have hb := hb0.mono s2.tupS
      obtain ⟨g1, g2, g3⟩ := roundsR_take rows i (by omega)
      have f4 : F4 (roundsR (rows.take i)) := fun x hx y hy => (g3 x hx).2 y hy
      have hwi := hW _ (List.getElem_mem hir)
      refine r_name ?_
      dsimp only
      obtain ⟨xs0, hh0⟩ := hb.head
      refine r_seq ?_
      refine' joinS (M := fun σ H3 => (∃ v w, σ = [some (.ref a), some v1, some v2, some (.ref p), some (.ref d), some (.ref b), w]) ∧ Same H H3 ∧ (∃ kvs, H3 d = some (.dK kvs) ∧ kvs.length ≤ i + 1 ∧ ∀ r ∈ rows.take (i + 1), isStep r = true → valV kvs (.inl r.num) = some (.int (costW r))) ∧ RdsAt H3 p ls (roundsR (rows.take i))) ?a ?b
      case a =>
        intro k
        refine r_ifS (r_test (r_op (r_op (r_var rfl (r_c (r_ixT (v := .str rows[i].word) (.of hh0) (atI_nat (j := 1) rfl) (r_c (r_EqS ⟨_, rfl, ?_⟩))))))))
        have tk : rows.take (i + 1) = rows.take i ++ [rows[i]] := List.take_succ_eq_append_getElem hir
        cases er : rows[i] with
        | step n dd t sd kk m l =>
          have tk : rows.take (i + 1) = rows.take i ++ [.step n dd t sd kk m l] := by rw [tk, er]
          rw [er] at hb hwi
          obtain ⟨hk1, hk2, _⟩ := hwi
          subst hk1
          have h1 : H2 b = some (.tup [.int n, .str "step", .int dd, .int t, .int sd, .str "witness", .int m, .str l]) := hb
          refine iteP (decide_eq_true rfl) ?_
          refine r_seq (r_asg (r_callX (r_cons (r_callX (r_cons (r_var rfl (r_cons (r_op (r_var rfl (r_c (r_ixT (.of h1) rfl (r_nil ?_))))))))))))
          refine ⟨p, ls, _, t, rfl, R, fun l' cs nl hT => ?_⟩
          have sL := Same.new (o := .lst (List.map V.ref cs)) nl
          refine r_nil ⟨l', cs, _, rfl, .of upd_same, hT.same sL, f4.claims, ?_, fun wm H4 s4 => r_name ?_⟩
          · unfold claimsR
            split
            · by_cases hh : t.toNat < (roundsR (rows.take i)).length
              · have := (g3 _ (List.getElem_mem hh)).1
                rw [List.getD_eq_getElem?_getD, List.getElem?_eq_getElem hh]
                show (roundsR (rows.take i))[t.toNat].length ≤ 1000
                omega
              · rw [List.getD_eq_getElem?_getD, List.getElem?_eq_none (by omega)]
                exact Nat.zero_le _
            · exact Nat.zero_le _
          dsimp only
          have sF := sL.trans s4
          have h1 := sF _ _ h1
          refine r_callX (r_cons (r_op (r_var rfl (r_c (r_ixT (.of h1) rfl (r_cons (r_op (r_var rfl (r_c (r_ixT (.of h1) rfl (r_cons (r_var rfl (r_cons (r_var rfl (r_cons (r_var rfl (r_nil ?_)))))))))))))))))
          refine ⟨m, _, _, _, rfl, ?_⟩
          refine r_var rfl (r_op (r_var rfl (r_c (r_ixT (.of h1) rfl ?_))))
          have hd4 := sF _ _ hd2
          refine ⟨d, _, rfl, DPut.k (k := Sum.inl n) hd4 (small1000 (by omega)), ?_⟩
          refine k _ _ ⟨⟨some (V.ref b), _, rfl⟩, fun x o ex => ?_, ⟨_, upd_same, Nat.le_trans (length_putK _ _ _) (by omega), fun r hr hs => ?_⟩, ?_⟩
          · rw [upd_ne (ne_of_none ex nd0)]
            exact sF _ _ (s2 _ _ ex)
          · rw [valV_put]
            rw [tk] at hr
            rcases List.mem_append.mp hr with hr | hr
            · have hne : r.num ≠ n := fun z => by
                obtain ⟨j, hj, ej⟩ := List.getElem_of_mem hr
                rw [List.length_take] at hj
                rw [List.getElem_take] at ej
                have n1 : (rows.map Rw.num)[j]? = (rows.map Rw.num)[i]? := by
                  rw [List.getElem?_map, List.getElem?_map, List.getElem?_eq_getElem (by omega : j < rows.length), List.getElem?_eq_getElem hir, ej, er]
                  exact congrArg some z
                have := (List.getElem?_inj (by rw [List.length_map]; omega) hN).mp n1
                omega
              rw [if_neg (fun z => hne (Sum.inl.inj z))]
              exact hk r hr hs
            · rw [List.mem_singleton.mp hr]
              exact if_pos rfl
          · exact (R.same sF).dk hd4
        | _ =>
          have tk : ∀ r ∈ rows.take (i + 1), isStep r = true → r ∈ rows.take i := fun r hr hs => by
            rw [tk, er] at hr
            rcases List.mem_append.mp hr with hr | hr
            · exact hr
            · rw [List.mem_singleton.mp hr] at hs; cases hs
          refine iteN (fun z => nomatch word_step.mp (of_decide_eq_true z)) (r_next ?_)
          exact k _ _ ⟨⟨some (V.ref b), _, rfl⟩, s2, ⟨kvs, hd2, by omega, fun r hr hs => hk r (tk r hr hs) hs⟩, R⟩
      case b =>
      rintro σ H3 ⟨⟨v, w, rfl⟩, s3, ⟨kvs, hd3, lk, hk⟩, R3⟩
      dsimp only
      refine r_drop (r_callX (r_cons (r_var rfl (r_cons (r_var rfl (r_nil ?_))))))
      refine ⟨p, b, ls, _, rows[i], rfl, R3, g1, fun x hx => by have := (g3 x hx).1; omega, by omega, f4, hb0.mono s3.tupS, wit_okPut hwi, fun ls' H4 R' kp nl => ?_⟩
      have s4 : Same H H4 := fun x o ex => kp x o (s3 x o ex) (fun z => by rw [z, np0] at ex; cases ex) (fun z => by rw [hl x z] at ex; cases ex)
      have dp : d ≠ p := ne_of hd3 R3.at_ (by intro z; cases z)
      have dls : d ∉ ls := fun z => by
        obtain ⟨j, hj, ej⟩ := List.getElem_of_mem z
        obtain ⟨cs, c1, _⟩ := R3.ro j d ((roundsR (rows.take i))[j]'(by rw [← R3.len]; exact hj)) (by rw [List.getElem?_eq_getElem hj, ej]) (by simp)
        rw [hd3] at c1
        cases c1
      refine ⟨⟨_, _, rfl⟩, s4, ⟨kvs, kp _ _ hd3 dp dls, lk, hk⟩, ls', ?_, fun l hl' => ?_⟩
      · rw [List.take_succ_eq_append_getElem hir, roundsR_snoc]
        exact R'
      · rcases nl l hl' with z | z
        · exact hl l z
        · exact s3.nil z
    · rintro σ H2 ⟨⟨v, w, rfl⟩, s2, ⟨kvs, hd2, lk, hk⟩, ls, R, hl⟩
      refine r_ret (r_var rfl ?_)
      rw [List.length_map, lps, List.take_length] at hk
      exact q d H2 s2 nd0 ⟨kvs, hd2, hk⟩

theorem scOffersOf : FnScope ["rows", "offers", "row", "place"] ["rows"] (defScope sOffersOf) := ⟨rfl, rfl, rfl, by decide +kernel, rfl, by decide +kernel, by decide +kernel⟩
theorem ok_OffersOf {f : Addr} {fd : FuncData} {dV : Value} (F : FunD K "offers_of" "offers_of" sOffersOf f fd dV) (T : Txt K mg cB c_CostError c_Full c_NoClaim c_RoundOver c_TooLate c_Twice c_TooMuch) : FnOk P w K mg base CX0 1 f fd ["rows"] (spOffersOf K) := by
  refine F.ok scOffersOf (fun vs H Q E h => ?_) (fun cdv A outer s H vs Q E hr h => ?_)
  · obtain ⟨a, rows, rfl, hR0, hW, q⟩ := h
    rfl
  · obtain ⟨a, rows, rfl, hR0, hW, q⟩ := h
    refine ⟨_, (pss_cons (ps_set (i := 1) scOffersOf.nd rfl (Or.inl rfl) pe_dnewT)
      (pss_cons (ps_for PassesOwn.never rfl (pi_list (pv 0)) (pg_name (i := 2) scOffersOf.nd rfl (Or.inl rfl)) (pss_one (ps_if (pt_cmpR op_eq (pe_ix (ix_tupK K rfl) (pv 2) (pe_globI (by rfl) T.c_WORD) (fun _ _ => rfl)) pe_str (nomark _)) (pss_cons ps_never
      (pss_one ps_never)) pss_nil)))
      (pss_one (ps_ret (pv 1))))), ?_⟩
    try dsimp only [cxOf]
    obtain ⟨ps, hS, hR⟩ := hR0
    refine r_seq (r_asg (fun d nd => r_name ?_))
    dsimp only
    have s1 := Same.new (o := .dT []) nd
    refine r_seq (r_for (r_ilist (r_var rfl ⟨_, rfl, ⟨_, s1.seq hS⟩, ?_⟩)))
    refine for_list (xs := List.map V.ref ps) (fun i σ H2 => (∃ v w, σ = [some (.ref a), some (.ref d), v, w]) ∧ Same H H2) ⟨⟨_, _, rfl⟩, s1⟩ (fun i σ H2 _ p => p.2.seq hS) ?_ ?_
    · rintro i x σ H2 hx ⟨⟨v, w, rfl⟩, s2⟩
      obtain ⟨b, rfl, e1, hir, hb0⟩ := hR.at hx
      obtain ⟨xs0, hh0⟩ := (hb0.mono s2.tupS).head
      have hwi := hW _ (List.getElem_mem hir)
      refine r_name ?_
      dsimp only
      refine r_ifS (r_test (r_op (r_op (r_var rfl (r_c (r_ixT (v := .str rows[i].word) (.of hh0) (atI_nat (j := 1) rfl) (r_c (r_EqS ⟨_, rfl, ?_⟩))))))))
      cases er : rows[i] with
      | offer n dd t c a1 => rw [er] at hwi; exact hwi.elim
      | _ => exact iteN (fun z => nomatch word_offer.mp (of_decide_eq_true z)) (r_next ⟨⟨_, _, rfl⟩, s2⟩)
    · rintro σ H2 ⟨⟨v, w, rfl⟩, s2⟩
      exact r_ret (r_var rfl (q d H2 s2))

theorem scLineOfOne : FnScope ["many", "step", "cost", "reason", "parts"] ["many", "step", "cost", "reason"] (defScope sLineOfOne) := ⟨rfl, rfl, rfl, by decide +kernel, rfl, by decide +kernel, by decide +kernel⟩
theorem ok_LineOfOne {f : Addr} {fd : FuncData} {dV : Value} (F : FunD K "line_of_one" "line_of_one" sLineOfOne f fd dV) (T : Txt K mg cB c_CostError c_Full c_NoClaim c_RoundOver c_TooLate c_Twice c_TooMuch) : FnOk P w K mg base CX0 1 f fd ["many", "step", "cost", "reason"] (spLineOne) := by
  refine F.ok scLineOfOne (fun vs H Q E h => ?_) (fun cdv A outer s H vs Q E hr h => ?_)
  · obtain ⟨many, q1, r, c, why, rfl, hm, hr1, hst, q⟩ := h
    rfl
  · obtain ⟨many, q1, r, c, why, rfl, hm, hr1, hst, q⟩ := h
    refine ⟨_, (pss_cons (ps_comp ["many", "step", "cost", "reason", "parts"] (defScope sLineOfOne) 1 [2, 1] ["side", "cost", "step"] (i := 4) scLineOfOne.nd rfl rfl (by decide +kernel) (pi_range1 (by rfl) T.b_range (pa_cons (pv 0) pa_nil)) (fun _ _ _ _ => (pg_name (i := 0) (show List.Nodup (["side", "cost", "step"] : List Str) by decide +kernel) rfl (Or.inl rfl))) (fun _ _ _ _ => pts_nil) (fun _ _ _ _ => (pe_ifExp (pt_cmpR op_eq (pv 0) (pe_ix (ix_tupK K rfl) (pv 2) (pe_globI (by rfl) T.c_STEP_SIDE) (fun _ _ => rfl)) (nomark _)) (pv 1) pe_int)) (by decide +kernel) (by decide +kernel) (by decide +kernel))
      (pss_one (ps_ret (pe_tup (pa_cons (pe_ix (ix_tupK K rfl) (pv 1) (pe_globI (by rfl) T.c_NUMBER) (fun _ _ => rfl)) (pa_cons (pe_ix (ix_tupK K rfl) (pv 1) (pe_globI (by rfl) T.c_TURN) (fun _ _ => rfl)) (pa_cons (pv 2) (pa_cons (pv 3) (pa_cons (pe_callTy cb_tuple (by rfl) T.b_tuple PyProof.Rows.boot_tuple (pa_cons (pv 4) pa_nil)) pa_nil))))))))), ?_⟩
    try dsimp only [cxOf]
    cases r with
    | step n dd t sd kk m l =>
      have h1 : H q1 = some (.tup [.int n, .str "step", .int dd, .int t, .int sd, .str kk, .int m, .str l]) := hr1
      refine r_seq (r_asg (r_comp (r_rng1 (r_cons (r_var rfl (r_nil ⟨many, rfl, by omega, by omega, fun D nD => ?_⟩))))))
      refine comp_rangeF (n := many) (fun _ => true) (fun i => V.int (if (i : Int) = sd then c else 0)) nD (by omega) (fun i H' q' hi sm k => r_tt (k _ (Same.refl _))) ?_ ?_
      · intro i H' q' hi _ sm k
        refine r_if (r_test (r_op (r_var rfl (r_op (r_var rfl (r_c (r_ixT (.of (sm _ _ h1)) rfl (r_EqI ⟨_, rfl, ?_⟩))))))))
        rw [Int.zero_add]
        refine ite2 (fun z => ?_) (fun z => ?_)
        · have z : (i : Int) = sd := of_decide_eq_true z
          rw [if_pos z] at k
          exact r_var rfl (k _ (Same.refl _))
        · have z : ¬ (i : Int) = sd := fun y => z (decide_eq_true y)
          rw [if_neg z] at k
          exact r_c (k _ (Same.refl _))
      · intro H' sm hD
        have hD : H' D = some (.lst ((tab many fun i => if (i : Int) = sd then c else 0).map V.int)) := by
          rw [hD, List.filter_eq_self.mpr (fun _ _ => rfl)]
          unfold tab
          rw [List.map_map]
          rfl
        refine r_name ?_
        dsimp only
        have h1 := sm _ _ h1
        refine r_ret (r_tup (r_cons (r_op (r_var rfl (r_c (r_ixT (.of h1) rfl (r_cons (r_op (r_var rfl (r_c (r_ixT (.of h1) rfl (r_cons (r_var rfl (r_cons (r_var rfl ?_)))))))))))))))
        refine r_cons (r_cb (r_cons (r_var rfl (r_nil ⟨D, _, rfl, .of hD, fun p1 np1 => ?_⟩))))
        refine r_nil ⟨by show 5 ≤ sizeLine; decide, fun p2 np2 => ?_⟩
        have t1 := Same.new (o := .tup ((tab many fun i => if (i : Int) = sd then c else 0).map V.int)) np1
        have t2 := Same.new (o := .tup [V.int n, V.int t, V.int c, V.str why, V.ref p1]) np2
        exact q p2 _ ((sm.trans t1).trans t2) ⟨p1, upd_same, t2 _ _ upd_same⟩
    | _ => cases hst

theorem scBillsOf : FnScope ["many", "court", "speakers", "rows", "day", "told", "lines", "owed"] ["many", "court", "speakers", "rows", "day"] (defScope sBillsOf) := ⟨rfl, rfl, rfl, by decide +kernel, rfl, by decide +kernel, by decide +kernel⟩
theorem ok_BillsOf {f : Addr} {fd : FuncData} {dV : Value} (F : FunD K "bills_of" "bills_of" sBillsOf f fd dV) (T : Txt K mg cB c_CostError c_Full c_NoClaim c_RoundOver c_TooLate c_Twice c_TooMuch) (GBillOf : Fn P w K mg base "bill_of" 2 ["side", "lines", "rows", "charged"] (spBillOf K)) (GCoinDaysOf : Fn P w K mg base "coin_days_of" 2 ["side", "rows", "owed", "day"] (spCoinDays K)) (GInterest : Fn P w K mg base "interest" 1 ["coin_days"] (spInterest)) (GLinesOf : Fn P w K mg base "lines_of" 4 ["many", "court", "speakers", "rows", "day"] (spLinesOf K)) (GOwedOf : Fn P w K mg base "owed_of" 4 ["many", "court", "speakers", "rows"] (spOwedOf K)) (GRowsUntil : Fn P w K mg base "rows_until" 1 ["rows", "day"] (spUntil K)) : FnOk P w K mg base CX0 5 f fd ["many", "court", "speakers", "rows", "day"] (spBillsOf K) := by
  refine F.ok scBillsOf (fun vs H Q E h => ?_) (fun cdv A outer s H vs Q E hr h => ?_)
  · obtain ⟨many, a, rows0, d, v1, v2, rfl, hm, hR0, hn0, hW0, hS0, hN0, hne, hb0, hd0, hd1, q⟩ := h
    rfl
  · obtain ⟨many, a, rows0, d, v1, v2, rfl, hm, hR0, hn0, hW0, hS0, hN0, hne, hb0, hd0, hd1, q⟩ := h
    refine ⟨_, (pss_cons (ps_set (i := 5) scBillsOf.nd rfl (Or.inr rfl) (pe_fn GRowsUntil hr (by decide) (by rfl) (pa_cons (pv 3) (pa_cons (pv 4) pa_nil))))
      (pss_cons (ps_set (i := 6) scBillsOf.nd rfl (Or.inr rfl) (pe_fn GLinesOf hr (by decide) (by rfl) (pa_cons (pv 0) (pa_cons (pv 1) (pa_cons (pv 2) (pa_cons (pv 5) (pa_cons (pv 4) pa_nil)))))))
      (pss_cons (ps_set (i := 7) scBillsOf.nd rfl (Or.inr rfl) (pe_fn GOwedOf hr (by decide) (by rfl) (pa_cons (pv 0) (pa_cons (pv 1) (pa_cons (pv 2) (pa_cons (pv 5) pa_nil))))))
      (pss_one (ps_ret (pe_comp ["many", "court", "speakers", "rows", "day", "told", "lines", "owed"] (defScope sBillsOf) 1 [6, 5, 7, 4] ["side", "lines", "told", "owed", "day"] rfl (by decide +kernel) (pi_range1 (by rfl) T.b_range (pa_cons (pv 0) pa_nil)) (fun _ _ _ _ => (pg_name (i := 0) (show List.Nodup (["side", "lines", "told", "owed", "day"] : List Str) by decide +kernel) rfl (Or.inl rfl))) (fun _ _ _ _ => pts_nil) (fun _ _ _ _ => (pe_fn GBillOf hr (by decide) (by rfl) (pa_cons (pv 0) (pa_cons (pv 1) (pa_cons (pv 2) (pa_cons (pe_fn GInterest hr (by decide) (by rfl) (pa_cons (pe_fn GCoinDaysOf hr (by decide) (by rfl) (pa_cons (pv 0) (pa_cons (pv 2) (pa_cons (pv 3) (pa_cons (pv 4) pa_nil))))) pa_nil)) pa_nil)))))) (by decide +kernel) (by decide +kernel) (by decide +kernel))))))), ?_⟩
    try dsimp only [cxOf]
    refine r_seq (r_asg (r_callX (r_cons (r_var rfl (r_cons (r_var rfl (r_nil ?_)))))))
    refine ⟨a, rows0, d, rfl, hR0, hn0, fun l H1 s1 nl hl1 => r_name ?_⟩
    dsimp only
    have hn : (tillR rows0 d).length ≤ 300 := Nat.le_trans till_le hn0
    have hW : ∀ r ∈ tillR rows0 d, WitR r := fun r hr => hW0 r (till_mem hr)
    have hSd : ∀ r ∈ tillR rows0 d, SidesOk many r := fun r hr => hS0 r (till_mem hr)
    have hN := till_num (d := d) hN0
    have hbt : ∀ r ∈ tillR rows0 d, -1000000 ≤ r.day ∧ r.day ≤ 1000000 := fun r hr => hb0 r (till_mem hr)
    have hq : billsW many rows0 d = (List.range many).map fun s => billW (linesW many (tillR rows0 d)) (tillR rows0 d) s (5 * coinDays (tillR rows0 d) (owedW many (tillR rows0 d)) d s / 36500) := rfl
    rw [hq] at q
    have tt := till_till (rows := rows0) (d := d)
    generalize tillR rows0 d = rows at *
    refine r_seq (r_asg (r_callX (r_cons (r_var rfl (r_cons (r_var rfl (r_cons (r_var rfl (r_cons (r_var rfl (r_cons (r_var rfl (r_nil ?_)))))))))))))
    refine ⟨many, l, rows, d, _, _, rfl, hm, hl1, hn, hW, hN, fun ln H2 s2 hln => r_name ?_⟩
    rw [tt] at hln
    dsimp only
    refine r_seq (r_asg (r_callX (r_cons (r_var rfl (r_cons (r_var rfl (r_cons (r_var rfl (r_cons (r_var rfl (r_nil ?_)))))))))))
    refine ⟨many, l, rows, _, _, rfl, hm, hl1.same s2, hn, hW, hSd, hN, fun ol H3 s3 hol => r_name ?_⟩
    dsimp only
    have s13 := (s1.trans s2).trans s3
    have hl3 := hl1.same (s2.trans s3)
    have hln3 := hln.same s3
    refine r_ret (r_comp (r_rng1 (r_cons (r_var rfl (r_nil ⟨many, rfl, by omega, by omega, fun D nD => ?_⟩)))))
    refine comp_rangeA (BlN D) (fun s h => h.same s) (fun hD h => h.setL hD) (fun s => billW (linesW many rows) rows s (5 * coinDays rows (owedW many rows) d s / 36500)) nD (by omega) ?_ ?_
    · rintro i H' q' hi sm ⟨ys, hD⟩ k
      refine r_callX (r_cons (r_var rfl (r_cons (r_var rfl (r_cons (r_var rfl (r_cons (r_callX (r_cons (r_callX (r_cons (r_var rfl (r_cons (r_var rfl (r_cons (r_var rfl (r_cons (r_var rfl (r_nil ?_)))))))))))))))))))
      refine ⟨i, l, rows, ol, owedW many rows, d, by rw [Int.zero_add]; rfl, hl3.same sm, hol.same sm, fun z => hne (List.length_eq_zero_iff.mp (by rw [← owed_len (many := many), z]; rfl)), by rw [owed_len]; exact hn, fun x hx => ?_, hbt, hd0, hd1, fun H5 s5 => ?_⟩
      · obtain ⟨h1, r, hr, h2⟩ := owed_mem hx
        have := hbt r hr
        exact ⟨by rw [h1]; exact hi, by rw [h2]; exact this.1, by rw [h2]; exact this.2⟩
      refine r_nil ⟨_, rfl, r_nil ?_⟩
      have s5' := sm.trans s5
      refine ⟨i, ln, linesW many rows, l, rows, _, by rw [Int.zero_add]; rfl, hln3.same s5', ?_, fun x hx => by rw [lines_parts hx]; exact hi, hl3.same s5', hn, fun p H6 s6 hb => k p H6 (s5.trans s6) ?_⟩
      · unfold linesW
        rw [List.length_map]
        exact Nat.le_trans (List.length_filter_le _ _) hn
      · obtain ⟨qq, ts, b1, b2, b3, b4⟩ := hb
        exact ⟨qq, ts, b1, b2, b3, fun z => by rw [z, s5 _ _ hD] at b4; cases b4⟩
    · intro us H5 s5 hD hAll
      exact q D H5 (s13.trans s5) ⟨us, hD, hAll.imp fun _ _ h => h.at_⟩

theorem scBillOf : FnScope ["side", "lines", "rows", "charged", "borne_rows", "borne", "paid"] ["side", "lines", "rows", "charged"] (defScope sBillOf) := ⟨rfl, rfl, rfl, by decide +kernel, rfl, by decide +kernel, by decide +kernel⟩
theorem ok_BillOf {f : Addr} {fd : FuncData} {dV : Value} (F : FunD K "bill_of" "bill_of" sBillOf f fd dV) (T : Txt K mg cB c_CostError c_Full c_NoClaim c_RoundOver c_TooLate c_Twice c_TooMuch) (GPaysOf : Fn P w K mg base "pays_of" 1 ["rows", "side"] (spPays K)) : FnOk P w K mg base CX0 2 f fd ["side", "lines", "rows", "charged"] (spBillOf K) := by
  refine F.ok scBillOf (fun vs H Q E h => ?_) (fun cdv A outer s H vs Q E hr h => ?_)
  · obtain ⟨side, l, lns, a, rows, ch, rfl, ⟨ls, hl, hA⟩, hln, hpt, hR0, hn, q⟩ := h
    rfl
  · obtain ⟨side, l, lns, a, rows, ch, rfl, ⟨ls, hl, hA⟩, hln, hpt, hR0, hn, q⟩ := h
    refine ⟨_, (pss_cons (ps_comp ["side", "lines", "rows", "charged", "borne_rows", "borne", "paid"] (defScope sBillOf) 1 [0] ["line", "side"] (i := 4) scBillOf.nd rfl rfl (by decide +kernel) (pi_list (pv 1)) (fun _ _ _ _ => (pg_name (i := 0) (show List.Nodup (["line", "side"] : List Str) by decide +kernel) rfl (Or.inl rfl))) (fun _ _ _ _ => (pts_one (pt_cmpR op_gt (pe_ix (ix_tupK K rfl) (pe_ix (ix_tupK K rfl) (pv 0) (pe_globI (by rfl) T.c_LINE_PARTS) (fun _ _ => rfl)) (pv 1) (fun _ _ => rfl)) pe_int (nomark _)))) (fun _ _ _ _ => (pe_tup (pa_cons (pe_ix (ix_tupK K rfl) (pv 0) (pe_globI (by rfl) T.c_LINE_ROW) (fun _ _ => rfl)) (pa_cons (pe_ix (ix_tupK K rfl) (pe_ix (ix_tupK K rfl) (pv 0) (pe_globI (by rfl) T.c_LINE_PARTS) (fun _ _ => rfl)) (pv 1) (fun _ _ => rfl)) (pa_cons (pe_ix (ix_tupK K rfl) (pv 0) (pe_globI (by rfl) T.c_LINE_REASON) (fun _ _ => rfl)) pa_nil))))) (by decide +kernel) (by decide +kernel) (by decide +kernel))
      (pss_cons (ps_set (i := 5) scBillOf.nd rfl (Or.inl rfl) (pe_callB (cb_sumK K rfl rfl) (by rfl) T.b_sum PyProof.Rows.boot_sum (pa_cons (pe_comp ["side", "lines", "rows", "charged", "borne_rows", "borne", "paid"] (defScope sBillOf) 3 [] ["row", "part", "reason"] rfl (by decide +kernel) (pi_list (pv 4)) (fun _ _ _ _ => (pg_tupK (n := 3) K rfl rfl (pgs_cons (pg_name (i := 0) (show List.Nodup (["row", "part", "reason"] : List Str) by decide +kernel) rfl (Or.inl rfl)) (pgs_cons (pg_name (i := 1) (show List.Nodup (["row", "part", "reason"] : List Str) by decide +kernel) rfl (Or.inl rfl)) (pgs_cons (pg_name (i := 2) (show List.Nodup (["row", "part", "reason"] : List Str) by decide +kernel) rfl (Or.inl rfl)) pgs_nil))))) (fun _ _ _ _ => pts_nil) (fun _ _ _ _ => (pv 1)) (by decide +kernel) (by decide +kernel) (by decide +kernel)) pa_nil)))
      (pss_cons (ps_set (i := 6) scBillOf.nd rfl (Or.inl rfl) (pe_callB (cb_sumK K rfl rfl) (by rfl) T.b_sum PyProof.Rows.boot_sum (pa_cons (pe_comp ["side", "lines", "rows", "charged", "borne_rows", "borne", "paid"] (defScope sBillOf) 1 [] ["row"] rfl (by decide +kernel) (pi_list (pe_fn GPaysOf hr (by decide) (by rfl) (pa_cons (pv 2) (pa_cons (pv 0) pa_nil)))) (fun _ _ _ _ => (pg_name (i := 0) (show List.Nodup (["row"] : List Str) by decide +kernel) rfl (Or.inl rfl))) (fun _ _ _ _ => pts_nil) (fun _ _ _ _ => (pe_ix (ix_tupK K rfl) (pv 0) (pe_globI (by rfl) T.c_PAY_COINS) (fun _ _ => rfl))) (by decide +kernel) (by decide +kernel) (by decide +kernel)) pa_nil)))
      (pss_one (ps_ret (pe_tup (pa_cons (pv 4) (pa_cons (pv 5) (pa_cons (pv 3) (pa_cons (pv 6) (pa_cons (pe_op op_sub (pe_op op_add (pv 5) (pv 3)) (pv 6)) pa_nil))))))))))), ?_⟩
    try dsimp only [cxOf]
    have lA := hA.1
    have hS : SqL K H l (List.map V.ref ls) := .of hl
    have part : ∀ {i : Nat} {x : V} {H' : Hp}, (List.map V.ref ls)[i]? = some x → Same H H' → ∃ b y qp, x = .ref b ∧ lns[i]? = some y ∧ H' b = some (.tup [.int y.row, .int y.turn, .int y.cost, .str y.why, .ref qp]) ∧ H' qp = some (.tup (y.parts.map V.int)) ∧ atI (y.parts.map V.int) ((side : Nat) : Int) = some (V.int (y.parts.getD side 0)) := fun {i x H'} hx sm => by
      obtain ⟨b, y, rfl, _, hy, qp, h1, h2⟩ := hA.at hx
      have hlt := hpt y (List.mem_of_getElem? hy)
      refine ⟨b, y, qp, rfl, hy, sm _ _ h1, sm _ _ h2, ?_⟩
      refine atI_nat ?_
      rw [List.getElem?_map, List.getElem?_eq_getElem hlt]
      simp [List.getD, hlt]
    refine r_seq (r_asg (r_comp (r_ilist (r_var rfl ⟨l, rfl, ⟨_, hS⟩, fun D nD => ?_⟩))))
    refine comp_listA BrAt (fun s h => s _ _ h) (fun hD h => by unfold BrAt at h ⊢; rw [upd_ne (ne_of h hD (by intro z; cases z))]; exact h) (fun i => decide ((lns.getD i default).parts.getD side 0 > 0)) (fun i => ((lns.getD i default).row, (lns.getD i default).parts.getD side 0, (lns.getD i default).why)) nD hS (by rw [List.length_map]; omega) ?_ ?_ ?_
    · intro i x H' q' hx sm k
      obtain ⟨b, y, qp, rfl, hy, h1, h2, ea⟩ := part hx sm
      have ey : lns.getD i default = y := by rw [List.getD_eq_getElem?_getD, hy]; rfl
      rw [ey] at k
      refine r_test (r_op (r_op (r_op (r_var rfl (r_c (r_ixT (.of h1) rfl (r_var rfl (r_ixT (.of h2) ea (r_c (r_I0 ⟨_, rfl, k _ (Same.refl _)⟩))))))))))
    · intro i x H' q' hx _ sm _ k
      obtain ⟨b, y, qp, rfl, hy, h1, h2, ea⟩ := part hx sm
      have ey : lns.getD i default = y := by rw [List.getD_eq_getElem?_getD, hy]; rfl
      rw [ey] at k
      refine r_tup (r_cons (r_op (r_var rfl (r_c (r_ixT (.of h1) rfl (r_cons (r_op (r_op (r_var rfl (r_c (r_ixT (.of h1) rfl (r_var rfl (r_ixT (.of h2) ea (r_cons (r_op (r_var rfl (r_c (r_ixT (.of h1) rfl (r_nil ⟨by show 3 ≤ sizeLine; decide, fun u nu => ?_⟩)))))))))))))))))))
      exact k u _ (Same.new nu) upd_same
    intro us H1 s1 hD hB
    rw [List.length_map, lA] at hB
    have eb : ((List.range lns.length).filter fun i => decide ((lns.getD i default).parts.getD side 0 > 0)).map (fun i => ((lns.getD i default).row, (lns.getD i default).parts.getD side 0, (lns.getD i default).why)) = brW lns side := by
      unfold brW
      rw [filter_range default lns, List.map_map]
      rfl
    rw [eb] at hB
    refine r_name ?_
    dsimp only
    have lB := hB.1
    have lbr : (brW lns side).length ≤ 300 := by unfold brW; rw [List.length_map]; exact Nat.le_trans (List.length_filter_le _ _) hln
    generalize hbr : brW lns side = br at *
    refine r_seq (r_asg (r_cb (r_cons (r_comp (r_ilist (r_var rfl ⟨D, rfl, ⟨_, .of hD⟩, fun D2 nD2 => ?_⟩))))))
    refine comp_list (xs := List.map V.ref us) (fun i ys H' => Same H1 H' ∧ H' D2 = some (.lst ys) ∧ ys = (br.take i).map fun x => V.int x.2.1) ⟨Same.new nD2, upd_same, by simp⟩ (fun i ys H' _ p => p.1.seq (.of hD)) ?_ ?_
    · rintro i x ys H' hx ⟨sm, hd, rfl⟩
      obtain ⟨b, y, rfl, _, hy, h1⟩ := hB.at hx
      have hi : i < br.length := (List.getElem?_eq_some_iff.mp hy).1
      have ey : br[i] = y := by simpa [hi] using hy
      refine r_gtup (SqT.of (sm _ _ h1)) rfl (r_gcons (r_name (r_gcons (r_name (r_gcons (r_name (r_gnil ⟨set012, ?_⟩)))))))
      refine r_tt (iteT (r_var rfl ?_))
      refine ⟨hd, small1000 (by rw [List.length_map, List.length_take]; omega), Same.setp nD2 sm, upd_same, ?_⟩
      rw [List.take_succ_eq_append_getElem hi, List.map_append, ey]
      rfl
    rintro ys H2 ⟨s2, hD2, rfl⟩
    rw [List.length_map, lB, List.take_length] at hD2
    refine r_nil (r_sum (ns := br.map fun x => x.2.1) (.of (by rw [hD2, List.map_map]; rfl)) (r_name ?_))
    dsimp only
    have s12 := s1.trans s2
    refine r_seq (r_asg (r_cb (r_cons (r_comp (r_ilist (r_callX (r_cons (r_var rfl (r_cons (r_var rfl (r_nil ?_)))))))))))
    refine ⟨a, rows, _, rfl, hR0.same s12, hn, fun pl H3 s3 npl hpl => ?_⟩
    obtain ⟨pp, hpS, hpR⟩ := hpl
    have lpp := hpR.1
    have lpn : (rows.filter (payW side)).length ≤ 300 := Nat.le_trans (List.length_filter_le _ _) hn
    have hpay : ∀ r ∈ rows.filter (payW side), payW side r = true := fun r hr => (List.mem_filter.mp hr).2
    refine ⟨pl, rfl, ⟨_, hpS⟩, fun D3 nD3 => ?_⟩
    generalize hpr : rows.filter (payW side) = pr at *
    refine comp_listF (fun i => .int (coinsW (pr.getD i (.dun 0 0 0)))) nD3 hpS (by rw [List.length_map]; omega) ?_ ?_
    · intro i x H' q' hx sm k
      obtain ⟨b, rfl, e1, hir, hb0⟩ := hpR.at hx
      have hb := hb0.mono sm.tupS
      have ee : pr.getD i (.dun 0 0 0) = pr[i] := by simp [List.getD, hir]
      have hp := hpay _ (List.getElem_mem hir)
      rw [ee] at k
      cases er : pr[i] with
      | pay n dd s1 p1 c1 =>
        rw [er] at hb k
        have h1 : H' b = some (.tup [.int n, .str "pay", .int dd, .int s1, .int p1, .int c1]) := hb
        exact r_op (r_var rfl (r_c (r_ixT (.of h1) rfl (k _ (Same.refl _)))))
      | _ => rw [er] at hp; cases hp
    intro H4 s4 hD3
    rw [List.length_map, lpp] at hD3
    have ec : (List.range pr.length).map (fun i => V.int (coinsW (pr.getD i (.dun 0 0 0)))) = (pr.map coinsW).map V.int := by
      rw [List.map_map]
      have := congrArg (List.map (V.int ∘ coinsW)) (range_getD (.dun 0 0 0) pr)
      rw [List.map_map] at this
      exact this
    rw [ec] at hD3
    refine r_nil (r_sum (.of hD3) (r_name ?_))
    dsimp only
    have s34 := s3.trans s4
    refine r_ret (r_tup (r_cons (r_var rfl (r_cons (r_var rfl (r_cons (r_var rfl (r_cons (r_var rfl (r_cons (r_op (r_op (r_var rfl (r_var rfl (r_I0 (r_var rfl (r_I0 (r_nil ⟨by show 5 ≤ sizeLine; decide, fun u nu => ?_⟩))))))))))))))))))
    have su := Same.new (o := .tup [V.ref D, V.int (br.map fun x => x.2.1).sum, V.int ch, V.int (pr.map coinsW).sum, V.int ((br.map fun x => x.2.1).sum + ch - (pr.map coinsW).sum)]) nu
    have sE := (s2.trans s34).trans su
    refine q u _ (s1.trans sE) ?_
    have e : billW lns rows side ch = ⟨br, (br.map fun x => x.2.1).sum, ch, (pr.map coinsW).sum, (br.map fun x => x.2.1).sum + ch - (pr.map coinsW).sum⟩ := by
      unfold billW paidW
      rw [hbr, hpr]
    rw [e]
    exact ⟨D, us, upd_same, sE _ _ hD, hB.mono fun _ _ h => sE _ _ h, nD⟩

theorem scPaysOf : FnScope ["rows", "side"] ["rows", "side"] (defScope sPaysOf) := ⟨rfl, rfl, rfl, by decide +kernel, rfl, by decide +kernel, by decide +kernel⟩
theorem ok_PaysOf {f : Addr} {fd : FuncData} {dV : Value} (F : FunD K "pays_of" "pays_of" sPaysOf f fd dV) (T : Txt K mg cB c_CostError c_Full c_NoClaim c_RoundOver c_TooLate c_Twice c_TooMuch) : FnOk P w K mg base CX0 1 f fd ["rows", "side"] (spPays K) := by
  refine F.ok scPaysOf (fun vs H Q E h => ?_) (fun cdv A outer s H vs Q E hr h => ?_)
  · obtain ⟨a, rows, d, rfl, hR0, hn, q⟩ := h
    rfl
  · obtain ⟨a, rows, d, rfl, hR0, hn, q⟩ := h
    refine ⟨_, (pss_one (ps_ret (pe_comp ["rows", "side"] (defScope sPaysOf) 1 [1] ["row", "side"] rfl (by decide +kernel) (pi_list (pv 0)) (fun _ _ _ _ => (pg_name (i := 0) (show List.Nodup (["row", "side"] : List Str) by decide +kernel) rfl (Or.inl rfl))) (fun _ _ _ _ => (pts_one (PW.pt (pw_and (pt_cmpR op_eq (pe_ix (ix_tupK K rfl) (pv 0) (pe_globI (by rfl) T.c_WORD) (fun _ _ => rfl)) pe_str (nomark _)) (pw_and1 (pt_cmpR op_eq (pe_ix (ix_tupK K rfl) (pv 0) (pe_globI (by rfl) T.c_PAY_SIDE) (fun _ _ => rfl)) (pv 1) (nomark _))))))) (fun _ _ _ _ => (pv 0)) (by decide +kernel) (by decide +kernel) (by decide +kernel)))), ?_⟩
    try dsimp only [cxOf]
    obtain ⟨ps, hS, hR⟩ := hR0
    have lp := hR.1
    refine r_ret (r_comp (r_ilist (r_var rfl ⟨a, rfl, ⟨_, hS⟩, fun D nD => ?_⟩)))
    refine comp_listP (fun j => payW d (rows.getD j (.dun 0 0 0))) (fun j => .ref (ps.getD j 0)) nD hS (by rw [List.length_map]; omega) ?_ ?_ ?_
    · intro j x H' q' hx sm k
      obtain ⟨b, rfl, e1, hj, hb⟩ := hR.at hx
      have hb := hb.mono sm.tupS
      obtain ⟨xs0, hb0⟩ := hb.head
      have ee : rows.getD j (.dun 0 0 0) = rows[j] := by simp [List.getD, hj]
      have k := k _ (Same.refl _)
      rw [ee] at k
      refine r_and (r_test (r_op (r_op (r_var rfl (r_c (r_ixT (v := .str rows[j].word) (.of hb0) (atI_nat (j := 1) rfl) (r_c (r_EqS ⟨_, rfl, ?_⟩))))))))
      cases er : rows[j] with
      | pay n dd s1 p1 c1 =>
        rw [er] at k hb
        have hb : H' b = some (.tup [.int n, .str "pay", .int dd, .int s1, .int p1, .int c1]) := hb
        refine iteP (decide_eq_true rfl) ?_
        exact r_test (r_op (r_op (r_var rfl (r_c (r_ixT (.of hb) rfl (r_var rfl (r_EqI ⟨_, rfl, k⟩)))))))
      | _ => rw [er] at k; exact iteN (fun z => nomatch word_pay.mp (of_decide_eq_true z)) k
    · intro j x H' q' hx sm k
      have ex : x = V.ref (ps.getD j 0) := by
        obtain ⟨hi, ex⟩ := List.getElem?_eq_some_iff.mp hx
        rw [List.length_map] at hi
        rw [← ex]; simp [List.getD, hi]
      subst ex
      exact r_var rfl (k _ (Same.refl _))
    · intro H' sm hD
      rw [List.length_map] at hD
      refine q D H' sm nD ⟨_, .of ?_, (hR.mono sm.tupS).filt (payW d)⟩
      rw [hD, List.map_map]
      rfl

theorem scOwedOf : FnScope ["many", "court", "speakers", "rows", "costs", "borne", "paid", "owed", "place", "row"] ["many", "court", "speakers", "rows"] (defScope sOwedOf) := ⟨rfl, rfl, rfl, by decide +kernel, rfl, by decide +kernel, by decide +kernel⟩
theorem ok_OwedOf {f : Addr} {fd : FuncData} {dV : Value} (F : FunD K "owed_of" "owed_of" sOwedOf f fd dV) (T : Txt K mg cB c_CostError c_Full c_NoClaim c_RoundOver c_TooLate c_Twice c_TooMuch) (GCostsOf : Fn P w K mg base "costs_of" 3 ["rows", "court", "speakers"] (spCostsOf K)) : FnOk P w K mg base CX0 4 f fd ["many", "court", "speakers", "rows"] (spOwedOf K) := by
  refine F.ok scOwedOf (fun vs H Q E h => ?_) (fun cdv A outer s H vs Q E hr h => ?_)
  · obtain ⟨many, a, rows, v1, v2, rfl, hm, hR0, hn, hW, hSd, hN, q⟩ := h
    rfl
  · obtain ⟨many, a, rows, v1, v2, rfl, hm, hR0, hn, hW, hSd, hN, q⟩ := h
    refine ⟨_, (pss_cons (ps_set (i := 4) scOwedOf.nd rfl (Or.inl rfl) (pe_fn GCostsOf hr (by decide) (by rfl) (pa_cons (pv 3) (pa_cons (pv 1) (pa_cons (pv 2) pa_nil)))))
      (pss_cons (ps_set (i := 5) scOwedOf.nd rfl (Or.inl rfl) (pe_op op_rep (pe_lst (pa_cons pe_int pa_nil)) (pv 0)))
      (pss_cons (ps_set (i := 6) scOwedOf.nd rfl (Or.inl rfl) (pe_op op_rep (pe_lst (pa_cons pe_int pa_nil)) (pv 0)))
      (pss_cons (ps_set (i := 7) scOwedOf.nd rfl (Or.inl rfl) (pe_lst pa_nil))
      (pss_cons (ps_for PassesOwn.never rfl (pi_enum (by rfl) T.b_enumerate (pa_cons (pv 3) pa_nil)) (pg_tup rfl (pgs_cons (pg_name (i := 8) scOwedOf.nd rfl (Or.inl rfl)) (pgs_cons (pg_name (i := 9) scOwedOf.nd rfl (Or.inl rfl)) pgs_nil))) (pss_cons (ps_if (pt_cmpR op_eq (pe_ix (ix_tupK K rfl) (pv 9) (pe_globI (by rfl) T.c_WORD) (fun _ _ => rfl)) pe_str (nomark _)) (pss_one ps_never) (pss_one (ps_if (pt_cmpR op_eq (pe_ix (ix_tupK K rfl) (pv 9) (pe_globI (by rfl) T.c_WORD) (fun _ _ => rfl)) pe_str (nomark _)) (pss_one (ps_augS (pv 5) (pe_ix (ix_tupK K rfl) (pv 9) (pe_globI (by rfl) T.c_STEP_SIDE) (fun _ _ => rfl)) get_list (pe_dget (hu1 hr) (pv 4) (pe_ix (ix_tupK K rfl) (pv 9) (pe_globI (by rfl) T.c_NUMBER) (fun _ _ => rfl)) (fun _ _ => rfl)) iop_add set_list)) (pss_one (ps_if (pt_cmpR op_eq (pe_ix (ix_tupK K rfl) (pv 9) (pe_globI (by rfl) T.c_WORD) (fun _ _ => rfl)) pe_str (nomark _)) (pss_one (ps_augS (pv 6) (pe_ix (ix_tupK K rfl) (pv 9) (pe_globI (by rfl) T.c_PAY_SIDE) (fun _ _ => rfl)) get_list (pe_ix (ix_tupK K rfl) (pv 9) (pe_globI (by rfl) T.c_PAY_COINS) (fun _ _ => rfl)) iop_add set_list)) pss_nil)))))
      (pss_one (ps_expr (pe_bm PySem.F.plainAttrs_list PySem.F.slot_list_append PySem.F.type_list_append mt_append (pv 7) (pa_cons (pe_tup (pa_cons (pe_ix (ix_tupK K rfl) (pv 9) (pe_globI (by rfl) T.c_DAY) (fun _ _ => rfl)) (pa_cons (pe_comp ["many", "court", "speakers", "rows", "costs", "borne", "paid", "owed", "place", "row"] (defScope sOwedOf) 2 [] ["coins", "gone"] rfl (by decide +kernel) (pi_zip (by rfl) T.b_zip (pa_cons (pv 5) (pa_cons (pv 6) pa_nil))) (fun _ _ _ _ => (pg_tupK (n := 2) K rfl rfl (pgs_cons (pg_name (i := 0) (show List.Nodup (["coins", "gone"] : List Str) by decide +kernel) rfl (Or.inl rfl)) (pgs_cons (pg_name (i := 1) (show List.Nodup (["coins", "gone"] : List Str) by decide +kernel) rfl (Or.inl rfl)) pgs_nil)))) (fun _ _ _ _ => pts_nil) (fun _ _ _ _ => (pe_op op_sub (pv 0) (pv 1))) (by decide +kernel) (by decide +kernel) (by decide +kernel)) pa_nil))) pa_nil))))))
      (pss_one (ps_ret (pv 7)))))))), ?_⟩
    try dsimp only [cxOf]
    refine r_seq (r_asg (r_callX (r_cons (r_var rfl (r_cons (r_var rfl (r_cons (r_var rfl (r_nil ?_)))))))))
    refine ⟨a, rows, _, _, rfl, hR0, hn, hW, hN, fun dc H1 s1 ndc hdc => r_name ?_⟩
    dsimp only
    obtain ⟨kvs, hk1, hk2⟩ := hdc
    obtain ⟨ps, hS, hR⟩ := hR0.same s1
    have lps := hR.1
    have rep : ∀ {n : Nat}, (List.replicate n [V.int 0]).flatten = (tab n fun _ => 0).map V.int := fun {n} => by
      unfold tab
      rw [List.map_map]
      induction n with
      | zero => rfl
      | succ n ih => rw [List.replicate_succ', List.flatten_append, ih, List.range_succ, List.map_append]; rfl
    refine r_seq (r_asg (r_op (r_lst (r_cons (r_c (r_nil ⟨by show 1 ≤ sizeLine; decide, fun p1 np1 => r_var rfl ?_⟩))))))
    refine r_rep upd_same (by omega) (by omega) (by rw [List.length_singleton]; omega) fun bo nbo => r_name ?_
    dsimp only
    rw [Int.toNat_natCast, rep]
    have t1 := (Same.new (o := .lst [V.int 0]) np1).trans (Same.new (o := .lst ((tab many fun _ => 0).map V.int)) nbo)
    have hbo := upd_at (o := .lst ((tab many fun _ => 0).map V.int)) nbo
    have nbo0 := (Same.new (o := .lst [V.int 0]) np1).nil nbo
    generalize upd (upd H1 p1 (.lst [V.int 0])) bo (.lst ((tab many fun _ => 0).map V.int)) = H2 at t1 hbo ⊢
    have hbo2 := hbo
    refine r_seq (r_asg (r_op (r_lst (r_cons (r_c (r_nil ⟨by show 1 ≤ sizeLine; decide, fun p2 np2 => r_var rfl ?_⟩))))))
    refine r_rep upd_same (by omega) (by omega) (by rw [List.length_singleton]; omega) fun pa npa => r_name ?_
    dsimp only
    rw [Int.toNat_natCast, rep]
    have t2' := (Same.new (o := .lst [V.int 0]) np2).trans (Same.new (o := .lst ((tab many fun _ => 0).map V.int)) npa)
    have t2 := t1.trans t2'
    have hpa := upd_at (o := .lst ((tab many fun _ => 0).map V.int)) npa
    have hbo := t2' _ _ hbo
    have npa1 := (Same.new (o := .lst [V.int 0]) np2).nil npa
    have npa0 := t1.nil npa1
    have bp : bo ≠ pa := ne_of_none hbo2 npa1
    generalize upd (upd H2 p2 (.lst [V.int 0])) pa (.lst ((tab many fun _ => 0).map V.int)) = H3 at t2 hpa hbo ⊢
    refine r_seq (r_asg (r_lst (r_nil ⟨by show 0 ≤ sizeLine; decide, fun ow now => r_name ?_⟩)))
    dsimp only
    have t3 := t2.trans (Same.new (o := .lst []) now)
    have how := upd_at (o := .lst []) now
    have now0 := t2.nil now
    have bw : bo ≠ ow := ne_of_none hbo now
    have pw : pa ≠ ow := ne_of_none hpa now
    have hbo := Same.new (o := .lst []) now _ _ hbo
    have hpa := Same.new (o := .lst []) now _ _ hpa
    generalize upd H3 ow (.lst []) = H4 at t3 how hbo hpa ⊢
    refine r_seq (r_for (r_enum (r_cons (r_var rfl (r_nil ⟨_, rfl, ⟨_, t3.seq hS⟩, ?_⟩)))))
    refine for_enum (xs := List.map V.ref ps) (fun i σ H7 => (∃ v w, σ = [some (.int ((many : Nat) : Int)), some v1, some v2, some (.ref a), some (.ref dc), some (.ref bo), some (.ref pa), some (.ref ow), v, w]) ∧ Same H1 H7 ∧ H7 bo = some (.lst ((tab many fun s => borneW (rows.take i) s).map V.int)) ∧ H7 pa = some (.lst ((tab many fun s => paidW (rows.take i) s).map V.int)) ∧ ∃ os, H7 ow = some (.lst (List.map V.ref os)) ∧ AllAt (OwN [bo, pa, ow]) H7 os ((owedW many rows).take i)) ?_ ?_ ?_ ?_
    · exact ⟨⟨_, _, rfl⟩, t3, hbo, hpa, [], how, .nil⟩
    · rintro i σ H7 hi ⟨_, s7, _⟩
      exact s7.seq hS
    · rintro i x TT σ H7 hx nT ⟨⟨v, w, rfl⟩, s7, hbo7, hpa7, os, how7, hA⟩
      obtain ⟨b, rfl, e1, hir, hb0⟩ := hR.at hx
      have sT := Same.new (o := .tup [V.int (i : Nat), V.ref b]) nT
      have s8 := s7.trans sT
      have hb := hb0.mono s8.tupS
      obtain ⟨xs0, hh0⟩ := hb.head
      have hwi := hW _ (List.getElem_mem hir)
      have hsi := hSd _ (List.getElem_mem hir)
      have tk : rows.take (i + 1) = rows.take i ++ [rows[i]] := List.take_succ_eq_append_getElem hir
      refine r_gtup (SqT.of upd_same) rfl (r_gcons (r_name (r_gcons (r_name (r_gnil ?_)))))
      have hbo8 := sT _ _ hbo7
      have hpa8 := sT _ _ hpa7
      have how8 := sT _ _ how7
      have hA8 := hA.mono fun _ _ e => e.same sT
      generalize upd H7 TT (.tup [V.int (i : Nat), V.ref b]) = H8 at s8 hb hh0 hbo8 hpa8 how8 hA8 ⊢
      dsimp only
      refine r_seq ?_
      refine' joinS (M := fun σ H9 => σ = [some (.int ((many : Nat) : Int)), some v1, some v2, some (.ref a), some (.ref dc), some (.ref bo), some (.ref pa), some (.ref ow), some (.int (i : Nat)), some (.ref b)] ∧ Same H1 H9 ∧ H9 bo = some (.lst ((tab many fun s => borneW (rows.take (i + 1)) s).map V.int)) ∧ H9 pa = some (.lst ((tab many fun s => paidW (rows.take (i + 1)) s).map V.int)) ∧ H9 ow = some (.lst (List.map V.ref os)) ∧ AllAt (OwN [bo, pa, ow]) H9 os ((owedW many rows).take i)) ?a ?b
      case a =>
        intro k
        refine r_ifS (r_test (r_op (r_op (r_var rfl (r_c (r_ixT (v := .str rows[i].word) (.of hh0) (atI_nat (j := 1) rfl) (r_c (r_EqS ⟨_, rfl, ?_⟩))))))))
        have nr : ¬ rows[i].word = "rule" := fun z => by
          have := word_rule.mp z
          cases er : rows[i] with
          | rule n d t bk ws => rw [er] at hwi; exact hwi.elim
          | _ => rw [er] at this; cases this
        refine iteN (fun z => nr (of_decide_eq_true z)) ?_
        refine r_ifS (r_test (r_op (r_op (r_var rfl (r_c (r_ixT (v := .str rows[i].word) (.of hh0) (atI_nat (j := 1) rfl) (r_c (r_EqS ⟨_, rfl, ?_⟩))))))))
        cases er : rows[i] with
        | step n dd t sd kk m l =>
          rw [er] at hb hsi tk
          have hs := hk2 rows[i] (List.getElem_mem hir) (by rw [er]; rfl)
          rw [er] at hs
          have h1 : H8 b = some (.tup [.int n, .str "step", .int dd, .int t, .int sd, .str kk, .int m, .str l]) := hb
          refine iteP (decide_eq_true rfl) ?_
          obtain ⟨sn, rfl, hsn⟩ : ∃ sn : Nat, sd = (sn : Int) ∧ sn < many := ⟨sd.toNat, by have := hsi.1; omega, by have := hsi.1; have := hsi.2; omega⟩
          refine r_augS (r_var rfl (r_op (r_var rfl (r_c (r_ixT (.of h1) rfl ?_)))))
          refine ⟨bo, _, _, _, rfl, rfl, .of hbo8, atI_tabN hsn, ?_⟩
          refine r_var rfl (r_op (r_var rfl (r_c (r_ixT (.of h1) rfl ?_))))
          refine ⟨dc, .int m, rfl, ?_, r_I0 ?_⟩
          · have := DGet.k (k := Sum.inl n) (s8 _ _ hk1)
            rw [show valV kvs (Sum.inl n) = some (.int m) from hs] at this
            exact this
          refine r_setL (j := sn) hbo8 (by unfold ixN; rw [if_pos (by omega), if_pos (by rw [List.length_map, tab_len]; omega)]; rfl) ?_
          refine k _ _ ⟨rfl, s8.setL nbo0, ?_, by rw [upd_ne (Ne.symm bp)]; rw [hpa8, tk, paid_snoc0 (by intro s; rfl)], by rw [upd_ne (Ne.symm bw)]; exact how8, ?_⟩
          · rw [upd_same, tk, set_tab hsn, borne_snoc]
          · exact hA8.mono fun _ _ e => e.setL hbo8 (by simp)
        | pay n dd sd pp co =>
          rw [er] at hb hsi tk
          have h1 : H8 b = some (.tup [.int n, .str "pay", .int dd, .int sd, .int pp, .int co]) := hb
          refine iteN (fun z => nomatch word_step.mp (of_decide_eq_true z)) ?_
          refine r_ifS (r_test (r_op (r_op (r_var rfl (r_c (r_ixT (.of h1) rfl (r_c (r_EqS ⟨_, rfl, iteP (by decide +kernel) ?_⟩))))))))
          obtain ⟨sn, rfl, hsn⟩ : ∃ sn : Nat, sd = (sn : Int) ∧ sn < many := ⟨sd.toNat, by have := hsi.1; omega, by have := hsi.1; have := hsi.2; omega⟩
          refine r_augS (r_var rfl (r_op (r_var rfl (r_c (r_ixT (.of h1) rfl ?_)))))
          refine ⟨pa, _, _, _, rfl, rfl, .of hpa8, atI_tabN hsn, ?_⟩
          refine r_op (r_var rfl (r_c (r_ixT (.of h1) rfl (r_I0 ?_))))
          refine r_setL (j := sn) hpa8 (by unfold ixN; rw [if_pos (by omega), if_pos (by rw [List.length_map, tab_len]; omega)]; rfl) ?_
          refine k _ _ ⟨rfl, s8.setL npa0, by rw [upd_ne bp]; rw [hbo8, tk, borne_snoc0 rfl], ?_, by rw [upd_ne (Ne.symm pw)]; exact how8, ?_⟩
          · rw [upd_same, tk, set_tab hsn, paid_snoc]
          · exact hA8.mono fun _ _ e => e.setL hpa8 (by simp)
        | rule n dd t bk ws => exact absurd (by rw [er]; rfl) nr
        | _ =>
          rw [er] at hb tk
          refine iteN (fun z => nomatch word_step.mp (of_decide_eq_true z)) ?_
          obtain ⟨xs1, h1⟩ := RowAt.head hb
          refine r_ifS (r_test (r_op (r_op (r_var rfl (r_c (r_ixT (v := .str (Rw.word _)) (.of h1) (atI_nat (j := 1) rfl) (r_c (r_EqS ⟨_, rfl, iteN (fun z => nomatch word_pay.mp (of_decide_eq_true z)) (r_next ?_)⟩))))))))
          exact k _ _ ⟨rfl, s8, by rw [hbo8, tk, borne_snoc0 rfl], by rw [hpa8, tk, paid_snoc0 (by intro s; rfl)], how8, hA8⟩
      case b =>
      rintro σ H9 ⟨rfl, s9, hbo9, hpa9, how9, hA9⟩
      dsimp only
      obtain ⟨xs9, hh9⟩ := (hb0.mono s9.tupS).head
      refine r_drop (r_bm (r_var rfl (r_tyL (.of how9) (r_cons (r_tup (r_cons (r_op (r_var rfl (r_c (r_ixT (v := .int rows[i].day) (.of hh9) (atI_nat (j := 2) rfl) ?_))))))))))
      refine r_cons (r_comp (r_zip (r_cons (r_var rfl (r_cons (r_var rfl (r_nil ⟨bo, pa, rfl, ⟨_, .of hbo9⟩, ⟨_, .of hpa9⟩, fun D nD => ?_⟩)))))))
      refine compZ (fun j => V.int (borneW (rows.take (i + 1)) j - paidW (rows.take (i + 1)) j)) nD (.of hbo9) (.of hpa9) (by rw [List.length_map, List.length_map, tab_len, tab_len]) (by rw [List.length_map, tab_len]; omega) ?_ ?_
      · intro j x y H' q' ex ey sm k
        have hj : j < many := by
          have := (List.getElem?_eq_some_iff.mp ex).1
          rwa [List.length_map, tab_len] at this
        have ex' : x = V.int (borneW (rows.take (i + 1)) j) := by
          unfold tab at ex
          simp [hj] at ex
          exact ex.symm
        have ey' : y = V.int (paidW (rows.take (i + 1)) j) := by
          unfold tab at ey
          simp [hj] at ey
          exact ey.symm
        subst ex' ey'
        exact r_op (r_var rfl (r_var rfl (r_I0 (k _ (Same.refl _)))))
      · intro H10 s10 hD
        have hD : H10 D = some (.lst ((tab many fun s => borneW (rows.take (i + 1)) s - paidW (rows.take (i + 1)) s).map V.int)) := by
          rw [hD, List.length_map, tab_len]
          unfold tab
          rw [List.map_map]
          rfl
        refine r_nil ⟨by show 2 ≤ sizeLine; decide, fun u nu => r_nil ?_⟩
        have su := Same.new (o := .tup [V.int rows[i].day, V.ref D]) nu
        have s10u := s10.trans su
        have lo := hA9.1
        have lsz : (List.map V.ref os).length ≤ 1000 := by
          rw [List.length_map, lo, List.length_take, owed_len]
          omega
        refine r_app (s10u _ _ how9) (small1000 lsz) ?_
        have Dn : D ∉ [bo, pa, ow] := by
          simp only [List.mem_cons, List.not_mem_nil, or_false, not_or]
          exact ⟨Ne.symm (ne_of_none hbo9 nD), Ne.symm (ne_of_none hpa9 nD), Ne.symm (ne_of_none how9 nD)⟩
        refine ⟨⟨_, _, rfl⟩, (s9.trans s10u).setL now0, by rw [upd_ne bw]; exact s10u _ _ hbo9, by rw [upd_ne pw]; exact s10u _ _ hpa9, os ++ [u], by rw [upd_same, List.map_append]; rfl, ?_⟩
        rw [owed_take hir]
        exact ((hA9.mono fun _ _ e => e.same s10u).push ⟨D, upd_same, su _ _ hD, Dn⟩).mono fun _ _ e => e.setL (s10u _ _ how9) (by simp)
    · rintro σ H7 ⟨⟨v, w, rfl⟩, s7, hbo7, hpa7, os, how7, hA⟩
      refine r_ret (r_var rfl ?_)
      rw [List.length_map, lps, ← owed_len (many := many), List.take_length] at hA
      exact q ow H7 (s1.trans s7) ⟨os, how7, hA.imp fun _ _ e => e.at_⟩

theorem scCoinDaysOf : FnScope ["side", "rows", "owed", "day", "first", "ends", "coin_days", "entry", "end", "days"] ["side", "rows", "owed", "day"] (defScope sCoinDaysOf) := ⟨rfl, rfl, rfl, by decide +kernel, rfl, by decide +kernel, by decide +kernel⟩
theorem ok_CoinDaysOf {f : Addr} {fd : FuncData} {dV : Value} (F : FunD K "coin_days_of" "coin_days_of" sCoinDaysOf f fd dV) (T : Txt K mg cB c_CostError c_Full c_NoClaim c_RoundOver c_TooLate c_Twice c_TooMuch) (GFirstDun : Fn P w K mg base "first_dun" 1 ["rows", "side"] (spFirstDun K)) : FnOk P w K mg base CX0 2 f fd ["side", "rows", "owed", "day"] (spCoinDays K) := by
  refine F.ok scCoinDaysOf (fun vs H Q E h => ?_) (fun cdv A outer s H vs Q E hr h => ?_)
  · obtain ⟨side, a, rows, l, ow, day, rfl, hR0, ⟨os, hl, hA⟩, hne, hn, hx0, hr0, hd0, hd1, q⟩ := h
    rfl
  · obtain ⟨side, a, rows, l, ow, day, rfl, hR0, ⟨os, hl, hA⟩, hne, hn, hx0, hr0, hd0, hd1, q⟩ := h
    refine ⟨_, (pss_cons (ps_set (i := 4) scCoinDaysOf.nd rfl (Or.inl rfl) (pe_fn GFirstDun hr (by decide) (by rfl) (pa_cons (pv 1) (pa_cons (pv 0) pa_nil))))
      (pss_cons (ps_if (pt_cmpR op_isN (pv 4) pe_non (nomark _)) (pss_one (ps_ret pe_int)) pss_nil)
      (pss_cons (ps_set (i := 5) scCoinDaysOf.nd rfl (Or.inl rfl) (pe_op op_cat (pe_comp ["side", "rows", "owed", "day", "first", "ends", "coin_days", "entry", "end", "days"] (defScope sCoinDaysOf) 2 [] ["since", "coins"] rfl (by decide +kernel) (pi_list (pe_slice sl_list (pv 2) (po_some pe_int) po_none)) (fun _ _ _ _ => (pg_tupK (n := 2) K rfl rfl (pgs_cons (pg_name (i := 0) (show List.Nodup (["since", "coins"] : List Str) by decide +kernel) rfl (Or.inl rfl)) (pgs_cons (pg_name (i := 1) (show List.Nodup (["since", "coins"] : List Str) by decide +kernel) rfl (Or.inl rfl)) pgs_nil)))) (fun _ _ _ _ => pts_nil) (fun _ _ _ _ => (pv 0)) (by decide +kernel) (by decide +kernel) (by decide +kernel)) (pe_lst (pa_cons (pv 3) pa_nil))))
      (pss_cons (ps_set (i := 6) scCoinDaysOf.nd rfl (Or.inl rfl) pe_int)
      (pss_cons (ps_for PassesOwn.never rfl (pi_zip (by rfl) T.b_zip (pa_cons (pv 2) (pa_cons (pv 5) pa_nil))) (pg_tup rfl (pgs_cons (pg_name (i := 7) scCoinDaysOf.nd rfl (Or.inl rfl)) (pgs_cons (pg_name (i := 8) scCoinDaysOf.nd rfl (Or.inl rfl)) pgs_nil))) (pss_cons (ps_set (i := 9) scCoinDaysOf.nd rfl (Or.inl rfl) (pe_op op_sub (pv 8) (pe_callB (cb_max rfl) (by rfl) T.b_max PyProof.Rows.boot_max (pa_cons (pe_ix (ix_tupK K rfl) (pv 7) pe_int (fun _ _ => rfl)) (pa_cons (pv 4) pa_nil)))))
      (pss_one (ps_if (pt_cmpR op_gt (pv 9) pe_int (nomark _)) (pss_one (ps_aug (i := 6) scCoinDaysOf.nd rfl (Or.inl rfl) (pe_op op_mul (pe_callB (cb_max rfl) (by rfl) T.b_max PyProof.Rows.boot_max (pa_cons (pe_ix (ix_listK K rfl) (pe_ix (ix_tupK K rfl) (pv 7) pe_int (fun _ _ => rfl)) (pv 0) (fun _ _ => rfl)) (pa_cons pe_int pa_nil))) (pv 9)) iop_add)) pss_nil))))
      (pss_one (ps_ret (pv 6)))))))), ?_⟩
    try dsimp only [cxOf]
    refine r_seq (r_asg (r_callX (r_cons (r_var rfl (r_cons (r_var rfl (r_nil ?_)))))))
    refine ⟨a, rows, _, rfl, hR0, r_name ?_⟩
    dsimp only
    have lA := hA.1
    refine r_seq (r_ifS (r_test (r_op (r_var rfl (r_c ⟨rfl, ⟨_, rfl, ?_⟩⟩)))))
    cases hf : dunW rows (side : Int) with
    | none =>
      refine iteP (by simp [optV]) (r_ret (r_c ?_))
      have e : coinDays rows ow day side = 0 := by unfold coinDays; rw [hf]
      have := q H (Same.refl H)
      rw [e] at this
      exact this
    | some f =>
      have hfb : -1000000 ≤ f ∧ f ≤ 1000000 := by
        unfold dunW at hf
        obtain ⟨r, hr, rfl⟩ := Option.map_eq_some_iff.mp hf
        exact hr0 r (List.mem_of_find?_eq_some hr)
      have ec : coinDays rows ow day side = cdW ow day f side := by unfold coinDays; rw [hf]
      rw [ec] at q
      refine iteN (by simp [optV]) (r_next ?_)
      dsimp only [optV]
      have one : List.map V.ref os ≠ [] := fun z => hne (by
        rw [List.map_eq_nil_iff] at z
        rw [z] at lA
        exact List.length_eq_zero_iff.mp lA.symm)
      refine r_seq (r_asg (r_op (r_comp (r_ilist (r_sl (r_var rfl (r_part (r_c (r_exI (r_noPart ?_))))))))))
      refine r_slLE (.of hl) fun p1 np1 => ⟨p1, rfl, ⟨_, .of upd_same⟩, fun D nD => ?_⟩
      rw [cut_one one] at nD ⊢
      have s1 := Same.new (o := .lst ((List.map V.ref os).drop 1)) np1
      have hp1 := upd_at (o := .lst ((List.map V.ref os).drop 1)) np1
      generalize upd H p1 (.lst ((List.map V.ref os).drop 1)) = H1 at s1 hp1 nD ⊢
      refine comp_list (xs := (List.map V.ref os).drop 1) (fun i ys H' => Same H1 H' ∧ H' D = some (.lst ys) ∧ ys = ((ow.drop 1).take i).map fun x => V.int x.1) ⟨Same.new nD, upd_same, by simp⟩ (fun i ys H' _ p => p.1.seq (.of hp1)) ?_ ?_
      · rintro i x ys H' hx ⟨sm, hd, rfl⟩
        rw [List.getElem?_drop] at hx
        obtain ⟨b, y, rfl, _, hy, qq, h1, h2⟩ := hA.at hx
        have hi : i < (ow.drop 1).length := by have := (List.getElem?_eq_some_iff.mp hy).1; rw [List.length_drop]; omega
        have ey : (ow.drop 1)[i] = y := by
          have : (ow.drop 1)[i]? = some y := by rw [List.getElem?_drop]; exact hy
          rw [List.getElem?_eq_getElem hi] at this
          exact Option.some.inj this
        refine r_gtup (SqT.of (sm _ _ (s1 _ _ h1))) rfl (r_gcons (r_name (r_gcons (r_name (r_gnil ⟨set01, ?_⟩)))))
        refine r_tt (iteT (r_var rfl ?_))
        refine ⟨hd, small1000 (by rw [List.length_map, List.length_take, List.length_drop]; omega), Same.setp nD sm, upd_same, ?_⟩
        rw [List.take_succ_eq_append_getElem hi, List.map_append, ey]
        rfl
      rintro ys H2 ⟨s2, hD, rfl⟩
      have ld : ((List.map V.ref os).drop 1).length = (ow.drop 1).length := by rw [List.length_drop, List.length_drop, List.length_map, lA]
      rw [ld, List.take_length] at hD
      refine r_lst (r_cons (r_var rfl (r_nil ⟨by show 1 ≤ sizeLine; decide, fun p2 np2 => ?_⟩)))
      have s3 := Same.new (o := .lst [V.int day]) np2
      refine r_cat (s3 _ _ hD) upd_same (by rw [List.length_map, List.length_drop, List.length_singleton]; omega) fun en nen => r_name ?_
      dsimp only
      have ee : List.map (fun (x : Int × List Int) => V.int x.1) (ow.drop 1) ++ [V.int day] = List.map V.int ((ow.drop 1).map (fun x => x.1) ++ [day]) := by rw [List.map_append, List.map_map]; rfl
      rw [ee]
      have s4 := ((s1.trans s2).trans s3).trans (Same.new (o := .lst (List.map V.int ((ow.drop 1).map (fun x => x.1) ++ [day]))) nen)
      have hen := upd_at (o := .lst (List.map V.int ((ow.drop 1).map (fun x => x.1) ++ [day]))) nen
      generalize upd (upd H2 p2 (.lst [V.int day])) en (.lst (List.map V.int ((ow.drop 1).map (fun x => x.1) ++ [day]))) = H4 at s4 hen ⊢
      refine r_seq (r_asg (r_c (r_name ?_)))
      dsimp only
      have lw : 0 < ow.length := List.length_pos_iff.mpr hne
      have le : ((ow.drop 1).map (fun x => x.1) ++ [day]).length = ow.length := by rw [List.length_append, List.length_map, List.length_drop, List.length_singleton]; omega
      refine r_seq (r_for (r_zip (r_cons (r_var rfl (r_cons (r_var rfl (r_nil ⟨l, en, rfl, ⟨_, .of (s4 _ _ hl)⟩, ⟨_, .of hen⟩, ?_⟩)))))))
      refine for_zip (xs := List.map V.ref os) (ys := List.map V.int ((ow.drop 1).map (fun x => x.1) ++ [day])) (by rw [List.length_map, List.length_map, lA, le]) (fun i σ H7 => (∃ v7 v8 v9, σ = [some (.int ((side : Nat) : Int)), some (.ref a), some (.ref l), some (.int day), some (.int f), some (.ref en), some (.int (((List.range i).map fun i => cd1 ow day f side i).sum)), v7, v8, v9]) ∧ Same H4 H7) ⟨⟨_, _, _, rfl⟩, Same.refl _⟩ (fun i σ H7 _ p => ⟨.of (p.2 _ _ (s4 _ _ hl)), .of (p.2 _ _ hen)⟩) ?_ ?_
      · rintro i x y TT σ H7 hx hy nT ⟨⟨v7, v8, v9, rfl⟩, s7⟩
        obtain ⟨b, z, rfl, _, hz, qq, h1, h2⟩ := hA.at hx
        have hi : i < ow.length := (List.getElem?_eq_some_iff.mp hz).1
        have hzb := hx0 z (List.mem_of_getElem? hz)
        rw [List.getElem?_map] at hy
        obtain ⟨en1, hen1, rfl⟩ := Option.map_eq_some_iff.mp hy
        have een : (ow.getD (i + 1) (day, [])).1 = en1 := by
          by_cases h : i < (ow.drop 1).length
          · rw [List.getElem?_append_left (by rw [List.length_map]; exact h), List.getElem?_map, List.getElem?_drop] at hen1
            obtain ⟨u, hu, rfl⟩ := Option.map_eq_some_iff.mp hen1
            rw [List.getD_eq_getElem?_getD, show i + 1 = 1 + i from Nat.add_comm _ _, hu]
            rfl
          · have e0 : i = (ow.drop 1).length := by rw [List.length_drop] at h ⊢; omega
            rw [List.getElem?_append_right (by rw [List.length_map]; omega), List.length_map, ← e0] at hen1
            simp at hen1
            rw [List.getD_eq_getElem?_getD, List.getElem?_eq_none (by rw [List.length_drop] at h; omega)]
            exact hen1
        have benb : -1000000 ≤ en1 ∧ en1 ≤ 1000000 := by
          have := List.mem_of_getElem? hen1
          rcases List.mem_append.mp this with h | h
          · obtain ⟨u, hu, rfl⟩ := List.mem_map.mp h
            exact (hx0 u (List.mem_of_mem_drop hu)).2
          · rw [List.mem_singleton.mp h]; exact ⟨hd0, hd1⟩
        have sT := Same.new (o := .tup [V.ref b, V.int en1]) nT
        have s8 := s4.trans (s7.trans sT)
        have h1 := s8 _ _ h1
        have h2 := s8 _ _ h2
        have s78 := s7.trans sT
        refine r_gtup (SqT.of upd_same) rfl (r_gcons (r_name (r_gcons (r_name (r_gnil ?_)))))
        generalize upd H7 TT (.tup [V.ref b, V.int en1]) = H8 at s8 s78 h1 h2 ⊢
        dsimp only
        refine r_seq (r_asg (r_op (r_var rfl (r_cb (r_cons (r_op (r_var rfl (r_c (r_ixT (.of h1) rfl (r_cons (r_var rfl (r_nil (r_max (r_I0 (r_name ?_)))))))))))))))
        dsimp only
        have e1 : cd1 ow day f side i = (if en1 - (if f > z.1 then f else z.1) > 0 then (if 0 > z.2.getD side 0 then 0 else z.2.getD side 0) * (en1 - (if f > z.1 then f else z.1)) else 0) := by
          unfold cd1
          have ez : ow.getD i (0, []) = z := by rw [List.getD_eq_getElem?_getD, hz]; rfl
          rw [ez, een]
        have bd : -4000000 ≤ en1 - (if f > z.1 then f else z.1) ∧ en1 - (if f > z.1 then f else z.1) ≤ 4000000 := by split <;> omega
        generalize en1 - (if f > z.1 then f else z.1) = days at e1 bd ⊢
        have sum1 : ((List.range (i + 1)).map fun i => cd1 ow day f side i).sum = ((List.range i).map fun i => cd1 ow day f side i).sum + cd1 ow day f side i := by rw [List.range_succ, List.map_append, List.sum_append]; simp
        refine r_ifS (r_test (r_op (r_var rfl (r_c (r_I0 ⟨_, rfl, ?_⟩)))))
        refine ite2 (fun y => ?_) (fun y => ?_)
        · have y : days > 0 := of_decide_eq_true y
          rw [if_pos y] at e1
          have ea : atI (z.2.map V.int) ((side : Nat) : Int) = some (V.int (z.2.getD side 0)) := by
            refine atI_nat ?_
            rw [List.getElem?_map, List.getElem?_eq_getElem hzb.1]
            simp [List.getD, hzb.1]
          refine r_augN rfl (r_op (r_cb (r_cons (r_op (r_op (r_var rfl (r_c (r_ixT (.of h1) rfl (r_var rfl (r_ixL (.of h2) ea (r_cons (r_c (r_nil (r_max (r_var rfl (r_I (show CMul _ days from .inr ⟨by omega, by omega⟩) (r_I0 ?_)))))))))))))))))
          refine ⟨⟨some (.ref b), some (.int en1), some (.int days), ?_⟩, s78⟩
          rw [sum1, e1]
          rfl
        · have y : ¬ days > 0 := fun h => y (decide_eq_true h)
          rw [if_neg y] at e1
          refine r_next ⟨⟨some (.ref b), some (.int en1), some (.int days), ?_⟩, s78⟩
          rw [sum1, e1, Int.add_zero]
          rfl
      · rintro σ H7 ⟨⟨v7, v8, v9, rfl⟩, s7⟩
        dsimp only
        refine r_ret (r_var rfl ?_)
        rw [List.length_map, lA]
        exact q H7 (s4.trans s7)

theorem scFirstDun : FnScope ["rows", "side", "row"] ["rows", "side"] (defScope sFirstDun) := ⟨rfl, rfl, rfl, by decide +kernel, rfl, by decide +kernel, by decide +kernel⟩
theorem ok_FirstDun {f : Addr} {fd : FuncData} {dV : Value} (F : FunD K "first_dun" "first_dun" sFirstDun f fd dV) (T : Txt K mg cB c_CostError c_Full c_NoClaim c_RoundOver c_TooLate c_Twice c_TooMuch) : FnOk P w K mg base CX0 1 f fd ["rows", "side"] (spFirstDun K) := by
  refine F.ok scFirstDun (fun vs H Q E h => ?_) (fun cdv A outer s H vs Q E hr h => ?_)
  · obtain ⟨a, rows, sd, rfl, hR0, q⟩ := h
    rfl
  · obtain ⟨a, rows, sd, rfl, hR0, q⟩ := h
    refine ⟨_, (pss_cons (ps_for PassesOwn.never rfl (pi_list (pv 0)) (pg_name (i := 2) scFirstDun.nd rfl (Or.inl rfl)) (pss_one (ps_if (PW.pt (pw_and (pt_cmpR op_eq (pe_ix (ix_tupK K rfl) (pv 2) (pe_globI (by rfl) T.c_WORD) (fun _ _ => rfl)) pe_str (nomark _)) (pw_and1 (pt_cmpR op_eq (pe_ix (ix_tupK K rfl) (pv 2) (pe_globI (by rfl) T.c_DUN_SIDE) (fun _ _ => rfl)) (pv 1) (nomark _))))) (pss_one (ps_ret (pe_ix (ix_tupK K rfl) (pv 2) (pe_globI (by rfl) T.c_DAY) (fun _ _ => rfl)))) pss_nil)))
      (pss_one (ps_ret pe_non))), ?_⟩
    try dsimp only [cxOf]
    obtain ⟨ps, hS, hR⟩ := hR0
    have lps := hR.1
    refine r_seq (r_for (r_ilist (r_var rfl ⟨_, rfl, ⟨_, hS⟩, ?_⟩)))
    refine for_list (xs := List.map V.ref ps) (fun i σ H2 => H2 = H ∧ (∃ v, σ = [some (.ref a), some (.int sd), v]) ∧ ∀ j (hj : j < rows.length), j < i → dunIs sd rows[j] = false) ⟨rfl, ⟨_, rfl⟩, fun j _ hj => absurd hj (Nat.not_lt_zero j)⟩ ?_ ?_ ?_
    · rintro i σ H2 hi ⟨rfl, _⟩
      exact hS
    · rintro i x σ H2 hx ⟨rfl, ⟨v, rfl⟩, hno⟩
      obtain ⟨b, rfl, e1, hir, hb0⟩ := hR.at hx
      obtain ⟨xs0, hh0⟩ := hb0.head
      refine r_name ?_
      dsimp only
      refine r_ifS (r_and (r_test (r_op (r_op (r_var rfl (r_c (r_ixT (v := .str rows[i].word) (.of hh0) (atI_nat (j := 1) rfl) (r_c (r_EqS ⟨_, rfl, ?_⟩)))))))))
      have nxt : dunIs sd rows[i] = false → ∀ j (hj : j < rows.length), j < i + 1 → dunIs sd rows[j] = false := fun h j hj hlt => by
        by_cases z : j = i
        · subst z; exact h
        · exact hno j hj (by omega)
      cases er : rows[i] with
      | dun n dd s1 =>
        rw [er] at hb0 nxt
        have h1 : H2 b = some (.tup [.int n, .str "dun", .int dd, .int s1]) := hb0
        refine iteP (decide_eq_true rfl) ?_
        refine r_test (r_op (r_op (r_var rfl (r_c (r_ixT (.of h1) rfl (r_var rfl (r_EqI ⟨_, rfl, ?_⟩)))))))
        refine ite2 (fun z => ?_) (fun z => ?_)
        · refine r_ret (r_op (r_var rfl (r_c (r_ixT (.of h1) rfl ?_))))
          have ef : dunW rows sd = some dd := by
            unfold dunW
            have : rows.find? (dunIs sd) = some rows[i] := by
              rw [List.find?_eq_some_iff_getElem]
              refine ⟨by rw [er]; exact z, i, hir, rfl, fun j hj => ?_⟩
              rw [hno j (by omega) hj]
              rfl
            rw [this, er]
            rfl
          rw [ef] at q
          exact q
        · refine r_next ⟨rfl, ⟨_, rfl⟩, nxt ?_⟩
          exact decide_eq_false fun y => z (decide_eq_true y)
      | _ =>
        rw [er] at nxt
        exact iteN (fun z => nomatch word_dun.mp (of_decide_eq_true z)) (r_next ⟨rfl, ⟨_, rfl⟩, nxt rfl⟩)
    · rintro σ H2 ⟨rfl, ⟨v, rfl⟩, hno⟩
      dsimp only
      refine r_ret (r_c ?_)
      have ef : dunW rows sd = none := by
        unfold dunW
        have : rows.find? (dunIs sd) = none := by
          rw [List.find?_eq_none]
          intro r hr
          obtain ⟨j, hj, rfl⟩ := List.getElem_of_mem hr
          rw [hno j hj (by rw [List.length_map]; omega)]
          exact Bool.false_ne_true
        rw [this]
        rfl
      rw [ef] at q
      exact q

theorem scLAt : FnScope ["_law_script", "_law_k"] ["_law_script", "_law_k"] (defScope sLAt) := ⟨rfl, rfl, rfl, by decide +kernel, rfl, by decide +kernel, by decide +kernel⟩
theorem ok_LAt {f : Addr} {fd : FuncData} {dV : Value} (F : FunD K "_law_at" "_law_at" sLAt f fd dV) (T : Txt K mg cB c_CostError c_Full c_NoClaim c_RoundOver c_TooLate c_Twice c_TooMuch) : FnOk P w K mg base CX0 1 f fd ["_law_script", "_law_k"] (spAt K) := by
  refine F.ok scLAt (fun vs H Q E h => ?_) (fun cdv A outer s H vs Q E hr h => ?_)
  · obtain ⟨a, ns, k, rfl, hS, hl, q⟩ := h
    rfl
  · obtain ⟨a, ns, k, rfl, hS, hl, q⟩ := h
    refine ⟨_, (pss_cons (ps_if (pt_cmpR (op_eqL hr.units0) (pv 0) (pe_lst pa_nil) (nomark _)) (pss_one (ps_ret pe_int)) pss_nil)
      (pss_one (ps_ret (pe_op op_add (pe_ix (ix_listK K rfl) (pv 0) (pe_op op_mod (pv 1) (pe_callB (cb_lenK K rfl) (by rfl) T.b_len PySem.boot_len (pa_cons (pv 0) pa_nil))) (fun _ _ => rfl)) (pe_op op_mul pe_int (pe_op op_fdivB (pv 1) (pe_callB (cb_lenK K rfl) (by rfl) T.b_len PySem.boot_len (pa_cons (pv 0) pa_nil)))))))), ?_⟩
    try dsimp only [cxOf]
    walk_at "rd"
    rename_i p hp
    refine rEqL_nil (xs := ns.map V.int) ((Same.new hp).seq hS) (.of upd_same) (r_bl ?_)
    have s1 : Same H (upd H p (.lst [])) := Same.new hp
    have hS1 := s1.seq hS
    refine ite2 (fun e => ?_) (fun e => ?_)
    · have e : ns = [] := by simpa using e
      have z : cell ns k = 0 := if_pos e
      have q' := q _ s1
      rw [z] at q'
      exact q'
    · have e : ¬ ns = [] := by simpa using e
      have hp0 : 0 < (ns.length : Int) := by
        cases ns with
        | nil => exact absurd rfl e
        | cons _ _ => simp only [List.length_cons]; omega
      have ll : ((ns.map V.int).length : Int) = (ns.length : Int) := by rw [List.length_map]
      have hm : 0 ≤ k % (ns.length : Int) := Int.emod_nonneg _ (by omega)
      have hm2 : k % (ns.length : Int) < (ns.length : Int) := Int.emod_lt_of_pos _ hp0
      walk_at "rd"
      rw [ll]
      refine r_ixL hS1 (atI_ints hm hm2) ?_
      walk_at "rd"
      · rw [ll]
        have z : cell ns k = ns.getD (k % (ns.length : Int)).toNat 0 + 31 * (k / (ns.length : Int)) := if_neg e
        have q' := q _ s1
        rw [z] at q'
        exact q'

theorem scLInt : FnScope ["_law_got"] ["_law_got"] (defScope sLInt) := ⟨rfl, rfl, rfl, by decide +kernel, rfl, by decide +kernel, by decide +kernel⟩
theorem ok_LInt {f : Addr} {fd : FuncData} {dV : Value} (F : FunD K "_law_int" "_law_int" sLInt f fd dV) (T : Txt K mg cB c_CostError c_Full c_NoClaim c_RoundOver c_TooLate c_Twice c_TooMuch) : FnOk P w K mg base CX0 1 f fd ["_law_got"] (spInt) := by
  refine F.ok scLInt (fun vs H Q E h => ?_) (fun cdv A outer s H vs Q E hr h => ?_)
  · obtain ⟨i, rfl, q⟩ := h
    rfl
  · obtain ⟨i, rfl, q⟩ := h
    refine ⟨_, (pss_one (ps_ret (pe_and (pe_callB call_isi (by rfl) T.b_isinstance PyProof.Rows.boot_isinstance (pa_cons (pv 0) (pa_cons (pe_bltn (by rfl) T.b_int PyProof.Rows.boot_int (v := .ty "int") rfl) pa_nil))) (pe_one (pe_not (pe_callB call_isi (by rfl) T.b_isinstance PyProof.Rows.boot_isinstance (pa_cons (pv 0) (pa_cons (pe_bltn (by rfl) T.b_bool PyProof.Rows.boot_bool (v := .ty "bool") rfl) pa_nil)))))))), ?_⟩
    try dsimp only [cxOf]
    walk_at "rd"
    exact q

theorem scLInts : FnScope ["_law_got", "_law_due", "_law_k"] ["_law_got", "_law_due"] (defScope sLInts) := ⟨rfl, rfl, rfl, by decide +kernel, rfl, by decide +kernel, by decide +kernel⟩
theorem ok_LInts {f : Addr} {fd : FuncData} {dV : Value} (F : FunD K "_law_ints" "_law_ints" sLInts f fd dV) (T : Txt K mg cB c_CostError c_Full c_NoClaim c_RoundOver c_TooLate c_Twice c_TooMuch) (GLInt : Fn P w K mg base "_law_int" 1 ["_law_got"] (spInt)) : FnOk P w K mg base CX0 2 f fd ["_law_got", "_law_due"] (spIntsT K) := by
  refine F.ok scLInts (fun vs H Q E h => ?_) (fun cdv A outer s H vs Q E hr h => ?_)
  · obtain ⟨p, q1, ns, rfl, hp, hq, hn, q⟩ := h
    rfl
  · obtain ⟨p, q1, ns, rfl, hp, hq, hn, q⟩ := h
    refine ⟨_, (pss_cons (ps_if (pt_cmpR op_ne (pe_callB (cb_lenK K rfl) (by rfl) T.b_len PySem.boot_len (pa_cons (pv 0) pa_nil)) (pe_callB (cb_lenK K rfl) (by rfl) T.b_len PySem.boot_len (pa_cons (pv 1) pa_nil)) (nomark _)) (pss_one (ps_ret pe_bl)) pss_nil)
      (pss_cons (ps_for PassesOwn.never rfl (pi_range1 (by rfl) T.b_range (pa_cons (pe_callB (cb_lenK K rfl) (by rfl) T.b_len PySem.boot_len (pa_cons (pv 1) pa_nil)) pa_nil)) (pg_name (i := 2) scLInts.nd rfl (Or.inl rfl)) (pss_one (ps_if (PW.pt (pw_or (pt_not (pt_val (pe_fn GLInt hr (by decide) (by rfl) (pa_cons (pe_ix (ix_tupK K rfl) (pv 0) (pv 2) (fun _ _ => rfl)) pa_nil)))) (pw_or1 (pt_cmpR op_ne (pe_ix (ix_tupK K rfl) (pv 0) (pv 2) (fun _ _ => rfl)) (pe_ix (ix_tupK K rfl) (pv 1) (pv 2) (fun _ _ => rfl)) (nomark _))))) (pss_one (ps_ret pe_bl)) pss_nil)))
      (pss_one (ps_ret pe_bl)))), ?_⟩
    try dsimp only [cxOf]
    refine r_seq (r_ifS (r_test (r_op (r_cb (r_cons (r_var rfl (r_nil (r_lenT hp (r_cb (r_cons (r_var rfl (r_nil (r_lenT hq (r_NeI ⟨_, rfl, iteN (by simp) (r_next ?_)⟩))))))))))))))
    dsimp only
    refine r_seq (r_for (r_rng1 (r_cons (r_cb (r_cons (r_var rfl (r_nil (r_lenT hq (r_nil ⟨_, rfl, by rw [List.length_map]; omega, by rw [List.length_map]; omega, ?_⟩)))))))))
    refine for_range (fun i σ H2 => H2 = H ∧ ∃ v, σ = [some (.ref p), some (.ref q1), v]) ⟨rfl, _, rfl⟩ ?_ ?_
    · rintro i σ H2 hi ⟨rfl, v, rfl⟩
      have hi : i < ns.length := by rw [List.length_map] at hi; omega
      have ea : atI (List.map V.int ns) (0 + (i : Int)) = some (V.int ns[i]) := by
        rw [Int.zero_add]
        exact atI_nat (by simp [hi])
      refine r_name (r_ifS (r_or (r_not (r_tB (r_callX (r_cons (r_op (r_var rfl (r_var rfl (r_ixT hp ea (r_nil ?_)))))))))))
      refine r_int ⟨true, rfl, iteF ?_⟩
      refine r_test (r_op (r_op (r_var rfl (r_var rfl (r_ixT hp ea (r_op (r_var rfl (r_var rfl (r_ixT hq ea (r_NeI ⟨_, rfl, iteN (by simp) (r_next ⟨rfl, _, rfl⟩)⟩))))))))))
    · rintro σ H2 ⟨rfl, v, rfl⟩
      dsimp only
      exact r_ret (r_c q)

theorem scLSameBill : FnScope ["_law_got", "_law_due", "_law_k", "_law_one"] ["_law_got", "_law_due"] (defScope sLSameBill) := ⟨rfl, rfl, rfl, by decide +kernel, rfl, by decide +kernel, by decide +kernel⟩
theorem ok_LSameBill {f : Addr} {fd : FuncData} {dV : Value} (F : FunD K "_law_same_bill" "_law_same_bill" sLSameBill f fd dV) (T : Txt K mg cB c_CostError c_Full c_NoClaim c_RoundOver c_TooLate c_Twice c_TooMuch) (GLInts : Fn P w K mg base "_law_ints" 2 ["_law_got", "_law_due"] (spIntsT K)) : FnOk P w K mg base CX0 3 f fd ["_law_got", "_law_due"] (spSameBill) := by
  refine F.ok scLSameBill (fun vs H Q E h => ?_) (fun cdv A outer s H vs Q E hr h => ?_)
  · obtain ⟨p, q1, b, rfl, ⟨pl, pt, hp1, hp2, hp3⟩, ⟨ql, qt, hq1, hq2, hq3⟩, hn, q⟩ := h
    rfl
  · obtain ⟨p, q1, b, rfl, ⟨pl, pt, hp1, hp2, hp3⟩, ⟨ql, qt, hq1, hq2, hq3⟩, hn, q⟩ := h
    refine ⟨_, (pss_cons (ps_if (PW.pt (pw_or (pt_not (pt_val (pe_callB call_isiT (by rfl) T.b_isinstance PyProof.Rows.boot_isinstance (pa_cons (pv 0) (pa_cons (pe_bltn (by rfl) T.b_tuple PyProof.Rows.boot_tuple (v := .ty "tuple") rfl) pa_nil))))) (pw_or (pt_cmpR op_ne (pe_callB (cb_lenK K rfl) (by rfl) T.b_len PySem.boot_len (pa_cons (pv 0) pa_nil)) pe_int (nomark _)) (pw_or1 (pt_not (pt_val (pe_fn GLInts hr (by decide) (by rfl) (pa_cons (pe_slice sl_tup (pv 0) (po_some pe_int) po_none) (pa_cons (pe_slice sl_tup (pv 1) (po_some pe_int) po_none) pa_nil))))))))) (pss_one (ps_ret pe_bl)) pss_nil)
      (pss_cons (ps_if (PW.pt (pw_or (pt_not (pt_val (pe_callB call_isi (by rfl) T.b_isinstance PyProof.Rows.boot_isinstance (pa_cons (pe_ix (ix_tupK K rfl) (pv 0) pe_int (fun _ _ => rfl)) (pa_cons (pe_bltn (by rfl) T.b_list PyProof.Rows.boot_list (v := .ty "list") rfl) pa_nil))))) (pw_or1 (pt_cmpR op_ne (pe_callB (cb_lenK K rfl) (by rfl) T.b_len PySem.boot_len (pa_cons (pe_ix (ix_tupK K rfl) (pv 0) pe_int (fun _ _ => rfl)) pa_nil)) (pe_callB (cb_lenK K rfl) (by rfl) T.b_len PySem.boot_len (pa_cons (pe_ix (ix_tupK K rfl) (pv 1) pe_int (fun _ _ => rfl)) pa_nil)) (nomark _))))) (pss_one (ps_ret pe_bl)) pss_nil)
      (pss_cons (ps_for PassesOwn.never rfl (pi_range1 (by rfl) T.b_range (pa_cons (pe_callB (cb_lenK K rfl) (by rfl) T.b_len PySem.boot_len (pa_cons (pe_ix (ix_tupK K rfl) (pv 1) pe_int (fun _ _ => rfl)) pa_nil)) pa_nil)) (pg_name (i := 2) scLSameBill.nd rfl (Or.inl rfl)) (pss_cons (ps_set (i := 3) scLSameBill.nd rfl (Or.inl rfl) (pe_ix (ix_listK K rfl) (pe_ix (ix_tupK K rfl) (pv 0) pe_int (fun _ _ => rfl)) (pv 2) (fun _ _ => rfl)))
      (pss_cons (ps_if (PW.pt (pw_or (pt_not (pt_val (pe_callB call_isiT (by rfl) T.b_isinstance PyProof.Rows.boot_isinstance (pa_cons (pv 3) (pa_cons (pe_bltn (by rfl) T.b_tuple PyProof.Rows.boot_tuple (v := .ty "tuple") rfl) pa_nil))))) (pw_or (pt_cmpR op_ne (pe_callB (cb_lenK K rfl) (by rfl) T.b_len PySem.boot_len (pa_cons (pv 3) pa_nil)) pe_int (nomark _)) (pw_or1 (pt_not (pt_val (pe_callB call_isi (by rfl) T.b_isinstance PyProof.Rows.boot_isinstance (pa_cons (pe_ix (ix_tupK K rfl) (pv 3) pe_int (fun _ _ => rfl)) (pa_cons (pe_bltn (by rfl) T.b_str PyProof.Rows.boot_str (v := .ty "str") rfl) pa_nil))))))))) (pss_one (ps_ret pe_bl)) pss_nil)
      (pss_one (ps_if (PW.pt (pw_or (pt_not (pt_val (pe_fn GLInts hr (by decide) (by rfl) (pa_cons (pe_slice sl_tup (pv 3) po_none (po_some pe_int)) (pa_cons (pe_slice sl_tup (pe_ix (ix_listK K rfl) (pe_ix (ix_tupK K rfl) (pv 1) pe_int (fun _ _ => rfl)) (pv 2) (fun _ _ => rfl)) po_none (po_some pe_int)) pa_nil))))) (pw_or1 (pt_cmpR op_ne (pe_ix (ix_tupK K rfl) (pv 3) pe_int (fun _ _ => rfl)) (pe_ix (ix_tupK K rfl) (pe_ix (ix_listK K rfl) (pe_ix (ix_tupK K rfl) (pv 1) pe_int (fun _ _ => rfl)) (pv 2) (fun _ _ => rfl)) pe_int (fun _ _ => rfl)) (nomark _))))) (pss_one (ps_ret pe_bl)) pss_nil)))))
      (pss_one (ps_ret pe_bl))))), ?_⟩
    try dsimp only [cxOf]
    refine r_seq (r_ifS (r_or (r_not (r_tB (r_cb (r_cons (r_var rfl (r_cons (r_c (r_nil (r_isiTT (.of hp1) ⟨_, rfl, iteF ?_⟩)))))))))))
    refine r_or (r_test (r_op (r_cb (r_cons (r_var rfl (r_nil (r_lenT (.of hp1) (r_c (r_NeI ⟨_, rfl, iteN (by simp) ?_⟩)))))))))
    refine r_not (r_tB (r_callX (r_cons (r_sl (r_var rfl (r_part (r_c (r_exI (r_noPart ?_)))))))))
    refine r_slT (ys := [.int b.borne, .int b.charged, .int b.paid, .int b.due]) (.of hp1) (show ¬ (HT.sIx 5 0 (some 1) = 0 ∧ HT.sIx 5 5 none = 5) by decide) rfl fun t1 nt1 => ?_
    have s1 := Same.new (o := .tup [V.int b.borne, V.int b.charged, V.int b.paid, V.int b.due]) nt1
    have h1 := upd_at (o := .tup [V.int b.borne, V.int b.charged, V.int b.paid, V.int b.due]) nt1
    generalize upd H t1 (.tup [V.int b.borne, V.int b.charged, V.int b.paid, V.int b.due]) = H1 at s1 h1 ⊢
    refine r_cons (r_sl (r_var rfl (r_part (r_c (r_exI (r_noPart ?_))))))
    refine r_slT (ys := [.int b.borne, .int b.charged, .int b.paid, .int b.due]) (.of (s1 _ _ hq1)) (show ¬ (HT.sIx 5 0 (some 1) = 0 ∧ HT.sIx 5 5 none = 5) by decide) rfl fun t2 nt2 => ?_
    have s2' := Same.new (o := .tup [V.int b.borne, V.int b.charged, V.int b.paid, V.int b.due]) nt2
    have h2 := upd_at (o := .tup [V.int b.borne, V.int b.charged, V.int b.paid, V.int b.due]) nt2
    have h1 := s2' _ _ h1
    have s2 := s1.trans s2'
    generalize upd H1 t2 (.tup [V.int b.borne, V.int b.charged, V.int b.paid, V.int b.due]) = H2 at s2 h1 h2 ⊢
    refine r_nil ⟨t1, t2, [b.borne, b.charged, b.paid, b.due], rfl, .of h1, .of h2, by show 4 ≤ 1000; decide, ⟨_, rfl, iteF (r_next ?_)⟩⟩
    dsimp only
    have hp1 := s2 _ _ hp1
    have hp2 := s2 _ _ hp2
    have hq1 := s2 _ _ hq1
    have hq2 := s2 _ _ hq2
    have lp := hp3.1
    have lq := hq3.1
    refine r_seq (r_ifS (r_or (r_not (r_tB (r_cb (r_cons (r_op (r_var rfl (r_c (r_ixT (.of hp1) rfl (r_cons (r_c (r_nil (r_isiList hp2 ⟨_, rfl, iteF ?_⟩))))))))))))))
    refine r_test (r_op (r_cb (r_cons (r_op (r_var rfl (r_c (r_ixT (.of hp1) rfl (r_nil (r_lenL (.of hp2) (r_cb (r_cons (r_op (r_var rfl (r_c (r_ixT (.of hq1) rfl (r_nil (r_lenL (.of hq2) (r_NeI ⟨_, rfl, ?_⟩))))))))))))))))))
    rw [List.length_map, List.length_map, lp, lq]
    refine iteN (by simp) (r_next ?_)
    dsimp only
    refine r_seq (r_for (r_rng1 (r_cons (r_cb (r_cons (r_op (r_var rfl (r_c (r_ixT (.of hq1) rfl (r_nil (r_lenL (.of hq2) (r_nil ⟨_, rfl, by rw [List.length_map]; omega, by rw [List.length_map]; omega, ?_⟩))))))))))))
    refine for_range (fun i σ H3 => Same H2 H3 ∧ ∃ v w, σ = [some (.ref p), some (.ref q1), v, w]) ⟨Same.refl _, _, _, rfl⟩ ?_ ?_
    · rintro i σ H3 hi ⟨s3, v, w, rfl⟩
      have hi : i < b.rows.length := by rw [List.length_map] at hi; omega
      have hip : i < pt.length := by omega
      have hiq : i < qt.length := by omega
      have eap : atI (List.map V.ref pt) (0 + (i : Int)) = some (V.ref pt[i]) := by rw [Int.zero_add]; exact atI_nat (by simp [hip])
      have eaq : atI (List.map V.ref qt) (0 + (i : Int)) = some (V.ref qt[i]) := by rw [Int.zero_add]; exact atI_nat (by simp [hiq])
      have kp : H3 pt[i] = some (.tup [.int b.rows[i].1, .int b.rows[i].2.1, .str b.rows[i].2.2]) := s3 _ _ (s2 _ _ (hp3.2 i _ _ (by simp [hip]) (by simp [hi])))
      have kq : H3 qt[i] = some (.tup [.int b.rows[i].1, .int b.rows[i].2.1, .str b.rows[i].2.2]) := s3 _ _ (s2 _ _ (hq3.2 i _ _ (by simp [hiq]) (by simp [hi])))
      generalize b.rows[i] = x at kp kq
      obtain ⟨x1, x2, x3⟩ := x
      have gp1 := s3 _ _ hp1
      have gp2 := s3 _ _ hp2
      have gq1 := s3 _ _ hq1
      have gq2 := s3 _ _ hq2
      refine r_name ?_
      dsimp only
      refine r_seq (r_asg (r_op (r_op (r_var rfl (r_c (r_ixT (.of gp1) rfl (r_var rfl (r_ixL (.of gp2) eap (r_name ?_)))))))))
      dsimp only
      refine r_seq (r_ifS (r_or (r_not (r_tB (r_cb (r_cons (r_var rfl (r_cons (r_c (r_nil (r_isiTT (.of kp) ⟨_, rfl, iteF ?_⟩)))))))))))
      refine r_or (r_test (r_op (r_cb (r_cons (r_var rfl (r_nil (r_lenT (.of kp) (r_c (r_NeI ⟨_, rfl, iteN (by simp) ?_⟩)))))))))
      refine r_not (r_tB (r_cb (r_cons (r_op (r_var rfl (r_c (r_ixT (.of kp) rfl (r_cons (r_c (r_nil (r_isiStr ⟨_, rfl, iteF (r_next ?_)⟩)))))))))))
      dsimp only
      refine r_ifS (r_or (r_not (r_tB (r_callX (r_cons (r_sl (r_var rfl (r_noPart (r_part (r_c (r_exI ?_)))))))))))
      refine r_slT (ys := [.int x1, .int x2]) (.of kp) (show ¬ (HT.sIx 3 0 none = 0 ∧ HT.sIx 3 3 (some 2) = 3) by decide) rfl fun t3 nt3 => ?_
      have u1 := Same.new (o := .tup [V.int x1, V.int x2]) nt3
      have g3 := upd_at (o := .tup [V.int x1, V.int x2]) nt3
      generalize upd H3 t3 (.tup [V.int x1, V.int x2]) = H4 at u1 g3 ⊢
      refine r_cons (r_sl (r_op (r_op (r_var rfl (r_c (r_ixT (.of (u1 _ _ gq1)) rfl (r_var rfl (r_ixL (.of (u1 _ _ gq2)) eaq (r_noPart (r_part (r_c (r_exI ?_))))))))))))
      refine r_slT (ys := [.int x1, .int x2]) (.of (u1 _ _ kq)) (show ¬ (HT.sIx 3 0 none = 0 ∧ HT.sIx 3 3 (some 2) = 3) by decide) rfl fun t4 nt4 => ?_
      have u2 := Same.new (o := .tup [V.int x1, V.int x2]) nt4
      have g4 := upd_at (o := .tup [V.int x1, V.int x2]) nt4
      have u12 := u1.trans u2
      have g3 := u2 _ _ g3
      generalize upd H4 t4 (.tup [V.int x1, V.int x2]) = H5 at u12 g3 g4 ⊢
      refine r_nil ⟨t3, t4, [x1, x2], rfl, .of g3, .of g4, by show 2 ≤ 1000; decide, ⟨_, rfl, iteF ?_⟩⟩
      refine r_test (r_op (r_op (r_var rfl (r_c (r_ixT (.of (u12 _ _ kp)) rfl ?_)))))
      refine r_op (r_op (r_op (r_var rfl (r_c (r_ixT (.of (u12 _ _ gq1)) rfl (r_var rfl (r_ixL (.of (u12 _ _ gq2)) eaq (r_c (r_ixT (.of (u12 _ _ kq)) rfl (r_NeS ⟨_, rfl, iteN (by simp) (r_next ?_)⟩))))))))))
      exact ⟨s3.trans u12, _, _, rfl⟩
    · rintro σ H3 ⟨s3, v, w, rfl⟩
      dsimp only
      exact r_ret (r_c (q _ (s2.trans s3)))

theorem scLCoins : FnScope ["_law_cell"] ["_law_cell"] (defScope sLCoins) := ⟨rfl, rfl, rfl, by decide +kernel, rfl, by decide +kernel, by decide +kernel⟩
theorem ok_LCoins {f : Addr} {fd : FuncData} {dV : Value} (F : FunD K "_law_coins" "_law_coins" sLCoins f fd dV) (T : Txt K mg cB c_CostError c_Full c_NoClaim c_RoundOver c_TooLate c_Twice c_TooMuch) : FnOk P w K mg base CX0 1 f fd ["_law_cell"] (spCoinsL) := by
  refine F.ok scLCoins (fun vs H Q E h => ?_) (fun cdv A outer s H vs Q E hr h => ?_)
  · obtain ⟨c, rfl, q⟩ := h
    rfl
  · obtain ⟨c, rfl, q⟩ := h
    refine ⟨_, (pss_one (ps_ret (pe_ix (ix_listK K rfl) (pe_lst (pa_cons (pe_op op_mod (pe_op op_fdivB (pv 0) pe_int) pe_int) (pa_cons (pe_op op_mod (pe_op op_fdivB (pv 0) pe_int) pe_int) (pa_cons (pe_op op_mod (pe_op op_fdivB (pv 0) pe_int) pe_int) (pa_cons pe_int pa_nil))))) (pe_op op_mod (pv 0) pe_int) (fun _ _ => rfl)))), ?_⟩
    try dsimp only [cxOf]
    refine r_ret (r_op (r_lst (r_cons (r_op (r_op (r_var rfl (r_c (r_I (show CDivB c 4 from ⟨by decide, by decide⟩) (r_c (r_I (show (0 : Int) < 9 by decide) ?_))))))))))
    refine r_cons (r_op (r_op (r_var rfl (r_c (r_I (show CDivB c 4 from ⟨by decide, by decide⟩) (r_c (r_I (show (0 : Int) < 1000 by decide) ?_)))))))
    refine r_cons (r_op (r_op (r_var rfl (r_c (r_I (show CDivB c 4 from ⟨by decide, by decide⟩) (r_c (r_I (show (0 : Int) < 9999999999 by decide) ?_)))))))
    refine r_cons (r_c (r_nil ⟨by show 4 ≤ sizeLine; decide, fun l nl => ?_⟩))
    refine r_op (r_var rfl (r_c (r_I (show (0 : Int) < 4 by decide) ?_)))
    refine r_ixL (.of upd_same) (atI4 (by omega) (by omega)) (q _ _ (Same.new nl) ?_)
    have : (c % 4).toNat = 0 ∨ (c % 4).toNat = 1 ∨ (c % 4).toNat = 2 ∨ (c % 4).toNat = 3 := by omega
    rcases this with e | e | e | e <;> rw [e]
    · show 0 ≤ c / 4 % 9; omega
    · show 0 ≤ c / 4 % 1000; omega
    · show 0 ≤ c / 4 % 9999999999; omega
    · show (0 : Int) ≤ 9999999999; decide

theorem scLaw : FnScope ["_law_script", "_law_many", "_law_book", "_law_side", "_law_coins_here", "_law_paid", "_law_gaps", "_law_days", "_law_first", "_law_kind", "_law_row", "_law_whole", "_law_brought", "_law_one", "_law_due"] ["_law_script"] (defScope sLaw) := ⟨rfl, rfl, rfl, by decide +kernel, rfl, by decide +kernel, by decide +kernel⟩
theorem ok_Law {f : Addr} {fd : FuncData} {dV : Value} (F : FunD K "law" "law" sLaw f fd dV) (T : Txt K mg cB c_CostError c_Full c_NoClaim c_RoundOver c_TooLate c_Twice c_TooMuch) (GMk : MkF P w K mg base cB 1 ["self", "sides", "court", "speakers"] [] (spInitU K cB)) (GBookBillD : MtF P w K mg base CX0 cB "bill" 7 ["self", "side", "day", "mark"] [.non] (spBill cB)) (GBookClaim : MtF P w K mg base (CX1 P w) cB "claim" 7 ["self", "day", "claim", "asker", "answerer", "worth"] [] (spClaimU cB [c_Full, c_NoClaim, c_RoundOver, c_TooLate, c_Twice, c_TooMuch])) (GBookDun : MtF P w K mg base (CX1 P w) cB "dun" 7 ["self", "day", "side"] [] (spDunU cB [c_Full, c_NoClaim, c_RoundOver, c_TooLate, c_Twice, c_TooMuch])) (GBookPay : MtF P w K mg base (CX1 P w) cB "pay" 7 ["self", "day", "side", "person", "coins"] [] (spPayU cB [c_Full, c_NoClaim, c_RoundOver, c_TooLate, c_Twice, c_TooMuch])) (GBookStepD : MtF P w K mg base (CX1 P w) cB "step" 7 ["self", "day", "turn", "side", "kind", "many", "laid"] [.str "none"] (spStepU cB [c_Full, c_NoClaim, c_RoundOver, c_TooLate, c_Twice, c_TooMuch])) (GLAt : Fn P w K mg base "_law_at" 1 ["_law_script", "_law_k"] (spAt K)) (GLCoins : Fn P w K mg base "_law_coins" 1 ["_law_cell"] (spCoinsL)) (GLInt : Fn P w K mg base "_law_int" 1 ["_law_got"] (spInt)) (GLSameBill : Fn P w K mg base "_law_same_bill" 3 ["_law_got", "_law_due"] (spSameBill)) : FnOk P w K mg base CX0 8 f fd ["_law_script"] (spLaw K) := by
  refine F.ok scLaw (fun vs H Q E h => ?_) (fun cdv A outer s H vs Q E hr h => ?_)
  · obtain ⟨a, ns, rfl, hS, hl, q⟩ := h
    rfl
  · obtain ⟨a, ns, rfl, hS, hl, q⟩ := h
    refine ⟨_, (pss_cons (ps_set (i := 1) scLaw.nd rfl (Or.inl rfl) (pe_op op_add pe_int (pe_op op_mod (pe_fn GLAt hr (by decide) (by rfl) (pa_cons (pv 0) (pa_cons pe_int pa_nil))) pe_int)))
      (pss_cons (ps_set (i := 2) scLaw.nd rfl (Or.inl rfl) (pe_mk GMk hr (by decide) (by rfl) T.mgC (pa_cons (pe_op op_rep (pe_lst (pa_cons pe_int pa_nil)) (pv 1)) (pa_cons (pe_lst (pa_cons (pe_tup (pa_cons pe_int (pa_cons pe_int pa_nil))) pa_nil)) (pa_cons (pe_lst (pa_cons (pe_tup (pa_cons pe_int (pa_cons pe_int pa_nil))) pa_nil)) pa_nil)))))
      (pss_cons (ps_set (i := 3) scLaw.nd rfl (Or.inl rfl) (pe_op op_mod (pe_fn GLAt hr (by decide) (by rfl) (pa_cons (pv 0) (pa_cons pe_int pa_nil))) (pv 1)))
      (pss_cons (ps_set (i := 4) scLaw.nd rfl (Or.inl rfl) (pe_fn GLCoins hr (by decide) (by rfl) (pa_cons (pe_fn GLAt hr (by decide) (by rfl) (pa_cons (pv 0) (pa_cons pe_int pa_nil))) pa_nil)))
      (pss_cons (ps_set (i := 5) scLaw.nd rfl (Or.inl rfl) (pe_fn GLCoins hr (by decide) (by rfl) (pa_cons (pe_fn GLAt hr (by decide) (by rfl) (pa_cons (pv 0) (pa_cons pe_int pa_nil))) pa_nil)))
      (pss_cons (ps_if (pt_cmpR op_eq (pe_op op_mod (pe_op op_fdivB (pe_fn GLAt hr (by decide) (by rfl) (pa_cons (pv 0) (pa_cons pe_int pa_nil))) pe_int) pe_int) pe_int (nomark _)) (pss_one (ps_set (i := 4) scLaw.nd rfl (Or.inl rfl) (pe_ix (ix_listK K rfl) (pe_lst (pa_cons pe_int (pa_cons pe_int (pa_cons pe_int (pa_cons pe_int pa_nil))))) (pe_op op_mod (pe_op op_fdivB (pe_fn GLAt hr (by decide) (by rfl) (pa_cons (pv 0) (pa_cons pe_int pa_nil))) pe_int) pe_int) (fun _ _ => rfl)))) pss_nil)
      (pss_cons (ps_comp ["_law_script", "_law_many", "_law_book", "_law_side", "_law_coins_here", "_law_paid", "_law_gaps", "_law_days", "_law_first", "_law_kind", "_law_row", "_law_whole", "_law_brought", "_law_one", "_law_due"] (defScope sLaw) 1 [0] ["_law_k", "_law_script"] (i := 6) scLaw.nd rfl rfl (by decide +kernel) (pi_range1 (by rfl) T.b_range (pa_cons pe_int pa_nil)) (fun _ _ _ _ => (pg_name (i := 0) (show List.Nodup (["_law_k", "_law_script"] : List Str) by decide +kernel) rfl (Or.inl rfl))) (fun _ _ _ _ => pts_nil) (fun _ _ _ _ => (pe_op op_mod (pe_op op_fdivB (pe_fn GLAt hr (by decide) (by rfl) (pa_cons (pv 1) (pa_cons (pe_op op_add pe_int (pv 0)) pa_nil))) pe_int) (pe_ix (ix_listK K rfl) (pe_lst (pa_cons pe_int (pa_cons pe_int pa_nil))) (pe_op op_mod (pe_fn GLAt hr (by decide) (by rfl) (pa_cons (pv 1) (pa_cons (pe_op op_add pe_int (pv 0)) pa_nil))) pe_int) (fun _ _ => rfl)))) (by decide +kernel) (by decide +kernel) (by decide +kernel))
      (pss_cons (ps_if (pt_cmpR op_eq (pe_op op_mod (pe_op op_fdivB (pe_fn GLAt hr (by decide) (by rfl) (pa_cons (pv 0) (pa_cons pe_int pa_nil))) pe_int) pe_int) pe_int (nomark _)) (pss_one (ps_set (i := 6) scLaw.nd rfl (Or.inl rfl) (pe_lst (pa_cons (pe_ix (ix_listK K rfl) (pv 6) pe_int (fun _ _ => rfl)) (pa_cons (pe_ix (ix_listK K rfl) (pv 6) pe_int (fun _ _ => rfl)) (pa_cons pe_int (pa_cons pe_int pa_nil))))))) pss_nil)
      (pss_cons (ps_set (i := 7) scLaw.nd rfl (Or.inl rfl) (pe_lst (pa_cons (pe_ix (ix_listK K rfl) (pv 6) pe_int (fun _ _ => rfl)) (pa_cons (pe_op op_add (pe_ix (ix_listK K rfl) (pv 6) pe_int (fun _ _ => rfl)) (pe_ix (ix_listK K rfl) (pv 6) pe_int (fun _ _ => rfl))) (pa_cons (pe_op op_add (pe_op op_add (pe_ix (ix_listK K rfl) (pv 6) pe_int (fun _ _ => rfl)) (pe_ix (ix_listK K rfl) (pv 6) pe_int (fun _ _ => rfl))) (pe_ix (ix_listK K rfl) (pv 6) pe_int (fun _ _ => rfl))) (pa_cons (pe_callB (cb_sumK K rfl rfl) (by rfl) T.b_sum PyProof.Rows.boot_sum (pa_cons (pv 6) pa_nil)) pa_nil))))))
      (pss_cons (ps_set (i := 8) scLaw.nd rfl (Or.inl rfl) (pe_op op_mod (pe_fn GLAt hr (by decide) (by rfl) (pa_cons (pv 0) (pa_cons pe_int pa_nil))) pe_int))
      (pss_cons (ps_set (i := 9) scLaw.nd rfl (Or.inl rfl) (pe_op op_mod (pe_op op_fdivB (pe_fn GLAt hr (by decide) (by rfl) (pa_cons (pv 0) (pa_cons pe_int pa_nil))) pe_int) pe_int))
      (pss_cons (ps_expr (pe_mt GBookClaim T.cl hr (by decide) passN (pv 2) (pa_cons pe_int (pa_cons pe_int (pa_cons pe_int (pa_cons pe_int (pa_cons pe_int pa_nil)))))))
      (pss_cons (ps_if (PW.pt (pw_and (pt_cmpR op_eq (pv 8) pe_int (nomark _)) (pw_and1 (pt_cmpR op_ne (pv 9) pe_int (nomark _))))) (pss_one (ps_expr (pe_mt GBookDun T.cl hr (by decide) passN (pv 2) (pa_cons (pe_ix (ix_listK K rfl) (pv 7) pe_int (fun _ _ => rfl)) (pa_cons (pv 3) pa_nil))))) pss_nil)
      (pss_cons (ps_set (i := 10) scLaw.nd rfl (Or.inl rfl) (pe_mt GBookStepD T.cl hr (by decide) passN (pv 2) (pa_cons (pe_ix (ix_listK K rfl) (pv 7) (pe_op op_sub pe_int (pv 8)) (fun _ _ => rfl)) (pa_cons pe_int (pa_cons (pv 3) (pa_cons pe_str (pa_cons (pv 4) pa_nil)))))))
      (pss_cons (ps_if (PW.pt (pw_and (pt_cmpR op_eq (pv 8) pe_int (nomark _)) (pw_and1 (pt_cmpR op_ne (pv 9) pe_int (nomark _))))) (pss_one (ps_expr (pe_mt GBookDun T.cl hr (by decide) passN (pv 2) (pa_cons (pe_ix (ix_listK K rfl) (pv 7) pe_int (fun _ _ => rfl)) (pa_cons (pv 3) pa_nil))))) pss_nil)
      (pss_cons (ps_expr (pe_mt GBookPay T.cl hr (by decide) passN (pv 2) (pa_cons (pe_ix (ix_listK K rfl) (pv 7) pe_int (fun _ _ => rfl)) (pa_cons (pv 3) (pa_cons pe_int (pa_cons (pv 5) pa_nil))))))
      (pss_cons (ps_if (pt_cmpR op_eq (pv 9) pe_int (nomark _)) (pss_one (ps_expr (pe_mt GBookDun T.cl hr (by decide) passN (pv 2) (pa_cons (pe_ix (ix_listK K rfl) (pv 7) pe_int (fun _ _ => rfl)) (pa_cons (pv 3) pa_nil))))) pss_nil)
      (pss_cons (ps_if (PW.pt (pw_or (pt_not (pt_val (pe_fn GLInt hr (by decide) (by rfl) (pa_cons (pv 10) pa_nil)))) (pw_or1 (pt_cmpR op_ne (pv 10) (pe_op op_add pe_int (pe_callTy cb_int (by rfl) T.b_int PyProof.Rows.boot_int (pa_cons (pe_and (pe_cmpR op_eq (pv 8) pe_int (nomark _)) (pe_one (pe_cmpR op_ne (pv 9) pe_int (nomark _)))) pa_nil))) (nomark _))))) (pss_one (ps_ret pe_bl)) pss_nil)
      (pss_cons (ps_set (i := 11) scLaw.nd rfl (Or.inl rfl) (pe_op op_add (pe_op op_mul (pv 4) (pe_op op_sub (pe_ix (ix_listK K rfl) (pv 7) pe_int (fun _ _ => rfl)) (pe_ix (ix_listK K rfl) (pv 7) pe_int (fun _ _ => rfl)))) (pe_op op_mul (pe_callB (cb_max rfl) (by rfl) T.b_max PyProof.Rows.boot_max (pa_cons pe_int (pa_cons (pe_op op_sub (pv 4) (pv 5)) pa_nil))) (pe_op op_sub (pe_ix (ix_listK K rfl) (pv 7) pe_int (fun _ _ => rfl)) (pe_ix (ix_listK K rfl) (pv 7) pe_int (fun _ _ => rfl))))))
      (pss_cons (ps_set (i := 12) scLaw.nd rfl (Or.inl rfl) (pe_ix (ix_listK K rfl) (pe_lst (pa_cons (pe_op op_fdivB (pe_op op_mul (pv 11) pe_int) pe_int) (pa_cons pe_int pa_nil))) (pe_callTy cb_int (by rfl) T.b_int PyProof.Rows.boot_int (pa_cons (pe_cmpR op_eq (pv 9) pe_int (nomark _)) pa_nil)) (fun _ _ => rfl)))
      (pss_cons (ps_for PassesOwn.never rfl (pi_range1 (by rfl) T.b_range (pa_cons (pv 1) pa_nil)) (pg_name (i := 13) scLaw.nd rfl (Or.inl rfl)) (pss_cons (ps_set (i := 14) scLaw.nd rfl (Or.inl rfl) (pe_tup (pa_cons (pe_lst pa_nil) (pa_cons pe_int (pa_cons pe_int (pa_cons pe_int (pa_cons pe_int pa_nil)))))))
      (pss_cons (ps_if (pt_cmpR op_eq (pv 13) (pv 3) (nomark _)) (pss_one (ps_set (i := 14) scLaw.nd rfl (Or.inl rfl) (pe_tup (pa_cons (pe_op op_rep (pe_lst (pa_cons (pe_tup (pa_cons (pv 10) (pa_cons (pv 4) (pa_cons pe_str pa_nil)))) pa_nil)) (pe_callTy cb_int (by rfl) T.b_int PyProof.Rows.boot_int (pa_cons (pe_cmpR op_gt (pv 4) pe_int (nomark _)) pa_nil))) (pa_cons (pv 4) (pa_cons (pv 12) (pa_cons (pv 5) (pa_cons (pe_op op_sub (pe_op op_add (pv 4) (pv 12)) (pv 5)) pa_nil)))))))) pss_nil)
      (pss_one (ps_if (pt_not (pt_val (pe_fn GLSameBill hr (by decide) (by rfl) (pa_cons (pe_mt GBookBillD T.cl hr (by decide) pass0 (pv 2) (pa_cons (pv 13) (pa_cons (pe_ix (ix_listK K rfl) (pv 7) pe_int (fun _ _ => rfl)) pa_nil))) (pa_cons (pv 14) pa_nil))))) (pss_one (ps_ret pe_bl)) pss_nil)))))
      (pss_one (ps_ret pe_bl))))))))))))))))))))))), ?_⟩
    try dsimp only [cxOf]
    refine r_seq (r_asg (r_op (r_c (r_op (r_callX (r_cons (r_var rfl (r_cons (r_c (r_nil (r_at hS hl fun HA sA => r_c (r_I (show (0 : Int) < 7 by decide) (r_I0 (r_name ?_))))))))))))))
    dsimp only
    obtain ⟨many, em, hm2, hm8⟩ : ∃ many : Nat, 2 + cell ns 0 % 7 = ((many : Nat) : Int) ∧ 2 ≤ many ∧ many ≤ 8 := ⟨(2 + cell ns 0 % 7).toNat, by omega, by omega, by omega⟩
    rw [em]
    refine r_seq (r_asg (r_make ?_))
    refine r_cons (r_op (r_lst (r_cons (r_c (r_nil ⟨by show 1 ≤ sizeLine; decide, fun p0 np0 => r_var rfl ?_⟩)))))
    refine r_rep upd_same (by omega) (by omega) (by rw [List.length_singleton]; omega) fun p1 np1 => ?_
    have rep : (List.replicate ((many : Nat) : Int).toNat [V.int 3]).flatten = List.map V.int (List.replicate many 3) := by rw [Int.toNat_natCast]; simp
    rw [rep]
    have s01 := (Same.new (o := .lst [V.int 3]) np0).trans (Same.new (o := .lst (List.map V.int (List.replicate many 3))) np1)
    have c1 := upd_at (o := .lst (List.map V.int (List.replicate many 3))) np1
    generalize upd (upd HA p0 (.lst [V.int 3])) p1 (.lst (List.map V.int (List.replicate many 3))) = H1 at s01 c1 ⊢
    walk_at "rd"
    rename_i p2 np2 p3 np3 p4 np4 p5 np5
    refine fun b dx nb nd bd => ?_
    have c2 := Same.new (o := .lst [V.ref p4]) np5 _ _ (Same.new (o := .tup [V.int 9, V.int 77]) np4 _ _ (Same.new (o := .lst [V.ref p2]) np3 _ _ (upd_same (a := p2) (o := HO.tup [V.int 9, V.int 1001]) (H := H1))))
    have c3 := Same.new (o := .lst [V.ref p4]) np5 _ _ (Same.new (o := .tup [V.int 9, V.int 77]) np4 _ _ (upd_same (a := p3) (o := HO.lst [V.ref p2]) (H := upd H1 p2 (HO.tup [V.int 9, V.int 1001]))))
    have c4 := Same.new (o := .lst [V.ref p4]) np5 _ _ (upd_same (a := p4) (o := HO.tup [V.int 9, V.int 77]) (H := upd (upd H1 p2 (HO.tup [V.int 9, V.int 1001])) p3 (HO.lst [V.ref p2])))
    have s15 := (((Same.new (o := .tup [V.int 9, V.int 1001]) np2).trans (Same.new (o := .lst [V.ref p2]) np3)).trans (Same.new (o := .tup [V.int 9, V.int 77]) np4)).trans (Same.new (o := .lst [V.ref p4]) np5)
    have c5 := upd_at (o := .lst [V.ref p4]) np5
    generalize upd (upd (upd (upd H1 p2 (HO.tup [V.int 9, V.int 1001])) p3 (HO.lst [V.ref p2])) p4 (HO.tup [V.int 9, V.int 77])) p5 (HO.lst [V.ref p4]) = H5 at nb nd c2 c3 c4 c5 s15 ⊢
    have c1 := s15 _ _ c1
    have s5 := (sA.trans s01).trans s15
    have g5 : ∀ {x : Addr} {o : HO}, H5 x = some o → upd (upd H5 dx (.own b)) b (.ins cB dx []) x = some o := fun {x o} e => by
      rw [upd_ne (ne_of_none e nb), upd_ne (ne_of_none e nd)]
      exact e
    refine ⟨b, p1, p3, p5, dx, List.replicate many 3, [p2], [[9, 1001]], [p4], [[9, 77]], rfl, upd_same, .of (g5 c1), .of (g5 c3), TabIs.nil.snoc (g5 c2), .of (g5 c5), TabIs.nil.snoc (g5 c4), ne_of_none c1 nb, ne_of_none c3 nb, ne_of_none c5 nb, fun A0 H7 eb B0 fr kp => ⟨rfl, ?_⟩⟩
    subst eb
    have s57 : Same H5 H7 := fun x o e => kp x o (g5 e) (ne_of_none e nb)
    have s7 : Same H H7 := s5.trans s57
    have f5' : ∀ {x : Addr}, upd (upd H5 dx (.own A0.b)) A0.b (.ins cB dx []) x = none → H5 x = none := fun {x} e => by
      cases z : H5 x with
      | none => rfl
      | some o => rw [g5 z] at e; cases e
    have fr0 : ∀ x ∈ A0.all, H x = none := fun x hx => by
      by_cases e : x = A0.b
      · rw [e]; exact s5.nil nb
      · exact s5.nil (f5' (fr x hx e))
    have sU : ∀ {Ha Hb : Hp}, Same H Ha → SameU A0 Ha Hb → Same H Hb := fun {Ha Hb} s u x o e => u x o (s x o e) (fun z => by rw [fr0 x (by rw [z]; simp [BkA.all])] at e; cases e) (fun z => by rw [fr0 x (by rw [z]; simp [BkA.all])] at e; cases e) (fun z => by rw [fr0 x (by rw [z]; simp [BkA.all])] at e; cases e) (fun z => by rw [fr0 x (by rw [z]; simp [BkA.all])] at e; cases e)
    have B0 : BnAt cB H7 A0 ⟨List.replicate many 3, [[9, 1001]], [[9, 77]]⟩ [] := B0
    generalize hC0 : (⟨List.replicate many 3, [[9, 1001]], [[9, 77]]⟩ : BkC) = C0 at B0
    have hpl : C0.pl.length = many := by rw [← hC0]; simp
    refine r_name ?_
    dsimp only
    refine r_seq (r_asg (r_op (r_callX (r_cons (r_var rfl (r_cons (r_c (r_nil (r_at (s7.seq hS) hl fun H8 s8 => r_var rfl (r_I (show (0 : Int) < ((many : Nat) : Int) by omega) (r_name ?_)))))))))))
    dsimp only
    obtain ⟨sd, esd, hsd⟩ : ∃ sd : Nat, cell ns 1 % ((many : Nat) : Int) = ((sd : Nat) : Int) ∧ sd < many := by
      have h1 := Int.emod_nonneg (cell ns 1) (show ((many : Nat) : Int) ≠ 0 by omega)
      have h2 := Int.emod_lt_of_pos (cell ns 1) (show 0 < ((many : Nat) : Int) by omega)
      exact ⟨(cell ns 1 % ((many : Nat) : Int)).toNat, by omega, by omega⟩
    rw [esd]
    have t8 := s7.trans s8
    refine r_seq (r_asg (r_callX (r_cons (r_callX (r_cons (r_var rfl (r_cons (r_c (r_nil (r_at (t8.seq hS) hl fun H9 s9 => r_nil ?_))))))))))
    refine ⟨_, rfl, fun c0 H10 s10 hc0 => r_name ?_⟩
    dsimp only
    have t10 := (t8.trans s9).trans s10
    refine r_seq (r_asg (r_callX (r_cons (r_callX (r_cons (r_var rfl (r_cons (r_c (r_nil (r_at (t10.seq hS) hl fun H11 s11 => r_nil ?_))))))))))
    refine ⟨_, rfl, fun pd H12 s12 _ => r_name ?_⟩
    dsimp only
    have t12 := (t10.trans s11).trans s12
    have s7_12 := ((s8.trans s9).trans s10).trans (s11.trans s12)
    refine r_seq ?_
    refine' joinS (M := fun σ Hx => ∃ c : Int, 0 ≤ c ∧ σ = [some (.ref a), some (.int ((many : Nat) : Int)), some (.ref A0.b), some (.int ((sd : Nat) : Int)), some (.int c), some (.int pd), none, none, none, none, none, none, none, none, none] ∧ Same H12 Hx) ?a1 ?b1
    case a1 =>
      intro k
      refine r_ifS (r_test (r_op (r_op (r_op (r_callX (r_cons (r_var rfl (r_cons (r_c (r_nil (r_at (t12.seq hS) hl fun H13 s13 => ?_)))))))))))
      refine r_c (r_I (show CDivB (cell ns 1) 8 from ⟨by decide, by decide⟩) (r_c (r_I (show (0 : Int) < 3 by decide) (r_c (r_EqI ⟨_, rfl, ?_⟩)))))
      refine ite2 (fun _ => ?_) (fun _ => r_next (k _ _ ⟨c0, hc0, rfl, s13⟩))
      refine r_asg (r_op (r_lst (r_cons (r_c (r_cons (r_c (r_cons (r_c (r_cons (r_c (r_nil ⟨by show 4 ≤ sizeLine; decide, fun l nl => ?_⟩)))))))))))
      have sl := Same.new (o := .lst [V.int 7299, V.int 7300, V.int 7301, V.int 14599]) nl
      have hl4 := upd_at (o := .lst [V.int 7299, V.int 7300, V.int 7301, V.int 14599]) nl
      generalize upd H13 l (.lst [V.int 7299, V.int 7300, V.int 7301, V.int 14599]) = H14 at sl hl4 ⊢
      refine r_op (r_op (r_callX (r_cons (r_var rfl (r_cons (r_c (r_nil (r_at (((t12.trans s13).trans sl).seq hS) hl fun H15 s15 => ?_))))))))
      refine r_c (r_I (show CDivB (cell ns 2) 4 from ⟨by decide, by decide⟩) (r_c (r_I (show (0 : Int) < 4 by decide) ?_)))
      refine r_ixL (.of (s15 _ _ hl4)) (atI4 (by omega) (by omega)) (r_name (k _ _ ⟨_, ?_, rfl, (s13.trans sl).trans s15⟩))
      have : (cell ns 2 / 4 % 4).toNat = 0 ∨ (cell ns 2 / 4 % 4).toNat = 1 ∨ (cell ns 2 / 4 % 4).toNat = 2 ∨ (cell ns 2 / 4 % 4).toNat = 3 := by omega
      rcases this with e | e | e | e <;> rw [e] <;> decide
    case b1 =>
    rintro σ H16 ⟨c, hc, rfl, s16⟩
    dsimp only
    have t16 := t12.trans s16
    have s7_16 := s7_12.trans s16
    refine r_seq (r_asg (r_comp (r_rng1 (r_cons (r_c (r_nil ⟨4, rfl, by decide, by decide, fun D nD => ?_⟩))))))
    refine comp_rangeF (n := 4) (fun _ => true) (fun i => V.int (cell ns (4 + (i : Int)) / 2 % (([1501, 2] : List Int).getD (cell ns (4 + (i : Int)) % 2).toNat 0))) nD (by decide) (fun i H' q' hi sm k => r_tt (k _ (Same.refl _))) ?_ ?_
    · intro i H' q' hi _ sm k
      refine r_op (r_op (r_callX (r_cons (r_var rfl (r_cons (r_op (r_c (r_var rfl (r_I0 (r_nil (r_at ((t16.trans sm).seq hS) hl fun H17 s17 => ?_)))))))))))
      rw [Int.zero_add]
      refine r_c (r_I (show CDivB (cell ns (4 + (i : Int))) 2 from ⟨by decide, by decide⟩) ?_)
      refine r_op (r_lst (r_cons (r_c (r_cons (r_c (r_nil ⟨by show 2 ≤ sizeLine; decide, fun l nl => ?_⟩))))))
      have sl := Same.new (o := .lst [V.int 1501, V.int 2]) nl
      have hl2 := upd_at (o := .lst [V.int 1501, V.int 2]) nl
      generalize upd H17 l (.lst [V.int 1501, V.int 2]) = H18 at sl hl2 ⊢
      refine r_op (r_callX (r_cons (r_var rfl (r_cons (r_op (r_c (r_var rfl (r_I0 (r_nil (r_at ((((t16.trans sm).trans s17).trans sl).seq hS) hl fun H19 s19 => ?_))))))))))
      refine r_c (r_I (show (0 : Int) < 2 by decide) ?_)
      refine r_ixL (.of (s19 _ _ hl2)) (atI2 (by omega) (by omega)) (r_I ?_ (k _ ((s17.trans sl).trans s19)))
      have : (cell ns (4 + (i : Int)) % 2).toNat = 0 ∨ (cell ns (4 + (i : Int)) % 2).toNat = 1 := by omega
      rcases this with e | e <;> rw [e] <;> decide
    intro H20 s20 hD
    rw [List.filter_eq_self.mpr (fun _ _ => rfl)] at hD
    obtain ⟨g0, g1, g2, g3, hgD, hg0, hg1, hg2, hg3⟩ : ∃ g0 g1 g2 g3 : Int, H20 D = some (.lst [V.int g0, V.int g1, V.int g2, V.int g3]) ∧ (0 ≤ g0 ∧ g0 ≤ 1500) ∧ (0 ≤ g1 ∧ g1 ≤ 1500) ∧ (0 ≤ g2 ∧ g2 ≤ 1500) ∧ (0 ≤ g3 ∧ g3 ≤ 1500) := by
      have bb : ∀ x : Int, 0 ≤ cell ns x / 2 % (([1501, 2] : List Int).getD (cell ns x % 2).toNat 0) ∧ cell ns x / 2 % (([1501, 2] : List Int).getD (cell ns x % 2).toNat 0) ≤ 1500 := fun x => by
        have : (cell ns x % 2).toNat = 0 ∨ (cell ns x % 2).toNat = 1 := by omega
        rcases this with e | e <;> rw [e]
        · show 0 ≤ cell ns x / 2 % 1501 ∧ cell ns x / 2 % 1501 ≤ 1500; omega
        · show 0 ≤ cell ns x / 2 % 2 ∧ cell ns x / 2 % 2 ≤ 1500; omega
      exact ⟨_, _, _, _, hD, bb _, bb _, bb _, bb _⟩
    refine r_name ?_
    dsimp only
    have t20 := t16.trans s20
    have s7_20 := s7_16.trans s20
    refine r_seq ?_
    refine' joinS (M := fun σ Hx => ∃ (gl : Addr) (g2 g3 : Int), (0 ≤ g2 ∧ g2 ≤ 1500) ∧ (0 ≤ g3 ∧ g3 ≤ 1500) ∧ σ = [some (.ref a), some (.int ((many : Nat) : Int)), some (.ref A0.b), some (.int ((sd : Nat) : Int)), some (.int c), some (.int pd), some (.ref gl), none, none, none, none, none, none, none, none] ∧ Same H20 Hx ∧ Hx gl = some (.lst [V.int g0, V.int g1, V.int g2, V.int g3])) ?a2 ?b2
    case a2 =>
      intro k
      refine r_ifS (r_test (r_op (r_op (r_op (r_callX (r_cons (r_var rfl (r_cons (r_c (r_nil (r_at (t20.seq hS) hl fun H21 s21 => ?_)))))))))))
      refine r_c (r_I (show CDivB (cell ns 1) 8 from ⟨by decide, by decide⟩) (r_c (r_I (show (0 : Int) < 3 by decide) (r_c (r_EqI ⟨_, rfl, ?_⟩)))))
      refine ite2 (fun _ => ?_) (fun _ => r_next (k _ _ ⟨D, g2, g3, hg2, hg3, rfl, s21, s21 _ _ hgD⟩))
      refine r_asg (r_lst (r_cons (r_op (r_var rfl (r_c (r_ixL (.of (s21 _ _ hgD)) rfl (r_cons (r_op (r_var rfl (r_c (r_ixL (.of (s21 _ _ hgD)) rfl ?_)))))))))))
      refine r_cons (r_c (r_cons (r_c (r_nil ⟨by show 4 ≤ sizeLine; decide, fun l nl => r_name ?_⟩))))
      exact k _ _ ⟨l, 1, 0, by decide, by decide, rfl, s21.trans (Same.new nl), upd_same⟩
    case b2 =>
    rintro σ H22 ⟨gl, g2, g3, hg2, hg3, rfl, s22, hgl⟩
    dsimp only
    have t22 := t20.trans s22
    have s7_22 := s7_20.trans s22
    refine r_seq (r_asg (r_lst (r_cons (r_op (r_var rfl (r_c (r_ixL (.of hgl) rfl ?_)))))))
    refine r_cons (r_op (r_op (r_var rfl (r_c (r_ixL (.of hgl) rfl (r_op (r_var rfl (r_c (r_ixL (.of hgl) rfl (r_I0 ?_))))))))))
    refine r_cons (r_op (r_op (r_op (r_var rfl (r_c (r_ixL (.of hgl) rfl (r_op (r_var rfl (r_c (r_ixL (.of hgl) rfl (r_I0 (r_op (r_var rfl (r_c (r_ixL (.of hgl) rfl (r_I0 ?_))))))))))))))))
    refine r_cons (r_cb (r_cons (r_var rfl (r_nil (r_sum (ns := [g0, g1, g2, g3]) (.of hgl) ?_)))))
    refine r_nil ⟨by show 4 ≤ sizeLine; decide, fun dl ndl => r_name ?_⟩
    dsimp only
    have e3 : ([g0, g1, g2, g3] : List Int).sum = g0 + g1 + g2 + g3 := by simp; omega
    rw [e3]
    obtain ⟨d0, hd0⟩ : ∃ d0, d0 = g0 := ⟨_, rfl⟩
    obtain ⟨d1, hd1⟩ : ∃ d1, d1 = g0 + g1 := ⟨_, rfl⟩
    obtain ⟨d2, hd2⟩ : ∃ d2, d2 = g0 + g1 + g2 := ⟨_, rfl⟩
    obtain ⟨d3, hd3⟩ : ∃ d3, d3 = g0 + g1 + g2 + g3 := ⟨_, rfl⟩
    rw [← hd3, ← hd2, ← hd1, ← hd0]
    have b0 : 0 ≤ d0 ∧ d0 ≤ 1500 := by omega
    have b1 : d0 ≤ d1 ∧ d1 ≤ 3000 := by omega
    have b2 : d1 ≤ d2 ∧ d2 ≤ 4500 := by omega
    have b3 : d2 ≤ d3 ∧ d3 ≤ 6000 := by omega
    have sd1 := Same.new (o := .lst [V.int d0, V.int d1, V.int d2, V.int d3]) ndl
    have hdl := upd_at (o := .lst [V.int d0, V.int d1, V.int d2, V.int d3]) ndl
    generalize upd H22 dl (.lst [V.int d0, V.int d1, V.int d2, V.int d3]) = H23 at sd1 hdl ⊢
    have t23 := t22.trans sd1
    have s7_23 := s7_22.trans sd1
    clear hd0 hd1 hd2 hd3
    refine r_seq (r_asg (r_op (r_callX (r_cons (r_var rfl (r_cons (r_c (r_nil (r_at (t23.seq hS) hl fun H24 s24 => r_c (r_I (show (0 : Int) < 2 by decide) (r_name ?_)))))))))))
    dsimp only
    have t24 := t23.trans s24
    refine r_seq (r_asg (r_op (r_op (r_callX (r_cons (r_var rfl (r_cons (r_c (r_nil (r_at (t24.seq hS) hl fun H25 s25 => r_c (r_I (show CDivB (cell ns 8) 2 from ⟨by decide, by decide⟩) (r_c (r_I (show (0 : Int) < 9 by decide) (r_name ?_))))))))))))))
    dsimp only
    have t25 := t24.trans s25
    have hf01 : cell ns 8 % 2 = 0 ∨ cell ns 8 % 2 = 1 := by omega
    have hk8 : 0 ≤ cell ns 8 / 2 % 9 ∧ cell ns 8 / 2 % 9 ≤ 8 := by omega
    generalize cell ns 8 % 2 = fi at hf01 ⊢
    generalize cell ns 8 / 2 % 9 = kd at hk8 ⊢
    have sB := (s7_23.trans s24).trans s25
    have odl : dl ∉ A0.all := (B0.same s7_22).out ndl
    have hdl := s25 _ _ (s24 _ _ hdl)
    have B1 := B0.same sB
    obtain ⟨⟨dx1, ob1⟩, _⟩ := id B1
    have nox1 : ∀ {n : Int}, (flds A0.pe A0.co A0.sp A0.ro A0.ca A0.we n).lookup ("claim" : Str) = none := fl_no (by decide +kernel)
    have nox2 : ∀ {n : Int}, (flds A0.pe A0.co A0.sp A0.ro A0.ca A0.we n).lookup ("dun" : Str) = none := fl_no (by decide +kernel)
    have nox3 : ∀ {n : Int}, (flds A0.pe A0.co A0.sp A0.ro A0.ca A0.we n).lookup ("step" : Str) = none := fl_no (by decide +kernel)
    have nox4 : ∀ {n : Int}, (flds A0.pe A0.co A0.sp A0.ro A0.ca A0.we n).lookup ("pay" : Str) = none := fl_no (by decide +kernel)
    have nox5 : ∀ {n : Int}, (flds A0.pe A0.co A0.sp A0.ro A0.ca A0.we n).lookup ("bill" : Str) = none := fl_no (by decide +kernel)
    refine r_seq (r_drop (r_meth (r_var rfl (r_methA ob1 nox1 (r_cons (r_c (r_cons (r_c (r_cons (r_c (r_cons (r_c (r_cons (r_c (r_nil ?_)))))))))))))))
    refine ⟨A0, C0, mkEs [], 0, 0, 0, 0, 1, 10, rfl, WrU_n B1 .nil (by decide) ref_claim0 fun H26 B2 u1 => ?_⟩
    dsimp only
    have t26 := sU t25 u1
    have hdl := u1.get (BkA.ok4 odl) hdl
    refine r_seq ?_
    refine' joinS (M := fun σ Hx => σ = [some (.ref a), some (.int ((many : Nat) : Int)), some (.ref A0.b), some (.int ((sd : Nat) : Int)), some (.int c), some (.int pd), some (.ref gl), some (.ref dl), some (.int fi), some (.int kd), none, none, none, none, none] ∧ Same H Hx ∧ BnAt cB Hx A0 C0 (ra (decide (fi = 0) && decide (kd ≠ 8)) d0 sd) ∧ Hx dl = some (.lst [V.int d0, V.int d1, V.int d2, V.int d3])) ?a3 ?b3
    case a3 =>
      intro k
      obtain ⟨⟨dx2, ob2⟩, _⟩ := id B2
      refine r_ifS (r_and (r_test (r_op (r_var rfl (r_c (r_EqI ⟨_, rfl, ?_⟩))))))
      refine ite2 (fun z => ?_) (fun z => ?_)
      · refine r_test (r_op (r_var rfl (r_c (r_NeI ⟨_, rfl, ?_⟩))))
        refine ite2 (fun y => ?_) (fun y => ?_)
        · refine r_drop (r_meth (r_var rfl (r_methA ob2 nox2 (r_cons (r_op (r_var rfl (r_c (r_ixL (.of hdl) rfl (r_cons (r_var rfl (r_nil ?_)))))))))))
          refine ⟨A0, C0, mkEs (ra false d0 sd), 1, d0, sd, rfl, WrU_n (rows := ra false d0 sd) B2 (wit_okRows wa) (Nat.le_trans len_a (by decide)) (ref_dun (by have := len_a (A := false) (d0 := d0) (s := (sd : Int)); omega) (late_a (d := d0) b0.1 (Int.le_refl _) rfl)) fun H27 B3 u2 => ?_⟩
          refine k _ _ ⟨rfl, sU t26 u2, ?_, u2.get (BkA.ok4 odl) hdl⟩
          rw [show (decide (fi = 0) && decide (kd ≠ 8)) = true by rw [z, Bool.true_and]; simpa using y]
          exact B3
        · refine r_next (k _ _ ⟨rfl, t26, ?_, hdl⟩)
          rw [show (decide (fi = 0) && decide (kd ≠ 8)) = false by rw [z, Bool.true_and]; simpa using y]
          exact B2
      · refine r_next (k _ _ ⟨rfl, t26, ?_, hdl⟩)
        rw [show (decide (fi = 0) && decide (kd ≠ 8)) = false by rw [show decide (fi = 0) = false by simpa using z]; rfl]
        exact B2
    case b3 =>
    rintro σ H28 ⟨rfl, t28, B3, hdl⟩
    dsimp only
    obtain ⟨⟨dx3, ob3⟩, _⟩ := id B3
    obtain ⟨ds, hds, eds⟩ : ∃ ds : Int, (d0 ≤ ds ∧ ds ≤ d1 ∧ (fi = 0 → ds = d1) ∧ (fi = 1 → ds = d0)) ∧ atI [V.int d0, V.int d1, V.int d2, V.int d3] (1 - fi) = some (V.int ds) := by
      rcases hf01 with e | e
      · exact ⟨d1, ⟨b1.1, Int.le_refl _, fun _ => rfl, fun z => by omega⟩, by rw [e]; rfl⟩
      · exact ⟨d0, ⟨Int.le_refl _, b1.1, fun z => by omega, fun _ => rfl⟩, by rw [e]; rfl⟩
    generalize hA : (decide (fi = 0) && decide (kd ≠ 8)) = A at B3
    refine r_seq (r_asg (r_meth (r_var rfl (r_methA ob3 nox3 (r_cons (r_op (r_var rfl (r_op (r_c (r_var rfl (r_I0 (r_ixL (.of hdl) eds ?_))))))))))))
    refine r_cons (r_c (r_cons (r_var rfl (r_cons (r_c (r_cons (r_var rfl (r_nil ?_))))))))
    have la : (ra A d0 sd).length ≤ 2 := len_a
    refine ⟨A0, C0, mkEs (ra A d0 sd), _, ds, 0, sd, _, c, _, rfl, WrU_n (rows := ra A d0 sd) B3 (wit_okRows wa) (by omega) (by rw [rnd_a]; exact ref_step (by omega) (late_a (d := ds) b0.1 hds.1 rfl)) fun H29 B4 u3 => ?_⟩
    rw [mkEs_len] at B4
    have B4 : BnAt cB H29 A0 C0 (rb A d0 sd ds c) := B4
    have t29 := sU t28 u3
    have hdl := u3.get (BkA.ok4 odl) hdl
    show gName _ (V.int ((mkEs (ra A d0 sd)).length : Int)) _ _ _
    rw [mkEs_len]
    refine r_name ?_
    dsimp only
    have lb : (rb A d0 sd ds c).length ≤ 3 := by unfold rb; rw [List.length_append, List.length_singleton]; omega
    refine r_seq ?_
    refine' joinS (M := fun σ Hx => σ = [some (.ref a), some (.int ((many : Nat) : Int)), some (.ref A0.b), some (.int ((sd : Nat) : Int)), some (.int c), some (.int pd), some (.ref gl), some (.ref dl), some (.int fi), some (.int kd), some (.int ((ra A d0 sd).length : Int)), none, none, none, none] ∧ Same H Hx ∧ BnAt cB Hx A0 C0 (rc A (decide (fi = 1) && decide (kd ≠ 8)) d0 sd ds c d1) ∧ Hx dl = some (.lst [V.int d0, V.int d1, V.int d2, V.int d3])) ?a4 ?b4
    case a4 =>
      intro k
      obtain ⟨⟨dx4, ob4⟩, _⟩ := id B4
      have noB : ∀ {b : Bool}, b = false → BnAt cB H29 A0 C0 (rc A b d0 sd ds c d1) := fun {b} e => by
        rw [e]
        unfold rc
        rw [if_neg (by decide), List.append_nil]
        exact B4
      refine r_ifS (r_and (r_test (r_op (r_var rfl (r_c (r_EqI ⟨_, rfl, ?_⟩))))))
      refine ite2 (fun z => ?_) (fun z => ?_)
      · refine r_test (r_op (r_var rfl (r_c (r_NeI ⟨_, rfl, ?_⟩))))
        refine ite2 (fun y => ?_) (fun y => ?_)
        · refine r_drop (r_meth (r_var rfl (r_methA ob4 nox2 (r_cons (r_op (r_var rfl (r_c (r_ixL (.of hdl) rfl (r_cons (r_var rfl (r_nil ?_)))))))))))
          refine ⟨A0, C0, mkEs (rb A d0 sd ds c), _, d1, sd, rfl, WrU_n (rows := rb A d0 sd ds c) B4 (wit_okRows wb) (by omega) (ref_dun (by omega) (late_b (d := d1) hds.2.1 rfl)) fun H30 B5 u4 => ?_⟩
          rw [mkEs_len] at B5
          refine k _ _ ⟨rfl, sU t29 u4, ?_, u4.get (BkA.ok4 odl) hdl⟩
          rw [show (decide (fi = 1) && decide (kd ≠ 8)) = true by rw [z, Bool.true_and]; simpa using y]
          unfold rc
          rw [if_pos rfl]
          exact B5
        · refine r_next (k _ _ ⟨rfl, t29, noB ?_, hdl⟩)
          rw [z, Bool.true_and]; simpa using y
      · refine r_next (k _ _ ⟨rfl, t29, noB ?_, hdl⟩)
        rw [show decide (fi = 1) = false by simpa using z]; rfl
    case b4 =>
    rintro σ H31 ⟨rfl, t31, B5, hdl⟩
    dsimp only
    generalize hB : (decide (fi = 1) && decide (kd ≠ 8)) = B at B5
    obtain ⟨⟨dx5, ob5⟩, _⟩ := id B5
    have lc : (rc A B d0 sd ds c d1).length ≤ 4 := by unfold rc; rw [List.length_append]; cases B <;> simp <;> omega
    refine r_seq (r_drop (r_meth (r_var rfl (r_methA ob5 nox4 (r_cons (r_op (r_var rfl (r_c (r_ixL (.of hdl) rfl (r_cons (r_var rfl (r_cons (r_c (r_cons (r_var rfl (r_nil ?_))))))))))))))))
    refine ⟨A0, C0, mkEs (rc A B d0 sd ds c d1), _, d2, sd, 2, pd, rfl, WrU_n (rows := rc A B d0 sd ds c d1) B5 (wit_okRows wc) (by omega) (ref_pay (by omega) (late_c (d := d2) (by omega) b2.1 rfl)) fun H32 B6 u5 => ?_⟩
    rw [mkEs_len] at B6
    have B6 : BnAt cB H32 A0 C0 (rd A B d0 sd ds c d1 d2 pd) := B6
    dsimp only
    have t32 := sU t31 u5
    have hdl := u5.get (BkA.ok4 odl) hdl
    have ld : (rd A B d0 sd ds c d1 d2 pd).length ≤ 5 := by unfold rd; rw [List.length_append, List.length_singleton]; omega
    refine r_seq ?_
    refine' joinS (M := fun σ Hx => σ = [some (.ref a), some (.int ((many : Nat) : Int)), some (.ref A0.b), some (.int ((sd : Nat) : Int)), some (.int c), some (.int pd), some (.ref gl), some (.ref dl), some (.int fi), some (.int kd), some (.int ((ra A d0 sd).length : Int)), none, none, none, none] ∧ Same H Hx ∧ BnAt cB Hx A0 C0 (re A B (decide (kd = 7)) d0 sd ds c d1 d2 pd) ∧ Hx dl = some (.lst [V.int d0, V.int d1, V.int d2, V.int d3])) ?a5 ?b5
    case a5 =>
      intro k
      obtain ⟨⟨dx6, ob6⟩, _⟩ := id B6
      refine r_ifS (r_test (r_op (r_var rfl (r_c (r_EqI ⟨_, rfl, ?_⟩)))))
      refine ite2 (fun z => ?_) (fun z => ?_)
      · refine r_drop (r_meth (r_var rfl (r_methA ob6 nox2 (r_cons (r_op (r_var rfl (r_c (r_ixL (.of hdl) rfl (r_cons (r_var rfl (r_nil ?_)))))))))))
        refine ⟨A0, C0, mkEs (rd A B d0 sd ds c d1 d2 pd), _, d2, sd, rfl, WrU_n (rows := rd A B d0 sd ds c d1 d2 pd) B6 (wit_okRows wd) (by omega) (ref_dun (by omega) (late_d (d := d2) (Int.le_refl _) rfl)) fun H33 B7 u6 => ?_⟩
        rw [mkEs_len] at B7
        refine k _ _ ⟨rfl, sU t32 u6, ?_, u6.get (BkA.ok4 odl) hdl⟩
        rw [z]
        unfold re
        rw [if_pos rfl]
        exact B7
      · refine r_next (k _ _ ⟨rfl, t32, ?_, hdl⟩)
        rw [show decide (kd = 7) = false by simpa using z]
        unfold re
        rw [if_neg (by decide), List.append_nil]
        exact B6
    case b5 =>
    rintro σ H34 ⟨rfl, t34, B7, hdl⟩
    dsimp only
    have hCC : decide (kd = 7) = true → (A || B) = true := fun z => by
      have z : kd = 7 := of_decide_eq_true z
      rw [← hA, ← hB]
      rcases hf01 with e | e <;> simp [e, z]
    have hAB : (A && B) = false := by
      rw [← hA, ← hB]
      rcases hf01 with e | e <;> simp [e]
    have hAo : (A || B) = !decide (kd = 8) := by
      rw [← hA, ← hB]
      rcases hf01 with e | e <;> simp [e]
    have hAd : A = true → ds = d1 := fun z => by
      rw [← hA, Bool.and_eq_true] at z
      exact hds.2.2.1 (of_decide_eq_true z.1)
    have hBd : B = true → ds = d0 := fun z => by
      rw [← hB, Bool.and_eq_true] at z
      exact hds.2.2.2 (of_decide_eq_true z.1)
    generalize hC : decide (kd = 7) = C at B7 hCC
    have lra : ((ra A d0 sd).length : Int) = 1 + (if A = true then 1 else 0) := by cases A <;> rfl
    refine r_seq (r_ifS (r_or (r_not (r_tB (r_callX (r_cons (r_var rfl (r_nil ?_))))))))
    refine r_int ⟨true, rfl, iteF ?_⟩
    refine r_test (r_op (r_var rfl (r_op (r_c (r_cb (r_cons (r_andV (r_op (r_var rfl (r_c (r_EqI ⟨_, rfl, ?_⟩)))))))))))
    refine andJ A (fun z k => ?_) (fun z => by rw [← hA, z]; rfl) ?_
    · refine r_op (r_var rfl (r_c (r_NeI ?_)))
      rw [show (!decide (kd = 8)) = A by rw [← hA, z, Bool.true_and]; simp]
      exact k
    refine r_nil (r_intB (r_I0 (r_NeI ⟨_, rfl, ?_⟩)))
    rw [lra]
    refine iteN (by simp) (r_next ?_)
    dsimp only
    refine r_seq (r_asg (r_op (r_op (r_var rfl (r_op (r_op (r_var rfl (r_c (r_ixL (.of hdl) rfl (r_op (r_var rfl (r_c (r_ixL (.of hdl) rfl (r_I0 (r_I (show CMul c (d2 - d1) from .inr ⟨by omega, by omega⟩) ?_)))))))))))))))
    refine r_op (r_cb (r_cons (r_c (r_cons (r_op (r_var rfl (r_var rfl (r_I0 (r_nil (r_max ?_))))))))))
    refine r_op (r_op (r_var rfl (r_c (r_ixL (.of hdl) rfl (r_op (r_var rfl (r_c (r_ixL (.of hdl) rfl (r_I0 (r_I (show CMul _ (d3 - d2) from .inr ⟨by omega, by omega⟩) (r_I0 (r_name ?_))))))))))))
    dsimp only
    refine r_seq (r_asg (r_op (r_lst (r_cons (r_op (r_op (r_var rfl (r_c (r_I (show CMul _ 5 from .inr ⟨by decide, by decide⟩) (r_c (r_I (show CDivB _ 36500 from ⟨by decide, by decide⟩) ?_)))))))))))
    refine r_cons (r_c (r_nil ⟨by show 2 ≤ sizeLine; decide, fun bl nbl => ?_⟩))
    have sbl := Same.new (o := .lst [V.int ((c * (d2 - d1) + (if c - pd > 0 then c - pd else 0) * (d3 - d2)) * 5 / 36500), V.int 0]) nbl
    refine r_cb (r_cons (r_op (r_var rfl (r_c (r_EqI (r_nil (r_intB ?_)))))))
    refine r_ixL (.of upd_same) ixI2 (r_name ?_)
    have t35 := t34.trans sbl
    have B8 := B7.same sbl
    have hdl := sbl _ _ hdl
    generalize upd H34 bl (.lst [V.int ((c * (d2 - d1) + (if c - pd > 0 then c - pd else 0) * (d3 - d2)) * 5 / 36500), V.int 0]) = H35 at t35 B8 hdl ⊢
    have ebr : (if decide (kd = 8) = true then 0 else (c * (d2 - d1) + (if c - pd > 0 then c - pd else 0) * (d3 - d2)) * 5 / 36500) = if (A || B) = true then (c * (d2 - d1) + (if c - pd > 0 then c - pd else 0) * (d3 - d2)) * 5 / 36500 else 0 := by
      rw [hAo]
      cases decide (kd = 8) <;> rfl
    rw [ebr]
    dsimp only
    have hbill := fun (one : Nat) (ho : one < many) => bill_e (A := A) (B := B) (C := C) (d0 := d0) (s := (sd : Int)) (ds := ds) (c := c) (d1 := d1) (d2 := d2) (p := pd) (d3 := d3) ho hAB hCC hAd hBd b0.1 b1.1 b2.1 b3.1 (by omega) hc
    have hdue : ∀ one : Nat, dueB A B d0 sd c d1 d2 d3 pd one (ra A d0 sd).length = if (one : Int) = (sd : Int) then ⟨if c > 0 then [(((ra A d0 sd).length : Int), c, "open")] else [], c, if (A || B) = true then (c * (d2 - d1) + (if c - pd > 0 then c - pd else 0) * (d3 - d2)) * 5 / 36500 else 0, pd, c + (if (A || B) = true then (c * (d2 - d1) + (if c - pd > 0 then c - pd else 0) * (d3 - d2)) * 5 / 36500 else 0) - pd⟩ else ⟨[], 0, 0, 0, 0⟩ := fun one => rfl
    generalize (if (A || B) = true then (c * (d2 - d1) + (if c - pd > 0 then c - pd else 0) * (d3 - d2)) * 5 / 36500 else 0) = br at hdue ⊢
    generalize c * (d2 - d1) + (if c - pd > 0 then c - pd else 0) * (d3 - d2) = wh
    rw [← lra]
    have hok : BlOk C0 (re A B C d0 sd ds c d1 d2 pd) d3 := ⟨by rw [hpl]; exact hm8, Nat.le_trans len_e (by decide), we, by rw [hpl]; exact side_e (by omega) (by omega), num_e, by rw [till_e (by omega) (by omega) (by omega) (by omega) (by omega)]; exact ne_e, day_e (by omega) (by omega) (by omega) (by omega) (by omega), by omega, by omega⟩
    refine r_seq (r_for (r_rng1 (r_cons (r_var rfl (r_nil ⟨many, rfl, by omega, by omega, ?_⟩)))))
    refine for_range (fun i σ Hx => (∃ v13 v14, σ = [some (.ref a), some (.int ((many : Nat) : Int)), some (.ref A0.b), some (.int ((sd : Nat) : Int)), some (.int c), some (.int pd), some (.ref gl), some (.ref dl), some (.int fi), some (.int kd), some (.int ((ra A d0 sd).length : Int)), some (.int wh), some (.int br), v13, v14]) ∧ BnAt cB Hx A0 C0 (re A B C d0 sd ds c d1 d2 pd) ∧ Hx dl = some (.lst [V.int d0, V.int d1, V.int d2, V.int d3])) ⟨⟨_, _, rfl⟩, B8, hdl⟩ ?_ ?_
    · rintro i σ H36 hi ⟨⟨v13, v14, rfl⟩, B9, hdl⟩
      refine r_name ?_
      rw [Int.zero_add]
      dsimp only
      refine r_seq (r_asg (r_tup (r_cons (r_lst (r_nil ⟨by show 0 ≤ sizeLine; decide, fun e1 ne1 => ?_⟩)))))
      refine r_cons (r_c (r_cons (r_c (r_cons (r_c (r_cons (r_c (r_nil ⟨by show 5 ≤ sizeLine; decide, fun t1 nt1 => r_name ?_⟩))))))))
      have v1 := Same.new (o := .lst []) ne1
      have he1 := upd_at (o := .lst []) ne1
      have v2 := Same.new (o := .tup [V.ref e1, V.int 0, V.int 0, V.int 0, V.int 0]) nt1
      have ht1 := upd_at (o := .tup [V.ref e1, V.int 0, V.int 0, V.int 0, V.int 0]) nt1
      have he1 := v2 _ _ he1
      have v12 := v1.trans v2
      generalize upd (upd H36 e1 (.lst [])) t1 (.tup [V.ref e1, V.int 0, V.int 0, V.int 0, V.int 0]) = H37 at v12 he1 ht1 ⊢
      dsimp only
      refine r_seq ?_
      refine' joinS (M := fun σ Hx => ∃ t, σ = [some (.ref a), some (.int ((many : Nat) : Int)), some (.ref A0.b), some (.int ((sd : Nat) : Int)), some (.int c), some (.int pd), some (.ref gl), some (.ref dl), some (.int fi), some (.int kd), some (.int ((ra A d0 sd).length : Int)), some (.int wh), some (.int br), some (.int (i : Int)), some (.ref t)] ∧ Same H37 Hx ∧ BlAt Hx t (dueB A B d0 sd c d1 d2 d3 pd i (ra A d0 sd).length)) ?a7 ?b7
      case a7 =>
        intro k
        rw [hdue i] at k
        refine r_ifS (r_test (r_op (r_var rfl (r_var rfl (r_EqI ⟨_, rfl, ?_⟩)))))
        refine ite2 (fun z => ?_) (fun z => ?_)
        · have z : (i : Int) = (sd : Int) := of_decide_eq_true z
          rw [if_pos z] at k
          refine r_asg (r_tup (r_cons (r_op (r_lst (r_cons (r_tup (r_cons (r_var rfl (r_cons (r_var rfl (r_cons (r_c (r_nil ⟨by show 3 ≤ sizeLine; decide, fun u1 nu1 => ?_⟩)))))))))))))
          refine r_nil ⟨by show 1 ≤ sizeLine; decide, fun u2 nu2 => ?_⟩
          have w1 := Same.new (o := .tup [V.int ((ra A d0 sd).length : Int), V.int c, V.str "open"]) nu1
          have hu1 := upd_at (o := .tup [V.int ((ra A d0 sd).length : Int), V.int c, V.str "open"]) nu1
          have w2 := Same.new (o := .lst [V.ref u1]) nu2
          have hu2 := upd_at (o := .lst [V.ref u1]) nu2
          have hu1 := w2 _ _ hu1
          have w12 := w1.trans w2
          generalize upd (upd H37 u1 (.tup [V.int ((ra A d0 sd).length : Int), V.int c, V.str "open"])) u2 (.lst [V.ref u1]) = H38 at w12 hu1 hu2 ⊢
          refine r_cb (r_cons (r_op (r_var rfl (r_c (r_I0 (r_nil (r_intB ?_)))))))
          refine r_rep hu2 (by split <;> decide) (by split <;> decide) (by rw [List.length_singleton]; split <;> decide) fun u3 nu3 => ?_
          have erep : (List.replicate ((if decide (c > 0) = true then (1 : Int) else 0)).toNat [V.ref u1]).flatten = List.map V.ref (if c > 0 then [u1] else []) := by
            by_cases h : c > 0
            · rw [decide_eq_true h, if_pos rfl, if_pos h]; rfl
            · rw [decide_eq_false h, if_neg (by decide), if_neg h]; rfl
          rw [erep]
          have w3 := Same.new (o := .lst (List.map V.ref (if c > 0 then [u1] else []))) nu3
          have hu3 := upd_at (o := .lst (List.map V.ref (if c > 0 then [u1] else []))) nu3
          have w13 := w12.trans w3
          have hu1 := w3 _ _ hu1
          generalize upd H38 u3 (.lst (List.map V.ref (if c > 0 then [u1] else []))) = H39 at w13 hu1 hu3 ⊢
          refine r_cons (r_var rfl (r_cons (r_var rfl (r_cons (r_var rfl (r_cons (r_op (r_op (r_var rfl (r_var rfl (r_I0 (r_var rfl (r_I0 (r_nil ⟨by show 5 ≤ sizeLine; decide, fun t2 nt2 => r_name ?_⟩))))))))))))))
          have w4 := Same.new (o := .tup [V.ref u3, V.int c, V.int br, V.int pd, V.int (c + br - pd)]) nt2
          refine k _ _ ⟨t2, rfl, w13.trans w4, u3, if c > 0 then [u1] else [], upd_same, w4 _ _ hu3, ?_⟩
          by_cases h : c > 0
          · rw [if_pos h, if_pos h]
            exact AllAt.nil.push (w4 _ _ hu1)
          · rw [if_neg h, if_neg h]
            exact .nil
        · have z : ¬ (i : Int) = (sd : Int) := fun y => z (decide_eq_true y)
          rw [if_neg z] at k
          refine r_next (k _ _ ⟨t1, rfl, Same.refl _, e1, [], ht1, he1, .nil⟩)
      case b7 =>
      rintro σ H40 ⟨t, rfl, s40, hdt⟩
      dsimp only
      have s36 := v12.trans s40
      have B10 := B9.same s36
      obtain ⟨⟨dx9, ob9⟩, _⟩ := id B10
      refine r_ifS (r_not (r_tB (r_callX (r_cons (r_meth (r_var rfl (r_methA ob9 nox5 (r_cons (r_var rfl (r_cons (r_op (r_var rfl (r_c (r_ixL (.of (s36 _ _ hdl)) rfl (r_nil ?_)))))))))))))))
      refine ⟨A0, C0, _, d3, i, rfl, B10, hok, by rw [hpl]; exact hi, fun p H41 s41 hb => ?_⟩
      rw [hpl, hbill i hi] at hb
      refine r_cons (r_var rfl (r_nil ?_))
      refine ⟨p, t, _, rfl, hb, hdt.same s41, ?_, fun H42 s42 => ⟨_, rfl, iteF (r_next ?_)⟩⟩
      · rw [hdue i]
        split
        · show (if c > 0 then _ else _ : List (Int × Int × Str)).length ≤ 1000
          split <;> simp
        · exact Nat.zero_le _
      have sZ := (s36.trans s41).trans s42
      exact ⟨⟨_, _, rfl⟩, B9.same sZ, sZ _ _ hdl⟩
    · rintro σ H36 ⟨⟨v13, v14, rfl⟩, _⟩
      dsimp only
      exact r_ret (r_c (q _))

theorem scBookInit : FnScope ["self", "sides", "court", "speakers"] ["self", "sides", "court", "speakers"] (defScope sBookInit) := ⟨rfl, rfl, rfl, by decide +kernel, rfl, by decide +kernel, by decide +kernel⟩
theorem ok_BookInit {f : Addr} {fd : FuncData} {dV : Value} (F : FunD K "__init__" "Book.__init__" sBookInit f fd dV) (T : Txt K mg cB c_CostError c_Full c_NoClaim c_RoundOver c_TooLate c_Twice c_TooMuch) : FnOk P w K mg base CX0 1 f fd ["self", "sides", "court", "speakers"] (spInitU K cB) := by
  refine F.ok scBookInit (fun vs H Q E h => ?_) (fun cdv A outer s H vs Q E hr h => ?_)
  · obtain ⟨b, a1, a2, a3, dx, x1, c2, t2, c3, t3, rfl, hb, h1, h2, hT2, h3, hT3, n1, n2, n3, q⟩ := h
    rfl
  · obtain ⟨b, a1, a2, a3, dx, x1, c2, t2, c3, t3, rfl, hb, h1, h2, hT2, h3, hT3, n1, n2, n3, q⟩ := h
    refine ⟨_, (pss_cons (ps_fld (pv 0) (pe_callTy cb_list (by rfl) T.b_list PyProof.Rows.boot_list (pa_cons (pv 1) pa_nil)) rfl)
      (pss_cons (ps_fld (pv 0) (pe_callTy cb_list (by rfl) T.b_list PyProof.Rows.boot_list (pa_cons (pv 2) pa_nil)) rfl)
      (pss_cons (ps_fld (pv 0) (pe_callTy cb_list (by rfl) T.b_list PyProof.Rows.boot_list (pa_cons (pv 3) pa_nil)) rfl)
      (pss_cons (ps_fld (pv 0) (pe_lst pa_nil) rfl)
      (pss_cons (ps_fld (pv 0) (pe_lst pa_nil) rfl)
      (pss_cons (ps_fld (pv 0) (pe_lst pa_nil) rfl)
      (pss_one (ps_fld (pv 0) pe_int rfl)))))))), ?_⟩
    try dsimp only [cxOf]
    have sqk : ∀ {H1 : Hp} {a : Addr} {xs : List V}, (∀ x o, H x = some o → x ≠ b → H1 x = some o) → a ≠ b → SqL K H a xs → SqL K H1 a xs := fun kp ne h => by
      rcases h with (h | ⟨o, h⟩) | h
      · exact .inl (.inl (kp _ _ h ne))
      · exact .inl (.inr ⟨o, kp _ _ h ne⟩)
      · exact .inr h
    have fre : ∀ {H1 : Hp} {l : Addr}, (∀ x o, H x = some o → x ≠ b → H1 x = some o) → H1 l = none → (∃ o, H1 b = some o) → H l = none := fun {H1 l} kp n eb => by
      cases e : H l with
      | none => rfl
      | some o =>
        by_cases z : l = b
        · obtain ⟨o', eb⟩ := eb; rw [z, eb] at n; cases n
        · have := kp _ _ e z; rw [n] at this; cases this
    refine r_seq (r_sfld (r_cb (r_cons (r_var rfl (r_nil (r_list h1 fun l1 m1 => r_var rfl ⟨b, cB, dx, [], rfl, Same.new m1 _ _ hb, T.cl, T.n_people, Nat.lt_of_le_of_lt (Nat.le_refl 0) (by decide), ?_⟩))))))
    obtain ⟨b1, c1, k1⟩ := fld_step (o := .lst (List.map V.int x1)) (fs' := putF "people" (.ref l1) []) hb m1
    generalize upd (upd H l1 (.lst (List.map V.int x1))) b (.ins cB dx (putF "people" (.ref l1) [])) = H1 at b1 c1 k1 ⊢
    refine r_seq (r_sfld (r_cb (r_cons (r_var rfl (r_nil (r_list (sqk k1 n2 h2) fun l2 m2 => r_var rfl ⟨b, cB, dx, _, rfl, Same.new m2 _ _ b1, T.cl, T.n_court, Nat.lt_of_le_of_lt (pl (Nat.le_refl 0)) (by decide), ?_⟩))))))
    obtain ⟨b2, c2', k2'⟩ := fld_step (o := .lst (List.map V.ref c2)) (fs' := putF "court" (.ref l2) (putF "people" (.ref l1) [])) b1 m2
    have k2 : ∀ x o, H x = some o → x ≠ b → _ := fun x o e ne => k2' x o (k1 x o e ne) ne
    generalize upd (upd H1 l2 (.lst (List.map V.ref c2))) b (.ins cB dx (putF "court" (.ref l2) (putF "people" (.ref l1) []))) = H2 at b2 c2' k2 k2' ⊢
    refine r_seq (r_sfld (r_cb (r_cons (r_var rfl (r_nil (r_list (sqk k2 n3 h3) fun l3 m3 => r_var rfl ⟨b, cB, dx, _, rfl, Same.new m3 _ _ b2, T.cl, T.n_speakers, Nat.lt_of_le_of_lt (pl (pl (Nat.le_refl 0))) (by decide), ?_⟩))))))
    obtain ⟨b3, c3', k3'⟩ := fld_step (o := .lst (List.map V.ref c3)) (fs' := putF "speakers" (.ref l3) (putF "court" (.ref l2) (putF "people" (.ref l1) []))) b2 m3
    have k3 : ∀ x o, H x = some o → x ≠ b → _ := fun x o e ne => k3' x o (k2 x o e ne) ne
    generalize upd (upd H2 l3 (.lst (List.map V.ref c3))) b (.ins cB dx (putF "speakers" (.ref l3) (putF "court" (.ref l2) (putF "people" (.ref l1) [])))) = H3 at b3 c3' k3 k3' ⊢
    refine r_seq (r_sfld (r_lst (r_nil ⟨by show 0 ≤ sizeLine; decide, fun ro m4 => r_var rfl ⟨b, cB, dx, _, rfl, Same.new m4 _ _ b3, T.cl, T.n_rows, Nat.lt_of_le_of_lt (pl (pl (pl (Nat.le_refl 0)))) (by decide), ?_⟩⟩)))
    obtain ⟨b4, c4, k4'⟩ := fld_step (o := .lst []) (fs' := putF "rows" (.ref ro) (putF "speakers" (.ref l3) (putF "court" (.ref l2) (putF "people" (.ref l1) [])))) b3 m4
    have k4 : ∀ x o, H x = some o → x ≠ b → _ := fun x o e ne => k4' x o (k3 x o e ne) ne
    generalize upd (upd H3 ro (.lst [])) b (.ins cB dx (putF "rows" (.ref ro) (putF "speakers" (.ref l3) (putF "court" (.ref l2) (putF "people" (.ref l1) []))))) = H4 at b4 c4 k4 k4' ⊢
    refine r_seq (r_sfld (r_lst (r_nil ⟨by show 0 ≤ sizeLine; decide, fun ca m5 => r_var rfl ⟨b, cB, dx, _, rfl, Same.new m5 _ _ b4, T.cl, T.n_came, Nat.lt_of_le_of_lt (pl (pl (pl (pl (Nat.le_refl 0))))) (by decide), ?_⟩⟩)))
    obtain ⟨b5, c5, k5'⟩ := fld_step (o := .lst []) (fs' := putF "came" (.ref ca) (putF "rows" (.ref ro) (putF "speakers" (.ref l3) (putF "court" (.ref l2) (putF "people" (.ref l1) []))))) b4 m5
    have k5 : ∀ x o, H x = some o → x ≠ b → _ := fun x o e ne => k5' x o (k4 x o e ne) ne
    generalize upd (upd H4 ca (.lst [])) b (.ins cB dx (putF "came" (.ref ca) (putF "rows" (.ref ro) (putF "speakers" (.ref l3) (putF "court" (.ref l2) (putF "people" (.ref l1) [])))))) = H5 at b5 c5 k5 k5' ⊢
    refine r_seq (r_sfld (r_lst (r_nil ⟨by show 0 ≤ sizeLine; decide, fun we m6 => r_var rfl ⟨b, cB, dx, _, rfl, Same.new m6 _ _ b5, T.cl, T.n_went, Nat.lt_of_le_of_lt (pl (pl (pl (pl (pl (Nat.le_refl 0)))))) (by decide), ?_⟩⟩)))
    obtain ⟨b6, c6, k6'⟩ := fld_step (o := .lst []) (fs' := putF "went" (.ref we) (putF "came" (.ref ca) (putF "rows" (.ref ro) (putF "speakers" (.ref l3) (putF "court" (.ref l2) (putF "people" (.ref l1) [])))))) b5 m6
    have k6 : ∀ x o, H x = some o → x ≠ b → _ := fun x o e ne => k6' x o (k5 x o e ne) ne
    generalize upd (upd H5 we (.lst [])) b (.ins cB dx (putF "went" (.ref we) (putF "came" (.ref ca) (putF "rows" (.ref ro) (putF "speakers" (.ref l3) (putF "court" (.ref l2) (putF "people" (.ref l1) []))))))) = H6 at b6 c6 k6 k6' ⊢
    refine r_sfld (r_c (r_var rfl ⟨b, cB, dx, _, rfl, b6, T.cl, T.n_done, Nat.lt_of_le_of_lt (pl (pl (pl (pl (pl (pl (Nat.le_refl 0))))))) (by decide), ?_⟩))
    rw [fl_new]
    have nb : ∀ {H1 : Hp} {l : Addr} {o : HO}, H1 b = some o → H1 l = none → l ≠ b := fun e n z => by rw [z, e] at n; cases n
    have ne := @ne_of_none
    have b1' := nb hb m1
    have b2' := nb b1 m2
    have b3' := nb b2 m3
    have rb := nb b3 m4
    have cb := nb b4 m5
    have wb := nb b5 m6
    have e12 := k2' _ _ c1 b1'
    have e13 := k3' _ _ e12 b1'
    have e14 := k4' _ _ e13 b1'
    have e15 := k5' _ _ e14 b1'
    have e16 := k6' _ _ e15 b1'
    have e23 := k3' _ _ c2' b2'
    have e24 := k4' _ _ e23 b2'
    have e25 := k5' _ _ e24 b2'
    have e26 := k6' _ _ e25 b2'
    have e34 := k4' _ _ c3' b3'
    have e35 := k5' _ _ e34 b3'
    have e36 := k6' _ _ e35 b3'
    have e45 := k5' _ _ c4 rb
    have e46 := k6' _ _ e45 rb
    have e56 := k6' _ _ c5 cb
    have tup : TupS H (upd H6 b (.ins cB dx (flds l1 l2 l3 ro ca we 0))) := fun x xs e => by
      have xb : x ≠ b := ne_of e hb (by intro z; cases z)
      rw [upd_ne xb]
      exact k6 x _ e xb
    refine q ⟨b, ro, ca, we, l1, l2, l3⟩ _ rfl ⟨⟨dx, upd_same⟩, ⟨[], by rw [upd_ne rb]; exact e46, RowsAt.nil⟩, by rw [upd_ne cb]; exact e56, by rw [upd_ne wb]; exact c6, by rw [upd_ne b1']; exact e16, ⟨c2, by rw [upd_ne b2']; exact e26, hT2.tupS tup⟩, ⟨c3, by rw [upd_ne b3']; exact e36, hT3.tupS tup⟩, ?_⟩ ?_ (fun x o e ne => by rw [upd_ne ne]; exact k6 x o e ne)
    · simp only [List.nodup_cons, List.mem_cons, List.not_mem_nil, or_false, not_or, List.nodup_nil, and_true, not_false_eq_true]
      exact ⟨⟨ne_of_none c4 m5, ne_of_none e45 m6, Ne.symm (ne_of_none e13 m4), Ne.symm (ne_of_none e23 m4), Ne.symm (ne_of_none c3' m4)⟩, ⟨ne_of_none c5 m6, Ne.symm (ne_of_none e14 m5), Ne.symm (ne_of_none e24 m5), Ne.symm (ne_of_none e34 m5)⟩, ⟨Ne.symm (ne_of_none e15 m6), Ne.symm (ne_of_none e25 m6), Ne.symm (ne_of_none e35 m6)⟩, ⟨ne_of_none c1 m2, ne_of_none e12 m3⟩, ne_of_none c2' m3⟩
    · intro x hx xb
      simp only [BkA.all, List.mem_cons, List.not_mem_nil, or_false] at hx
      rcases hx with rfl | rfl | rfl | rfl | rfl | rfl | rfl
      · exact absurd rfl xb
      · exact fre k3 m4 ⟨_, b3⟩
      · exact fre k4 m5 ⟨_, b4⟩
      · exact fre k5 m6 ⟨_, b5⟩
      · exact m1
      · exact fre k1 m2 ⟨_, b1⟩
      · exact fre k2 m3 ⟨_, b2⟩

theorem scBookClaim : FnScope ["self", "day", "claim", "asker", "answerer", "worth"] ["self", "day", "claim", "asker", "answerer", "worth"] (defScope sBookClaim) := ⟨rfl, rfl, rfl, by decide +kernel, rfl, by decide +kernel, by decide +kernel⟩
theorem ok_BookClaim {f : Addr} {fd : FuncData} {dV : Value} (F : FunD K "claim" "Book.claim" sBookClaim f fd dV) (T : Txt K mg cB c_CostError c_Full c_NoClaim c_RoundOver c_TooLate c_Twice c_TooMuch) (GBookWrite : MtF P w K mg base (CX1 P w) cB "write" 6 ["self", "row"] [] (spWriteU cB [c_Full, c_NoClaim, c_RoundOver, c_TooLate, c_Twice, c_TooMuch])) (GClaimRow : Fn P w K mg base "claim_row" 1 ["number", "day", "claim", "asker", "answerer", "worth"] (spClaimRow)) : FnOk P w K mg base (CX1 P w) 7 f fd ["self", "day", "claim", "asker", "answerer", "worth"] (spClaimU cB [c_Full, c_NoClaim, c_RoundOver, c_TooLate, c_Twice, c_TooMuch]) := by
  refine F.okX scBookClaim (fun vs H Q E h => ?_) (fun cdv A outer s H vs Q E hr h => ?_)
  · obtain ⟨A0, C, es, dn, d, c1, a1, b1, w1, rfl, h⟩ := h
    rfl
  · obtain ⟨A0, C, es, dn, d, c1, a1, b1, w1, rfl, h⟩ := h
    refine ⟨_, (pss_one (ps_ret (pe_mt GBookWrite T.cl hr (by decide) passX (pv 0) (pa_cons (pe_fn GClaimRow hr (by decide) (by rfl) (pa_cons (pe_callB (cb_lenK K rfl) (by rfl) T.b_len PySem.boot_len (pa_cons (pe_fld (pv 0) rfl) pa_nil)) (pa_cons (pv 1) (pa_cons (pv 2) (pa_cons (pv 3) (pa_cons (pv 4) (pa_cons (pv 5) pa_nil))))))) pa_nil)))), ?_⟩
    try dsimp only [cxOf]
    obtain ⟨B, hcs, hn, q, qe⟩ := h
    obtain ⟨⟨dx, h1⟩, ⟨ps, h2, h5⟩, h3, h4, _⟩ := id B
    have nox : (flds A0.pe A0.co A0.sp A0.ro A0.ca A0.we dn).lookup ("write" : Str) = none := fl_no (by decide +kernel)
    refine r_ret (r_meth (r_var rfl (r_methA h1 nox ?_)))
    refine r_cons (r_callX (r_cons (r_cb (r_cons (r_fld (r_var rfl ⟨A0.b, cB, dx, _, _, rfl, h1, T.cl, T.n_rows, fl_rows, ?_⟩))))))
    refine r_nil (r_lenL (.of h2) ?_)
    have lps : ((List.map V.ref ps).length : Int) = (es.length : Int) := by have := h5.1; rw [List.length_map] at this; rw [List.length_map, this]
    rw [lps]
    walk_at "rd"
    refine ⟨_, d, c1, a1, b1, w1, rfl, fun p H1 s1 np hp => ?_⟩
    refine r_nil ?_
    refine ⟨A0, C, es, dn, p, _, rfl, B.same s1, hcs, hn, hp, fun e H' B' sb => q e _ B' (s1.sameU.trans sb), fun k e t H' s' ht => qe k e t _ (s1.trans s') ht⟩

theorem scBookStep : FnScope ["self", "day", "turn", "side", "kind", "many", "laid"] ["self", "day", "turn", "side", "kind", "many", "laid"] (defScope sBookStep) := ⟨rfl, rfl, rfl, by decide +kernel, rfl, by decide +kernel, by decide +kernel⟩
theorem ok_BookStep {f : Addr} {fd : FuncData} {dV : Value} (F : FunD K "step" "Book.step" sBookStep f fd dV) (T : Txt K mg cB c_CostError c_Full c_NoClaim c_RoundOver c_TooLate c_Twice c_TooMuch) (GBookWrite : MtF P w K mg base (CX1 P w) cB "write" 6 ["self", "row"] [] (spWriteU cB [c_Full, c_NoClaim, c_RoundOver, c_TooLate, c_Twice, c_TooMuch])) (GStepRow : Fn P w K mg base "step_row" 1 ["number", "day", "turn", "side", "kind", "many", "laid"] (spStepRow)) : FnOk P w K mg base (CX1 P w) 7 f fd ["self", "day", "turn", "side", "kind", "many", "laid"] (spStepU cB [c_Full, c_NoClaim, c_RoundOver, c_TooLate, c_Twice, c_TooMuch]) := by
  refine F.okX scBookStep (fun vs H Q E h => ?_) (fun cdv A outer s H vs Q E hr h => ?_)
  · obtain ⟨A0, C, es, dn, d, t1, sd, kk, m1, l1, rfl, h⟩ := h
    rfl
  · obtain ⟨A0, C, es, dn, d, t1, sd, kk, m1, l1, rfl, h⟩ := h
    refine ⟨_, (pss_one (ps_ret (pe_mt GBookWrite T.cl hr (by decide) passX (pv 0) (pa_cons (pe_fn GStepRow hr (by decide) (by rfl) (pa_cons (pe_callB (cb_lenK K rfl) (by rfl) T.b_len PySem.boot_len (pa_cons (pe_fld (pv 0) rfl) pa_nil)) (pa_cons (pv 1) (pa_cons (pv 2) (pa_cons (pv 3) (pa_cons (pv 4) (pa_cons (pv 5) (pa_cons (pv 6) pa_nil)))))))) pa_nil)))), ?_⟩
    try dsimp only [cxOf]
    obtain ⟨B, hcs, hn, q, qe⟩ := h
    obtain ⟨⟨dx, h1⟩, ⟨ps, h2, h5⟩, h3, h4, _⟩ := id B
    have nox : (flds A0.pe A0.co A0.sp A0.ro A0.ca A0.we dn).lookup ("write" : Str) = none := fl_no (by decide +kernel)
    refine r_ret (r_meth (r_var rfl (r_methA h1 nox ?_)))
    refine r_cons (r_callX (r_cons (r_cb (r_cons (r_fld (r_var rfl ⟨A0.b, cB, dx, _, _, rfl, h1, T.cl, T.n_rows, fl_rows, ?_⟩))))))
    refine r_nil (r_lenL (.of h2) ?_)
    have lps : ((List.map V.ref ps).length : Int) = (es.length : Int) := by have := h5.1; rw [List.length_map] at this; rw [List.length_map, this]
    rw [lps]
    walk_at "rd"
    refine ⟨_, d, t1, sd, kk, m1, l1, rfl, fun p H1 s1 np hp => ?_⟩
    refine r_nil ?_
    refine ⟨A0, C, es, dn, p, _, rfl, B.same s1, hcs, hn, hp, fun e H' B' sb => q e _ B' (s1.sameU.trans sb), fun k e t H' s' ht => qe k e t _ (s1.trans s') ht⟩

theorem scBookPay : FnScope ["self", "day", "side", "person", "coins"] ["self", "day", "side", "person", "coins"] (defScope sBookPay) := ⟨rfl, rfl, rfl, by decide +kernel, rfl, by decide +kernel, by decide +kernel⟩
theorem ok_BookPay {f : Addr} {fd : FuncData} {dV : Value} (F : FunD K "pay" "Book.pay" sBookPay f fd dV) (T : Txt K mg cB c_CostError c_Full c_NoClaim c_RoundOver c_TooLate c_Twice c_TooMuch) (GBookWrite : MtF P w K mg base (CX1 P w) cB "write" 6 ["self", "row"] [] (spWriteU cB [c_Full, c_NoClaim, c_RoundOver, c_TooLate, c_Twice, c_TooMuch])) (GPayRow : Fn P w K mg base "pay_row" 1 ["number", "day", "side", "person", "coins"] (spPayRow)) : FnOk P w K mg base (CX1 P w) 7 f fd ["self", "day", "side", "person", "coins"] (spPayU cB [c_Full, c_NoClaim, c_RoundOver, c_TooLate, c_Twice, c_TooMuch]) := by
  refine F.okX scBookPay (fun vs H Q E h => ?_) (fun cdv A outer s H vs Q E hr h => ?_)
  · obtain ⟨A0, C, es, dn, d, s1, p1, c1, rfl, h⟩ := h
    rfl
  · obtain ⟨A0, C, es, dn, d, s1, p1, c1, rfl, h⟩ := h
    refine ⟨_, (pss_one (ps_ret (pe_mt GBookWrite T.cl hr (by decide) passX (pv 0) (pa_cons (pe_fn GPayRow hr (by decide) (by rfl) (pa_cons (pe_callB (cb_lenK K rfl) (by rfl) T.b_len PySem.boot_len (pa_cons (pe_fld (pv 0) rfl) pa_nil)) (pa_cons (pv 1) (pa_cons (pv 2) (pa_cons (pv 3) (pa_cons (pv 4) pa_nil)))))) pa_nil)))), ?_⟩
    try dsimp only [cxOf]
    obtain ⟨B, hcs, hn, q, qe⟩ := h
    obtain ⟨⟨dx, h1⟩, ⟨ps, h2, h5⟩, h3, h4, _⟩ := id B
    have nox : (flds A0.pe A0.co A0.sp A0.ro A0.ca A0.we dn).lookup ("write" : Str) = none := fl_no (by decide +kernel)
    refine r_ret (r_meth (r_var rfl (r_methA h1 nox ?_)))
    refine r_cons (r_callX (r_cons (r_cb (r_cons (r_fld (r_var rfl ⟨A0.b, cB, dx, _, _, rfl, h1, T.cl, T.n_rows, fl_rows, ?_⟩))))))
    refine r_nil (r_lenL (.of h2) ?_)
    have lps : ((List.map V.ref ps).length : Int) = (es.length : Int) := by have := h5.1; rw [List.length_map] at this; rw [List.length_map, this]
    rw [lps]
    walk_at "rd"
    refine ⟨_, d, s1, p1, c1, rfl, fun p H1 s1 np hp => ?_⟩
    refine r_nil ?_
    refine ⟨A0, C, es, dn, p, _, rfl, B.same s1, hcs, hn, hp, fun e H' B' sb => q e _ B' (s1.sameU.trans sb), fun k e t H' s' ht => qe k e t _ (s1.trans s') ht⟩

theorem scBookDun : FnScope ["self", "day", "side"] ["self", "day", "side"] (defScope sBookDun) := ⟨rfl, rfl, rfl, by decide +kernel, rfl, by decide +kernel, by decide +kernel⟩
theorem ok_BookDun {f : Addr} {fd : FuncData} {dV : Value} (F : FunD K "dun" "Book.dun" sBookDun f fd dV) (T : Txt K mg cB c_CostError c_Full c_NoClaim c_RoundOver c_TooLate c_Twice c_TooMuch) (GBookWrite : MtF P w K mg base (CX1 P w) cB "write" 6 ["self", "row"] [] (spWriteU cB [c_Full, c_NoClaim, c_RoundOver, c_TooLate, c_Twice, c_TooMuch])) (GDunRow : Fn P w K mg base "dun_row" 1 ["number", "day", "side"] (spDunRow)) : FnOk P w K mg base (CX1 P w) 7 f fd ["self", "day", "side"] (spDunU cB [c_Full, c_NoClaim, c_RoundOver, c_TooLate, c_Twice, c_TooMuch]) := by
  refine F.okX scBookDun (fun vs H Q E h => ?_) (fun cdv A outer s H vs Q E hr h => ?_)
  · obtain ⟨A0, C, es, dn, d, s1, rfl, h⟩ := h
    rfl
  · obtain ⟨A0, C, es, dn, d, s1, rfl, h⟩ := h
    refine ⟨_, (pss_one (ps_ret (pe_mt GBookWrite T.cl hr (by decide) passX (pv 0) (pa_cons (pe_fn GDunRow hr (by decide) (by rfl) (pa_cons (pe_callB (cb_lenK K rfl) (by rfl) T.b_len PySem.boot_len (pa_cons (pe_fld (pv 0) rfl) pa_nil)) (pa_cons (pv 1) (pa_cons (pv 2) pa_nil)))) pa_nil)))), ?_⟩
    try dsimp only [cxOf]
    obtain ⟨B, hcs, hn, q, qe⟩ := h
    obtain ⟨⟨dx, h1⟩, ⟨ps, h2, h5⟩, h3, h4, _⟩ := id B
    have nox : (flds A0.pe A0.co A0.sp A0.ro A0.ca A0.we dn).lookup ("write" : Str) = none := fl_no (by decide +kernel)
    refine r_ret (r_meth (r_var rfl (r_methA h1 nox ?_)))
    refine r_cons (r_callX (r_cons (r_cb (r_cons (r_fld (r_var rfl ⟨A0.b, cB, dx, _, _, rfl, h1, T.cl, T.n_rows, fl_rows, ?_⟩))))))
    refine r_nil (r_lenL (.of h2) ?_)
    have lps : ((List.map V.ref ps).length : Int) = (es.length : Int) := by have := h5.1; rw [List.length_map] at this; rw [List.length_map, this]
    rw [lps]
    walk_at "rd"
    refine ⟨_, d, s1, rfl, fun p H1 s1 np hp => ?_⟩
    refine r_nil ?_
    refine ⟨A0, C, es, dn, p, _, rfl, B.same s1, hcs, hn, hp, fun e H' B' sb => q e _ B' (s1.sameU.trans sb), fun k e t H' s' ht => qe k e t _ (s1.trans s') ht⟩

theorem scBookWrite : FnScope ["self", "row"] ["self", "row"] (defScope sBookWrite) := ⟨rfl, rfl, rfl, by decide +kernel, rfl, by decide +kernel, by decide +kernel⟩
theorem ok_BookWrite {f : Addr} {fd : FuncData} {dV : Value} (F : FunD K "write" "Book.write" sBookWrite f fd dV) (T : Txt K mg cB c_CostError c_Full c_NoClaim c_RoundOver c_TooLate c_Twice c_TooMuch) (GBookRowsKeptD : MtF P w K mg base CX0 cB "rows_kept" 1 ["self", "mark"] [.non] (spKeptRowsU cB)) (GCheckRow : FnX P w K mg base "check_row" 5 ["rows", "written", "row"] (spCheck K [c_Full, c_NoClaim, c_RoundOver, c_TooLate, c_Twice, c_TooMuch])) : FnOk P w K mg base (CX1 P w) 6 f fd ["self", "row"] (spWriteU cB [c_Full, c_NoClaim, c_RoundOver, c_TooLate, c_Twice, c_TooMuch]) := by
  refine F.okX scBookWrite (fun vs H Q E h => ?_) (fun cdv A outer s H vs Q E hr h => ?_)
  · obtain ⟨A0, C, es, dn, q1, r, rfl, B, hcs, hn, hr1, q, qe⟩ := h
    rfl
  · obtain ⟨A0, C, es, dn, q1, r, rfl, B, hcs, hn, hr1, q, qe⟩ := h
    refine ⟨_, (pss_cons (ps_expr (pe_fnX GCheckRow hr (by decide) passX (by rfl) (pa_cons (pe_mt0 GBookRowsKeptD T.cl hr (by decide) pass0 (pv 0)) (pa_cons (pe_callB (cb_lenK K rfl) (by rfl) T.b_len PySem.boot_len (pa_cons (pe_fld (pv 0) rfl) pa_nil)) (pa_cons (pv 1) pa_nil)))))
      (pss_cons (ps_fldaug (pv 0) pe_int iop_add)
      (pss_cons (ps_expr (pe_bm PySem.F.plainAttrs_list PySem.F.slot_list_append PySem.F.type_list_append mt_append (pe_fld (pv 0) rfl) (pa_cons (pv 1) pa_nil)))
      (pss_cons (ps_expr (pe_bm PySem.F.plainAttrs_list PySem.F.slot_list_append PySem.F.type_list_append mt_append (pe_fld (pv 0) rfl) (pa_cons (pe_fld (pv 0) rfl) pa_nil)))
      (pss_cons (ps_expr (pe_bm PySem.F.plainAttrs_list PySem.F.slot_list_append PySem.F.type_list_append mt_append (pe_fld (pv 0) rfl) (pa_cons pe_non pa_nil)))
      (pss_one (ps_ret (pe_ix (ix_tupK K rfl) (pv 1) (pe_globI (by rfl) T.c_NUMBER) (fun _ _ => rfl))))))))), ?_⟩
    try dsimp only [cxOf]
    obtain ⟨⟨dx, h1⟩, ⟨ps, h2, h5⟩, h3, h4, hpe, ⟨c6, h6, h6'⟩, ⟨c7, h7, h7'⟩, nd⟩ := id B
    have nox : (flds A0.pe A0.co A0.sp A0.ro A0.ca A0.we dn).lookup ("rows_kept" : Str) = none := fl_no (by decide +kernel)
    refine r_seq (r_drop (r_callX (r_cons (r_meth (r_var rfl (r_methA h1 nox (r_nil ?_)))))))
    refine ⟨A0, C, es, dn, .non, dn, rfl, B, hn, .inl ⟨rfl, rfl⟩, fun l ps' H1 s1 nl hl hR => ?_⟩
    refine r_cons (r_cb (r_cons (r_fld (r_var rfl ⟨A0.b, cB, dx, _, _, rfl, s1 _ _ h1, T.cl, T.n_rows, fl_rows, ?_⟩))))
    refine r_nil (r_lenL (.of (s1 _ _ h2)) ?_)
    have l5 : ps.length = es.length := by have := h5.1; rwa [List.length_map] at this
    have lps : ((List.map V.ref ps).length : Int) = (es.length : Int) := by rw [List.length_map, l5]
    rw [lps]
    refine r_cons (r_var rfl (r_nil ?_))
    refine ⟨l, _, q1, ps', keptE es dn, r, rfl, .of hl, hR, hcs, Nat.le_trans kept_len hn, hr1.mono s1.tupS, fun e H2 s2' => ?_, fun k e t H' s' ht => qe k e t _ (s1.trans s') ht⟩
    have s2 := s1.trans s2'
    have g1 := s2 _ _ h1
    have g2 := s2 _ _ h2
    have g3 := s2 _ _ h3
    have g4 := s2 _ _ h4
    have br : A0.ro ≠ A0.b := ne_of g2 g1 (by intro z; cases z)
    have bc : A0.ca ≠ A0.b := ne_of g3 g1 (by intro z; cases z)
    have bw : A0.we ≠ A0.b := ne_of g4 g1 (by intro z; cases z)
    have nd' := nd
    simp only [List.nodup_cons, List.mem_cons, List.not_mem_nil, or_false, not_or, List.nodup_nil, and_true, not_false_eq_true] at nd'
    obtain ⟨⟨n1, n2, n11, n12, n13⟩, ⟨n3, n21, n22, n23⟩, ⟨n31, n32, n33⟩, _⟩ := nd'
    have zs : ∀ {k : Nat}, k = es.length → k < sizeLine := fun h => small1000 (by omega)
    refine r_seq (r_saug (r_var rfl ⟨A0.b, cB, dx, _, _, rfl, g1, T.cl, T.n_done, fl_done, r_c (r_I0 ⟨dx, _, g1, fl_len, ?_⟩)⟩))
    rw [fl_put]
    refine r_seq (r_drop (r_bm (r_fld (r_var rfl ⟨A0.b, cB, dx, _, _, rfl, upd_same, T.cl, T.n_rows, fl_rows, ?_⟩))))
    have g2' : upd H2 A0.b (.ins cB dx (flds A0.pe A0.co A0.sp A0.ro A0.ca A0.we (dn + 1))) A0.ro = some (.lst (List.map V.ref ps)) := by rw [upd_ne br]; exact g2
    refine r_tyL (.of g2') (r_cons (r_var rfl (r_nil (r_app g2' (zs (by rw [List.length_map, l5])) ?_))))
    refine r_seq (r_drop (r_bm (r_fld (r_var rfl ⟨A0.b, cB, dx, _, _, rfl, by rw [upd_ne (Ne.symm br), upd_same], T.cl, T.n_came, fl_came, ?_⟩))))
    have g3' : upd (upd H2 A0.b (.ins cB dx (flds A0.pe A0.co A0.sp A0.ro A0.ca A0.we (dn + 1)))) A0.ro (.lst (List.map V.ref ps ++ [.ref q1])) A0.ca = some (.lst (es.map fun e => V.int e.came)) := by rw [upd_ne (Ne.symm n1), upd_ne bc]; exact g3
    refine r_tyL (.of g3') (r_cons (r_fld (r_var rfl ⟨A0.b, cB, dx, _, _, rfl, by rw [upd_ne (Ne.symm br), upd_same], T.cl, T.n_done, fl_done, ?_⟩)))
    refine r_nil (r_app g3' (zs (by rw [List.length_map])) ?_)
    refine r_seq (r_drop (r_bm (r_fld (r_var rfl ⟨A0.b, cB, dx, _, _, rfl, by rw [upd_ne (Ne.symm bc), upd_ne (Ne.symm br), upd_same], T.cl, T.n_went, fl_went, ?_⟩))))
    have g4' : upd (upd (upd H2 A0.b (.ins cB dx (flds A0.pe A0.co A0.sp A0.ro A0.ca A0.we (dn + 1)))) A0.ro (.lst (List.map V.ref ps ++ [.ref q1]))) A0.ca (.lst ((es.map fun e => V.int e.came) ++ [.int (dn + 1)])) A0.we = some (.lst (es.map fun e => optV e.went)) := by rw [upd_ne (Ne.symm n3), upd_ne (Ne.symm n2), upd_ne bw]; exact g4
    refine r_tyL (.of g4') (r_cons (r_c (r_nil (r_app g4' (zs (by rw [List.length_map])) ?_))))
    have kp : ∀ x o, H2 x = some o → x ≠ A0.b → x ≠ A0.ro → x ≠ A0.ca → x ≠ A0.we → (upd (upd (upd (upd H2 A0.b (.ins cB dx (flds A0.pe A0.co A0.sp A0.ro A0.ca A0.we (dn + 1)))) A0.ro (.lst (List.map V.ref ps ++ [.ref q1]))) A0.ca (.lst ((es.map fun e => V.int e.came) ++ [.int (dn + 1)]))) A0.we (.lst ((es.map fun e => optV e.went) ++ [.non]))) x = some o := fun x o ex x1 x2 x3 x4 => by
      rw [upd_ne x4, upd_ne x3, upd_ne x2, upd_ne x1]
      exact ex
    have tup1 : TupS H2 _ := fun x ys ex => kp x _ ex (ne_of ex g1 (by intro z; cases z)) (ne_of ex g2 (by intro z; cases z)) (ne_of ex g3 (by intro z; cases z)) (ne_of ex g4 (by intro z; cases z))
    have hq := (hr1.mono s2.tupS).mono tup1
    obtain ⟨xs1, hh1⟩ := hq.head
    refine r_ret (r_op (r_var rfl (r_c (r_ixT (v := .int r.num) (.of hh1) (atI_nat (j := 0) rfl) ?_))))
    have kl : ∀ {x : Addr} {ys : List V}, H x = some (.lst ys) → x ≠ A0.ro → x ≠ A0.ca → x ≠ A0.we → _ := fun {x ys} ex x2 x3 x4 => kp x (.lst ys) (s2 _ _ ex) (ne_b h1 ex) x2 x3 x4
    refine q e _ ⟨⟨dx, ?_⟩, ⟨ps ++ [q1], ?_, ?_⟩, ?_, ?_, kl hpe (Ne.symm n11) (Ne.symm n21) (Ne.symm n31), ⟨c6, kl h6 (Ne.symm n12) (Ne.symm n22) (Ne.symm n32), (h6'.same s2).tupS tup1⟩, ⟨c7, kl h7 (Ne.symm n13) (Ne.symm n23) (Ne.symm n33), (h7'.same s2).tupS tup1⟩, nd⟩ ?_
    · rw [upd_ne (Ne.symm bw), upd_ne (Ne.symm bc), upd_ne (Ne.symm br), upd_same]
    · rw [upd_ne n2, upd_ne n1, upd_same, List.map_append]
      rfl
    · rw [List.map_append]
      exact ((h5.mono s2.tupS).mono tup1).push hq
    · rw [upd_ne n3, upd_same, List.map_append]
      rfl
    · rw [upd_same, List.map_append]
      rfl
    · intro x o ex x1 x2 x3 x4
      exact kp x o (s2 _ _ ex) x1 x2 x3 x4

theorem scBookRowsKept : FnScope ["self", "mark", "at"] ["self", "mark"] (defScope sBookRowsKept) := ⟨rfl, rfl, rfl, by decide +kernel, rfl, by decide +kernel, by decide +kernel⟩
theorem ok_BookRowsKept {f : Addr} {fd : FuncData} {dV : Value} (F : FunD K "rows_kept" "Book.rows_kept" sBookRowsKept f fd dV) (T : Txt K mg cB c_CostError c_Full c_NoClaim c_RoundOver c_TooLate c_Twice c_TooMuch) : FnOk P w K mg base CX0 1 f fd ["self", "mark"] (spKeptRowsU cB) := by
  refine F.ok scBookRowsKept (fun vs H Q E h => ?_) (fun cdv A outer s H vs Q E hr h => ?_)
  · obtain ⟨A0, C, es, dn, mv, m, rfl, B, hn, hm, q⟩ := h
    rfl
  · obtain ⟨A0, C, es, dn, mv, m, rfl, B, hn, hm, q⟩ := h
    refine ⟨_, (pss_cons (ps_set (i := 2) scBookRowsKept.nd rfl (Or.inr rfl) (pe_ifExp (pt_cmpR op_isN (pv 1) pe_non (nomark _)) (pe_fld (pv 0) rfl) (pv 1)))
      (pss_one (ps_ret (pe_comp ["self", "mark", "at"] (defScope sBookRowsKept) 3 [2] ["row", "came", "went", "at"] rfl (by decide +kernel) (pi_zip3 (by rfl) T.b_zip (pa_cons (pe_fld (pv 0) rfl) (pa_cons (pe_fld (pv 0) rfl) (pa_cons (pe_fld (pv 0) rfl) pa_nil)))) (fun _ _ _ _ => (pg_tupK (n := 3) K rfl rfl (pgs_cons (pg_name (i := 0) (show List.Nodup (["row", "came", "went", "at"] : List Str) by decide +kernel) rfl (Or.inl rfl)) (pgs_cons (pg_name (i := 1) (show List.Nodup (["row", "came", "went", "at"] : List Str) by decide +kernel) rfl (Or.inl rfl)) (pgs_cons (pg_name (i := 2) (show List.Nodup (["row", "came", "went", "at"] : List Str) by decide +kernel) rfl (Or.inl rfl)) pgs_nil))))) (fun _ _ _ _ => (pts_one (PW.pt (pw_and (pt_cmpR op_le (pv 1) (pv 3) (nomark _)) (pw_and1 (PW.pt (pw_or (pt_cmpR op_isN (pv 2) pe_non (nomark _)) (pw_or1 (pt_cmpR op_lt (pv 3) (pv 2) (nomark _)))))))))) (fun _ _ _ _ => (pv 0)) (by decide +kernel) (by decide +kernel) (by decide +kernel))))), ?_⟩
    try dsimp only [cxOf]
    obtain ⟨⟨dx, h1⟩, ⟨ps, h2, h5⟩, h3, h4, _⟩ := B
    have lps := h5.1
    rw [List.length_map] at lps
    refine r_seq ?_
    refine' joinS (M := fun σ H2 => σ = [some (.ref A0.b), some mv, some (.int m)] ∧ H2 = H) ?a ?b
    case a =>
      intro k
      rcases hm with ⟨rfl, rfl⟩ | rfl
      · walk_at "rd"
        refine ⟨rfl, _, rfl, iteP (by simp) ?_⟩
        refine r_fld (r_var rfl ⟨A0.b, cB, dx, _, _, rfl, h1, T.cl, T.n_done, fl_done, ?_⟩)
        exact r_name (k _ _ ⟨rfl, rfl⟩)
      · walk_at "rd"
        refine ⟨rfl, _, rfl, iteN (by simp) ?_⟩
        exact r_var rfl (r_name (k _ _ ⟨rfl, rfl⟩))
    case b =>
    rintro σ H2 ⟨rfl, rfl⟩
    dsimp only
    refine r_ret (r_comp (r_zip3 (r_cons (r_fld (r_var rfl ⟨A0.b, cB, dx, _, _, rfl, h1, T.cl, T.n_rows, fl_rows, ?_⟩)))))
    refine r_cons (r_fld (r_var rfl ⟨A0.b, cB, dx, _, _, rfl, h1, T.cl, T.n_came, fl_came, ?_⟩))
    refine r_cons (r_fld (r_var rfl ⟨A0.b, cB, dx, _, _, rfl, h1, T.cl, T.n_went, fl_went, ?_⟩))
    refine r_nil ⟨A0.ro, A0.ca, A0.we, rfl, ⟨_, .of h2⟩, ⟨_, .of h3⟩, ⟨_, .of h4⟩, fun D nD => ?_⟩
    refine compZ3 (xs := List.map V.ref ps) (fun i => (es.getD i default).on m) (fun i => V.ref (ps.getD i 0)) nD (.of h2) (.of h3) (.of h4) (by simp [lps]) (by simp [lps]) (by rw [List.length_map]; omega) ?_ ?_ ?_
    · intro i x y z H' q' e1 e2 e3 sm k
      have hi : i < es.length := by
        have := (List.getElem?_eq_some_iff.mp e1).1
        rw [List.length_map] at this
        omega
      have ee : es.getD i default = es[i] := by simp [List.getD, hi]
      have ey : y = .int es[i].came := by simp [hi] at e2; exact e2.symm
      have ez : z = optV es[i].went := by simp [hi] at e3; exact e3.symm
      subst ey ez
      rw [ee] at k
      refine r_and (r_test (r_op (r_var rfl (r_var rfl (r_I0 ⟨_, rfl, ?_⟩)))))
      unfold En.on at k
      refine ite2 (fun y => ?_) (fun y => ?_)
      · rw [y, Bool.true_and] at k
        refine r_or (r_test (r_op (r_var rfl (r_c ⟨rfl, ⟨_, rfl, ?_⟩⟩))))
        cases hw : es[i].went with
        | none =>
          rw [hw] at k
          refine iteP (by simp [optV]) ?_
          exact k _ (Same.refl _)
        | some g =>
          rw [hw] at k
          refine iteN (by simp [optV]) ?_
          refine r_test (r_op (r_var rfl (r_var (v := .int g) rfl (r_I0 ⟨_, rfl, ?_⟩))))
          exact k _ (Same.refl _)
      · have y' : decide (es[i].came ≤ m) = false := by simpa using y
        rw [y', Bool.false_and] at k
        exact k _ (Same.refl _)
    · intro i x y z H' q' e1 e2 e3 _ sm k
      have hi : i < ps.length := by
        have := (List.getElem?_eq_some_iff.mp e1).1
        rw [List.length_map] at this
        exact this
      have ex : x = V.ref (ps.getD i 0) := by
        rw [List.getElem?_map] at e1
        simp [hi] at e1
        rw [← e1]
        simp [List.getD, hi]
      subst ex
      exact r_var rfl (k _ (Same.refl _))
    · intro H' sm hD
      have ek : keptE es m = ((List.range ps.length).filter fun i => (es.getD i default).on m).map fun i => (es.map En.row).getD i (En.row default) := by
        unfold keptE
        rw [filter_range default es, lps, List.map_map]
        refine List.map_congr_left fun i _ => ?_
        show En.row (es.getD i default) = _
        rw [List.getD_eq_getElem?_getD, List.getD_eq_getElem?_getD, List.getElem?_map]
        cases es[i]? <;> rfl
      refine q D (((List.range ps.length).filter fun i => (es.getD i default).on m).map fun i => ps.getD i 0) H' sm nD ?_ ?_
      · rw [hD, List.length_map, List.map_map]
        rfl
      · rw [ek]
        refine (h5.mono sm.tupS).pick _ (fun i hi => ?_) _
        have := List.mem_range.mp (List.mem_filter.mp hi).1
        rw [List.length_map]
        omega

theorem scBookBills : FnScope ["self", "day", "mark"] ["self", "day", "mark"] (defScope sBookBills) := ⟨rfl, rfl, rfl, by decide +kernel, rfl, by decide +kernel, by decide +kernel⟩
theorem ok_BookBills {f : Addr} {fd : FuncData} {dV : Value} (F : FunD K "bills" "Book.bills" sBookBills f fd dV) (T : Txt K mg cB c_CostError c_Full c_NoClaim c_RoundOver c_TooLate c_Twice c_TooMuch) (GBookRowsKept : MtF P w K mg base CX0 cB "rows_kept" 1 ["self", "mark"] [] (spKeptRowsU cB)) (GBillsOf : Fn P w K mg base "bills_of" 5 ["many", "court", "speakers", "rows", "day"] (spBillsOf K)) : FnOk P w K mg base CX0 6 f fd ["self", "day", "mark"] (spBills cB) := by
  refine F.ok scBookBills (fun vs H Q E h => ?_) (fun cdv A outer s H vs Q E hr h => ?_)
  · obtain ⟨A0, C, rows, d, rfl, B, ok, q⟩ := h
    rfl
  · obtain ⟨A0, C, rows, d, rfl, B, ok, q⟩ := h
    refine ⟨_, (pss_one (ps_ret (pe_fn GBillsOf hr (by decide) (by rfl) (pa_cons (pe_callB (cb_lenK K rfl) (by rfl) T.b_len PySem.boot_len (pa_cons (pe_fld (pv 0) rfl) pa_nil)) (pa_cons (pe_fld (pv 0) rfl) (pa_cons (pe_fld (pv 0) rfl) (pa_cons (pe_mt GBookRowsKept T.cl hr (by decide) pass0 (pv 0) (pa_cons (pv 2) pa_nil)) (pa_cons (pv 1) pa_nil)))))))), ?_⟩
    try dsimp only [cxOf]
    obtain ⟨⟨dx, h1⟩, ⟨ps, h2, h5⟩, h3, h4, hpe, ⟨c6, h6, h6'⟩, ⟨c7, h7, h7'⟩, nd⟩ := id B
    have nox : (flds A0.pe A0.co A0.sp A0.ro A0.ca A0.we (rows.length : Int)).lookup ("rows_kept" : Str) = none := fl_no (by decide +kernel)
    obtain ⟨hm, hn, hW, hSd, hN, hne, hb, hd0, hd1⟩ := ok
    refine r_ret (r_callX (r_cons (r_cb (r_cons (r_fld (r_var rfl ⟨A0.b, cB, dx, _, _, rfl, h1, T.cl, T.n_people, fl_people, ?_⟩))))))
    refine r_nil (r_lenL (.of hpe) ?_)
    rw [List.length_map]
    refine r_cons (r_fld (r_var rfl ⟨A0.b, cB, dx, _, _, rfl, h1, T.cl, T.n_court, fl_court, ?_⟩))
    refine r_cons (r_fld (r_var rfl ⟨A0.b, cB, dx, _, _, rfl, h1, T.cl, T.n_speakers, fl_speakers, ?_⟩))
    refine r_cons (r_meth (r_var rfl (r_methA h1 nox (r_cons (r_var rfl (r_nil ?_))))))
    refine ⟨A0, C, mkEs rows, rows.length, .non, rows.length, rfl, B, by rw [mkEs_len]; exact hn, .inl ⟨rfl, rfl⟩, fun l ps' H1 s1 nl hl hR => ?_⟩
    rw [mkEs_kept] at hR
    refine r_cons (r_var rfl (r_nil ?_))
    exact ⟨C.pl.length, l, rows, d, _, _, rfl, hm, ⟨ps', .of hl, hR⟩, hn, hW, hSd, hN, hne, hb, hd0, hd1, fun l2 H2 s2 hb2 => q l2 H2 (s1.trans s2) hb2⟩

theorem scBookBill : FnScope ["self", "side", "day", "mark"] ["self", "side", "day", "mark"] (defScope sBookBill) := ⟨rfl, rfl, rfl, by decide +kernel, rfl, by decide +kernel, by decide +kernel⟩
theorem ok_BookBill {f : Addr} {fd : FuncData} {dV : Value} (F : FunD K "bill" "Book.bill" sBookBill f fd dV) (T : Txt K mg cB c_CostError c_Full c_NoClaim c_RoundOver c_TooLate c_Twice c_TooMuch) (GBookBills : MtF P w K mg base CX0 cB "bills" 6 ["self", "day", "mark"] [] (spBills cB)) : FnOk P w K mg base CX0 7 f fd ["self", "side", "day", "mark"] (spBill cB) := by
  refine F.ok scBookBill (fun vs H Q E h => ?_) (fun cdv A outer s H vs Q E hr h => ?_)
  · obtain ⟨A0, C, rows, d, side, rfl, B, ok, hs, q⟩ := h
    rfl
  · obtain ⟨A0, C, rows, d, side, rfl, B, ok, hs, q⟩ := h
    refine ⟨_, (pss_one (ps_ret (pe_ix (ix_listK K rfl) (pe_mt GBookBills T.cl hr (by decide) pass0 (pv 0) (pa_cons (pv 2) (pa_cons (pv 3) pa_nil))) (pv 1) (fun _ _ => rfl)))), ?_⟩
    try dsimp only [cxOf]
    obtain ⟨⟨dx, h1⟩, _⟩ := id B
    have nox : (flds A0.pe A0.co A0.sp A0.ro A0.ca A0.we (rows.length : Int)).lookup ("bills" : Str) = none := fl_no (by decide +kernel)
    refine r_ret (r_op (r_meth (r_var rfl (r_methA h1 nox (r_cons (r_var rfl (r_cons (r_var rfl (r_nil ?_)))))))))
    refine ⟨A0, C, rows, d, rfl, B, ok, fun l H1 s1 hb => ?_⟩
    obtain ⟨us, hu1, hu2⟩ := hb
    have lu := hu2.1
    have hl : side < us.length := by rw [lu]; unfold billsW; rw [List.length_map, List.length_range]; exact hs
    refine r_var rfl (r_ixL (.of hu1) (atI_refs (by omega) (by omega)) ?_)
    have e1 : us.getD (Int.toNat (side : Int)) 0 = us[side] := by rw [Int.toNat_natCast]; simp [List.getD, hl]
    rw [e1]
    refine q _ H1 s1 (hu2.2 side _ _ (by simp [hl]) ?_)
    unfold billsW
    rw [List.getElem?_map, List.getElem?_range hs]
    rfl

end
theorem all_mk {l : PySem.W.OpenLaw} {w : World} {K : PySem.W.Frag} {h : Heap} {mg : Str → Option Value} {fa cB c_CostError c_Full c_NoClaim c_RoundOver c_TooLate c_Twice c_TooMuch f0 f1 f2 f3 f4 f5 f6 f7 f8 f9 f10 f11 f12 f13 f14 f15 f16 f17 f18 f19 f20 f21 f22 f23 f24 f25 f26 f27 f28 f29 f30 f31 f32 f33 f34 f35 f36 f37 f38 f39 f40 f41 f42 f43 f44 f45 : Addr} (X : K.In h) (G : h.Ns mainGlobals mg) (hfa : mg "law" = some (.ref fa))
    {od0 an0 od1 an1 od2 an2 od3 an3 od4 an4 od5 an5 od6 an6 od7 an7 od8 an8 od9 an9 od10 an10 od11 an11 od12 an12 od13 an13 od14 an14 od15 an15 od16 an16 od17 an17 od18 an18 od19 an19 od20 an20 od21 an21 od22 an22 od23 an23 od24 an24 od25 an25 od26 an26 od27 an27 od28 an28 od29 an29 od30 an30 od31 an31 od32 an32 od33 an33 od34 an34 od35 an35 od36 an36 od37 an37 od38 an38 od39 an39 od40 an40 od41 an41 od42 an42 od43 an43 od44 an44 od45 an45 : Option Addr} {sl0 sl1 sl2 sl3 sl4 sl5 sl6 sl7 sl8 sl9 sl10 sl11 sl12 sl13 sl14 sl15 sl16 sl17 sl18 sl19 sl20 sl21 sl22 sl23 sl24 sl25 sl26 sl27 sl28 sl29 sl30 sl31 sl32 sl33 sl34 sl35 sl36 sl37 sl38 sl39 sl40 sl41 sl42 sl43 sl44 sl45 : Array (Option Value)} {oc0 kV0 dc0 pm0 cd0 ct0 oc1 kV1 dc1 pm1 cd1 ct1 oc2 kV2 dc2 pm2 cd2 ct2 oc3 kV3 dc3 pm3 cd3 ct3 oc4 kV4 dc4 pm4 cd4 ct4 oc5 kV5 dc5 pm5 cd5 ct5 oc6 kV6 dc6 pm6 cd6 ct6 oc7 kV7 dc7 pm7 cd7 ct7 oc8 kV8 dc8 pm8 cd8 ct8 oc9 kV9 dc9 pm9 cd9 ct9 oc10 kV10 dc10 pm10 cd10 ct10 oc11 kV11 dc11 pm11 cd11 ct11 oc12 kV12 dc12 pm12 cd12 ct12 oc13 kV13 dc13 pm13 cd13 ct13 oc14 kV14 dc14 pm14 cd14 ct14 oc15 kV15 dc15 pm15 cd15 ct15 oc16 kV16 dc16 pm16 cd16 ct16 oc17 kV17 dc17 pm17 cd17 ct17 oc18 kV18 dc18 pm18 cd18 ct18 oc19 kV19 dc19 pm19 cd19 ct19 oc20 kV20 dc20 pm20 cd20 ct20 oc21 kV21 dc21 pm21 cd21 ct21 oc22 kV22 dc22 pm22 cd22 ct22 oc23 kV23 dc23 pm23 cd23 ct23 oc24 kV24 dc24 pm24 cd24 ct24 oc25 kV25 dc25 pm25 cd25 ct25 oc26 kV26 dc26 pm26 cd26 ct26 oc27 kV27 dc27 pm27 cd27 ct27 oc28 kV28 dc28 pm28 cd28 ct28 oc29 kV29 dc29 pm29 cd29 ct29 oc30 kV30 dc30 pm30 cd30 ct30 oc31 kV31 dc31 pm31 cd31 ct31 oc32 kV32 dc32 pm32 cd32 ct32 oc33 kV33 dc33 pm33 cd33 ct33 oc34 kV34 dc34 pm34 cd34 ct34 oc35 kV35 dc35 pm35 cd35 ct35 oc36 kV36 dc36 pm36 cd36 ct36 oc37 kV37 dc37 pm37 cd37 ct37 oc38 kV38 dc38 pm38 cd38 ct38 oc39 kV39 dc39 pm39 cd39 ct39 oc40 kV40 dc40 pm40 cd40 ct40 oc41 kV41 dc41 pm41 cd41 ct41 oc42 kV42 dc42 pm42 cd42 ct42 oc43 kV43 dc43 pm43 cd43 ct43 oc44 kV44 dc44 pm44 cd44 ct44 oc45 kV45 dc45 pm45 cd45 ct45 : Value} {tk_CLAIM tk_DAY tk_DUN_SIDE tk_INTEREST_COINS tk_INTEREST_COIN_DAYS tk_LINE_PARTS tk_LINE_REASON tk_LINE_ROW tk_MOST_ROWS tk_NUMBER tk_OFFER_AMOUNT tk_OFFER_CLAIM tk_PAY_COINS tk_PAY_SIDE tk_ROUNDS tk_RULE_WINS tk_STEP_KIND tk_STEP_LAID tk_STEP_MANY tk_STEP_SIDE tk_TURN tk_WORD tk_WORTH : Tok}
    {dT39 dT43 dT45 : Addr} {do39 do43 do45 : Value} {dd39 dd43 dd45 : Option Addr} {dn39 dn43 dn45 : Nat} {ds39 ds43 ds45 : Array (Option Value)}
    {kd39_0 : Tok}
    (aB : PySem.W.nsIn K mainGlobals "Book" = some (some (.ref cB)))
    (e_CostError : PySem.W.nsIn K mainGlobals "CostError" = some (some (.ref c_CostError)))
    (e_Full : PySem.W.nsIn K mainGlobals "Full" = some (some (.ref c_Full)))
    (e_NoClaim : PySem.W.nsIn K mainGlobals "NoClaim" = some (some (.ref c_NoClaim)))
    (e_RoundOver : PySem.W.nsIn K mainGlobals "RoundOver" = some (some (.ref c_RoundOver)))
    (e_TooLate : PySem.W.nsIn K mainGlobals "TooLate" = some (some (.ref c_TooLate)))
    (e_Twice : PySem.W.nsIn K mainGlobals "Twice" = some (some (.ref c_Twice)))
    (e_TooMuch : PySem.W.nsIn K mainGlobals "TooMuch" = some (some (.ref c_TooMuch)))
    (a0 : PySem.W.nsIn K mainGlobals "interest" = some (some (.ref f0)))
    (l0 : K.lookup f0 = some ⟨oc0, od0, .func (PySem.W.fnOf "interest" "interest" (defArgs sInterest) (defBody sInterest) (defScope sInterest) (.none) kV0 dc0 pm0 an0 cd0 ct0), sl0⟩)
    (c0 : PySem.W.codeIn K cd0 "interest" = true)
    (k0 : PySem.W.keepIn K (.ref f0) = true)
    (a1 : PySem.W.nsIn K mainGlobals "cost_of" = some (some (.ref f1)))
    (l1 : K.lookup f1 = some ⟨oc1, od1, .func (PySem.W.fnOf "cost_of" "cost_of" (defArgs sCostOf) (defBody sCostOf) (defScope sCostOf) (.none) kV1 dc1 pm1 an1 cd1 ct1), sl1⟩)
    (c1 : PySem.W.codeIn K cd1 "cost_of" = true)
    (k1 : PySem.W.keepIn K (.ref f1) = true)
    (a2 : PySem.W.nsIn K mainGlobals "claim_row" = some (some (.ref f2)))
    (l2 : K.lookup f2 = some ⟨oc2, od2, .func (PySem.W.fnOf "claim_row" "claim_row" (defArgs sClaimRow) (defBody sClaimRow) (defScope sClaimRow) (.none) kV2 dc2 pm2 an2 cd2 ct2), sl2⟩)
    (c2 : PySem.W.codeIn K cd2 "claim_row" = true)
    (k2 : PySem.W.keepIn K (.ref f2) = true)
    (a3 : PySem.W.nsIn K mainGlobals "step_row" = some (some (.ref f3)))
    (l3 : K.lookup f3 = some ⟨oc3, od3, .func (PySem.W.fnOf "step_row" "step_row" (defArgs sStepRow) (defBody sStepRow) (defScope sStepRow) (.none) kV3 dc3 pm3 an3 cd3 ct3), sl3⟩)
    (c3 : PySem.W.codeIn K cd3 "step_row" = true)
    (k3 : PySem.W.keepIn K (.ref f3) = true)
    (a4 : PySem.W.nsIn K mainGlobals "pay_row" = some (some (.ref f4)))
    (l4 : K.lookup f4 = some ⟨oc4, od4, .func (PySem.W.fnOf "pay_row" "pay_row" (defArgs sPayRow) (defBody sPayRow) (defScope sPayRow) (.none) kV4 dc4 pm4 an4 cd4 ct4), sl4⟩)
    (c4 : PySem.W.codeIn K cd4 "pay_row" = true)
    (k4 : PySem.W.keepIn K (.ref f4) = true)
    (a5 : PySem.W.nsIn K mainGlobals "dun_row" = some (some (.ref f5)))
    (l5 : K.lookup f5 = some ⟨oc5, od5, .func (PySem.W.fnOf "dun_row" "dun_row" (defArgs sDunRow) (defBody sDunRow) (defScope sDunRow) (.none) kV5 dc5 pm5 an5 cd5 ct5), sl5⟩)
    (c5 : PySem.W.codeIn K cd5 "dun_row" = true)
    (k5 : PySem.W.keepIn K (.ref f5) = true)
    (a6 : PySem.W.nsIn K mainGlobals "rounds_of" = some (some (.ref f6)))
    (l6 : K.lookup f6 = some ⟨oc6, od6, .func (PySem.W.fnOf "rounds_of" "rounds_of" (defArgs sRoundsOf) (defBody sRoundsOf) (defScope sRoundsOf) (.none) kV6 dc6 pm6 an6 cd6 ct6), sl6⟩)
    (c6 : PySem.W.codeIn K cd6 "rounds_of" = true)
    (k6 : PySem.W.keepIn K (.ref f6) = true)
    (a7 : PySem.W.nsIn K mainGlobals "put_row" = some (some (.ref f7)))
    (l7 : K.lookup f7 = some ⟨oc7, od7, .func (PySem.W.fnOf "put_row" "put_row" (defArgs sPutRow) (defBody sPutRow) (defScope sPutRow) (.none) kV7 dc7 pm7 an7 cd7 ct7), sl7⟩)
    (c7 : PySem.W.codeIn K cd7 "put_row" = true)
    (k7 : PySem.W.keepIn K (.ref f7) = true)
    (a8 : PySem.W.nsIn K mainGlobals "over_of" = some (some (.ref f8)))
    (l8 : K.lookup f8 = some ⟨oc8, od8, .func (PySem.W.fnOf "over_of" "over_of" (defArgs sOverOf) (defBody sOverOf) (defScope sOverOf) (.none) kV8 dc8 pm8 an8 cd8 ct8), sl8⟩)
    (c8 : PySem.W.codeIn K cd8 "over_of" = true)
    (k8 : PySem.W.keepIn K (.ref f8) = true)
    (a9 : PySem.W.nsIn K mainGlobals "claims_of" = some (some (.ref f9)))
    (l9 : K.lookup f9 = some ⟨oc9, od9, .func (PySem.W.fnOf "claims_of" "claims_of" (defArgs sClaimsOf) (defBody sClaimsOf) (defScope sClaimsOf) (.none) kV9 dc9 pm9 an9 cd9 ct9), sl9⟩)
    (c9 : PySem.W.codeIn K cd9 "claims_of" = true)
    (k9 : PySem.W.keepIn K (.ref f9) = true)
    (a10 : PySem.W.nsIn K mainGlobals "find_claim" = some (some (.ref f10)))
    (l10 : K.lookup f10 = some ⟨oc10, od10, .func (PySem.W.fnOf "find_claim" "find_claim" (defArgs sFindClaim) (defBody sFindClaim) (defScope sFindClaim) (.none) kV10 dc10 pm10 an10 cd10 ct10), sl10⟩)
    (c10 : PySem.W.codeIn K cd10 "find_claim" = true)
    (k10 : PySem.W.keepIn K (.ref f10) = true)
    (a11 : PySem.W.nsIn K mainGlobals "worth_of" = some (some (.ref f11)))
    (l11 : K.lookup f11 = some ⟨oc11, od11, .func (PySem.W.fnOf "worth_of" "worth_of" (defArgs sWorthOf) (defBody sWorthOf) (defScope sWorthOf) (.none) kV11 dc11 pm11 an11 cd11 ct11), sl11⟩)
    (c11 : PySem.W.codeIn K cd11 "worth_of" = true)
    (k11 : PySem.W.keepIn K (.ref f11) = true)
    (a12 : PySem.W.nsIn K mainGlobals "rows_until" = some (some (.ref f12)))
    (l12 : K.lookup f12 = some ⟨oc12, od12, .func (PySem.W.fnOf "rows_until" "rows_until" (defArgs sRowsUntil) (defBody sRowsUntil) (defScope sRowsUntil) (.none) kV12 dc12 pm12 an12 cd12 ct12), sl12⟩)
    (c12 : PySem.W.codeIn K cd12 "rows_until" = true)
    (k12 : PySem.W.keepIn K (.ref f12) = true)
    (a13 : PySem.W.nsIn K mainGlobals "check_row" = some (some (.ref f13)))
    (l13 : K.lookup f13 = some ⟨oc13, od13, .func (PySem.W.fnOf "check_row" "check_row" (defArgs sCheckRow) (defBody sCheckRow) (defScope sCheckRow) (.none) kV13 dc13 pm13 an13 cd13 ct13), sl13⟩)
    (c13 : PySem.W.codeIn K cd13 "check_row" = true)
    (k13 : PySem.W.keepIn K (.ref f13) = true)
    (a14 : PySem.W.nsIn K mainGlobals "check_next" = some (some (.ref f14)))
    (l14 : K.lookup f14 = some ⟨oc14, od14, .func (PySem.W.fnOf "check_next" "check_next" (defArgs sCheckNext) (defBody sCheckNext) (defScope sCheckNext) (.none) kV14 dc14 pm14 an14 cd14 ct14), sl14⟩)
    (c14 : PySem.W.codeIn K cd14 "check_next" = true)
    (k14 : PySem.W.keepIn K (.ref f14) = true)
    (a15 : PySem.W.nsIn K mainGlobals "lacks_claim" = some (some (.ref f15)))
    (l15 : K.lookup f15 = some ⟨oc15, od15, .func (PySem.W.fnOf "lacks_claim" "lacks_claim" (defArgs sLacksClaim) (defBody sLacksClaim) (defScope sLacksClaim) (.none) kV15 dc15 pm15 an15 cd15 ct15), sl15⟩)
    (c15 : PySem.W.codeIn K cd15 "lacks_claim" = true)
    (k15 : PySem.W.keepIn K (.ref f15) = true)
    (a16 : PySem.W.nsIn K mainGlobals "meets_over" = some (some (.ref f16)))
    (l16 : K.lookup f16 = some ⟨oc16, od16, .func (PySem.W.fnOf "meets_over" "meets_over" (defArgs sMeetsOver) (defBody sMeetsOver) (defScope sMeetsOver) (.none) kV16 dc16 pm16 an16 cd16 ct16), sl16⟩)
    (c16 : PySem.W.codeIn K cd16 "meets_over" = true)
    (k16 : PySem.W.keepIn K (.ref f16) = true)
    (a17 : PySem.W.nsIn K mainGlobals "comes_twice" = some (some (.ref f17)))
    (l17 : K.lookup f17 = some ⟨oc17, od17, .func (PySem.W.fnOf "comes_twice" "comes_twice" (defArgs sComesTwice) (defBody sComesTwice) (defScope sComesTwice) (.none) kV17 dc17 pm17 an17 cd17 ct17), sl17⟩)
    (c17 : PySem.W.codeIn K cd17 "comes_twice" = true)
    (k17 : PySem.W.keepIn K (.ref f17) = true)
    (a18 : PySem.W.nsIn K mainGlobals "names_too_much" = some (some (.ref f18)))
    (l18 : K.lookup f18 = some ⟨oc18, od18, .func (PySem.W.fnOf "names_too_much" "names_too_much" (defArgs sNamesTooMuch) (defBody sNamesTooMuch) (defScope sNamesTooMuch) (.none) kV18 dc18 pm18 an18 cd18 ct18), sl18⟩)
    (c18 : PySem.W.codeIn K cd18 "names_too_much" = true)
    (k18 : PySem.W.keepIn K (.ref f18) = true)
    (a19 : PySem.W.nsIn K mainGlobals "worth_in" = some (some (.ref f19)))
    (l19 : K.lookup f19 = some ⟨oc19, od19, .func (PySem.W.fnOf "worth_in" "worth_in" (defArgs sWorthIn) (defBody sWorthIn) (defScope sWorthIn) (.none) kV19 dc19 pm19 an19 cd19 ct19), sl19⟩)
    (c19 : PySem.W.codeIn K cd19 "worth_in" = true)
    (k19 : PySem.W.keepIn K (.ref f19) = true)
    (a20 : PySem.W.nsIn K mainGlobals "lines_of" = some (some (.ref f20)))
    (l20 : K.lookup f20 = some ⟨oc20, od20, .func (PySem.W.fnOf "lines_of" "lines_of" (defArgs sLinesOf) (defBody sLinesOf) (defScope sLinesOf) (.none) kV20 dc20 pm20 an20 cd20 ct20), sl20⟩)
    (c20 : PySem.W.codeIn K cd20 "lines_of" = true)
    (k20 : PySem.W.keepIn K (.ref f20) = true)
    (a21 : PySem.W.nsIn K mainGlobals "line_of" = some (some (.ref f21)))
    (l21 : K.lookup f21 = some ⟨oc21, od21, .func (PySem.W.fnOf "line_of" "line_of" (defArgs sLineOf) (defBody sLineOf) (defScope sLineOf) (.none) kV21 dc21 pm21 an21 cd21 ct21), sl21⟩)
    (c21 : PySem.W.codeIn K cd21 "line_of" = true)
    (k21 : PySem.W.keepIn K (.ref f21) = true)
    (a22 : PySem.W.nsIn K mainGlobals "costs_of" = some (some (.ref f22)))
    (l22 : K.lookup f22 = some ⟨oc22, od22, .func (PySem.W.fnOf "costs_of" "costs_of" (defArgs sCostsOf) (defBody sCostsOf) (defScope sCostsOf) (.none) kV22 dc22 pm22 an22 cd22 ct22), sl22⟩)
    (c22 : PySem.W.codeIn K cd22 "costs_of" = true)
    (k22 : PySem.W.keepIn K (.ref f22) = true)
    (a23 : PySem.W.nsIn K mainGlobals "offers_of" = some (some (.ref f23)))
    (l23 : K.lookup f23 = some ⟨oc23, od23, .func (PySem.W.fnOf "offers_of" "offers_of" (defArgs sOffersOf) (defBody sOffersOf) (defScope sOffersOf) (.none) kV23 dc23 pm23 an23 cd23 ct23), sl23⟩)
    (c23 : PySem.W.codeIn K cd23 "offers_of" = true)
    (k23 : PySem.W.keepIn K (.ref f23) = true)
    (a24 : PySem.W.nsIn K mainGlobals "line_of_one" = some (some (.ref f24)))
    (l24 : K.lookup f24 = some ⟨oc24, od24, .func (PySem.W.fnOf "line_of_one" "line_of_one" (defArgs sLineOfOne) (defBody sLineOfOne) (defScope sLineOfOne) (.none) kV24 dc24 pm24 an24 cd24 ct24), sl24⟩)
    (c24 : PySem.W.codeIn K cd24 "line_of_one" = true)
    (k24 : PySem.W.keepIn K (.ref f24) = true)
    (a25 : PySem.W.nsIn K mainGlobals "bills_of" = some (some (.ref f25)))
    (l25 : K.lookup f25 = some ⟨oc25, od25, .func (PySem.W.fnOf "bills_of" "bills_of" (defArgs sBillsOf) (defBody sBillsOf) (defScope sBillsOf) (.none) kV25 dc25 pm25 an25 cd25 ct25), sl25⟩)
    (c25 : PySem.W.codeIn K cd25 "bills_of" = true)
    (k25 : PySem.W.keepIn K (.ref f25) = true)
    (a26 : PySem.W.nsIn K mainGlobals "bill_of" = some (some (.ref f26)))
    (l26 : K.lookup f26 = some ⟨oc26, od26, .func (PySem.W.fnOf "bill_of" "bill_of" (defArgs sBillOf) (defBody sBillOf) (defScope sBillOf) (.none) kV26 dc26 pm26 an26 cd26 ct26), sl26⟩)
    (c26 : PySem.W.codeIn K cd26 "bill_of" = true)
    (k26 : PySem.W.keepIn K (.ref f26) = true)
    (a27 : PySem.W.nsIn K mainGlobals "pays_of" = some (some (.ref f27)))
    (l27 : K.lookup f27 = some ⟨oc27, od27, .func (PySem.W.fnOf "pays_of" "pays_of" (defArgs sPaysOf) (defBody sPaysOf) (defScope sPaysOf) (.none) kV27 dc27 pm27 an27 cd27 ct27), sl27⟩)
    (c27 : PySem.W.codeIn K cd27 "pays_of" = true)
    (k27 : PySem.W.keepIn K (.ref f27) = true)
    (a28 : PySem.W.nsIn K mainGlobals "owed_of" = some (some (.ref f28)))
    (l28 : K.lookup f28 = some ⟨oc28, od28, .func (PySem.W.fnOf "owed_of" "owed_of" (defArgs sOwedOf) (defBody sOwedOf) (defScope sOwedOf) (.none) kV28 dc28 pm28 an28 cd28 ct28), sl28⟩)
    (c28 : PySem.W.codeIn K cd28 "owed_of" = true)
    (k28 : PySem.W.keepIn K (.ref f28) = true)
    (a29 : PySem.W.nsIn K mainGlobals "coin_days_of" = some (some (.ref f29)))
    (l29 : K.lookup f29 = some ⟨oc29, od29, .func (PySem.W.fnOf "coin_days_of" "coin_days_of" (defArgs sCoinDaysOf) (defBody sCoinDaysOf) (defScope sCoinDaysOf) (.none) kV29 dc29 pm29 an29 cd29 ct29), sl29⟩)
    (c29 : PySem.W.codeIn K cd29 "coin_days_of" = true)
    (k29 : PySem.W.keepIn K (.ref f29) = true)
    (a30 : PySem.W.nsIn K mainGlobals "first_dun" = some (some (.ref f30)))
    (l30 : K.lookup f30 = some ⟨oc30, od30, .func (PySem.W.fnOf "first_dun" "first_dun" (defArgs sFirstDun) (defBody sFirstDun) (defScope sFirstDun) (.none) kV30 dc30 pm30 an30 cd30 ct30), sl30⟩)
    (c30 : PySem.W.codeIn K cd30 "first_dun" = true)
    (k30 : PySem.W.keepIn K (.ref f30) = true)
    (a31 : PySem.W.nsIn K mainGlobals "_law_at" = some (some (.ref f31)))
    (l31 : K.lookup f31 = some ⟨oc31, od31, .func (PySem.W.fnOf "_law_at" "_law_at" (defArgs sLAt) (defBody sLAt) (defScope sLAt) (.none) kV31 dc31 pm31 an31 cd31 ct31), sl31⟩)
    (c31 : PySem.W.codeIn K cd31 "_law_at" = true)
    (k31 : PySem.W.keepIn K (.ref f31) = true)
    (a32 : PySem.W.nsIn K mainGlobals "_law_int" = some (some (.ref f32)))
    (l32 : K.lookup f32 = some ⟨oc32, od32, .func (PySem.W.fnOf "_law_int" "_law_int" (defArgs sLInt) (defBody sLInt) (defScope sLInt) (.none) kV32 dc32 pm32 an32 cd32 ct32), sl32⟩)
    (c32 : PySem.W.codeIn K cd32 "_law_int" = true)
    (k32 : PySem.W.keepIn K (.ref f32) = true)
    (a33 : PySem.W.nsIn K mainGlobals "_law_ints" = some (some (.ref f33)))
    (l33 : K.lookup f33 = some ⟨oc33, od33, .func (PySem.W.fnOf "_law_ints" "_law_ints" (defArgs sLInts) (defBody sLInts) (defScope sLInts) (.none) kV33 dc33 pm33 an33 cd33 ct33), sl33⟩)
    (c33 : PySem.W.codeIn K cd33 "_law_ints" = true)
    (k33 : PySem.W.keepIn K (.ref f33) = true)
    (a34 : PySem.W.nsIn K mainGlobals "_law_same_bill" = some (some (.ref f34)))
    (l34 : K.lookup f34 = some ⟨oc34, od34, .func (PySem.W.fnOf "_law_same_bill" "_law_same_bill" (defArgs sLSameBill) (defBody sLSameBill) (defScope sLSameBill) (.none) kV34 dc34 pm34 an34 cd34 ct34), sl34⟩)
    (c34 : PySem.W.codeIn K cd34 "_law_same_bill" = true)
    (k34 : PySem.W.keepIn K (.ref f34) = true)
    (a35 : PySem.W.nsIn K mainGlobals "_law_coins" = some (some (.ref f35)))
    (l35 : K.lookup f35 = some ⟨oc35, od35, .func (PySem.W.fnOf "_law_coins" "_law_coins" (defArgs sLCoins) (defBody sLCoins) (defScope sLCoins) (.none) kV35 dc35 pm35 an35 cd35 ct35), sl35⟩)
    (c35 : PySem.W.codeIn K cd35 "_law_coins" = true)
    (k35 : PySem.W.keepIn K (.ref f35) = true)
    (a36 : PySem.W.nsIn K mainGlobals "law" = some (some (.ref f36)))
    (l36 : K.lookup f36 = some ⟨oc36, od36, .func (PySem.W.fnOf "law" "law" (defArgs sLaw) (defBody sLaw) (defScope sLaw) (.none) kV36 dc36 pm36 an36 cd36 ct36), sl36⟩)
    (c36 : PySem.W.codeIn K cd36 "law" = true)
    (k36 : PySem.W.keepIn K (.ref f36) = true)
    (a37 : PySem.W.findIn K (.ref cB) "__init__" = some (some (.ref f37)))
    (i37 : PySem.W.isFn K (.ref f37) = true)
    (l37 : K.lookup f37 = some ⟨oc37, od37, .func (PySem.W.fnOf "__init__" "Book.__init__" (defArgs sBookInit) (defBody sBookInit) (defScope sBookInit) (.none) kV37 dc37 pm37 an37 cd37 ct37), sl37⟩)
    (c37 : PySem.W.codeIn K cd37 "Book.__init__" = true)
    (k37 : PySem.W.keepIn K (.ref f37) = true)
    (a38 : PySem.W.findIn K (.ref cB) "claim" = some (some (.ref f38)))
    (i38 : PySem.W.isFn K (.ref f38) = true)
    (l38 : K.lookup f38 = some ⟨oc38, od38, .func (PySem.W.fnOf "claim" "Book.claim" (defArgs sBookClaim) (defBody sBookClaim) (defScope sBookClaim) (.none) kV38 dc38 pm38 an38 cd38 ct38), sl38⟩)
    (c38 : PySem.W.codeIn K cd38 "Book.claim" = true)
    (k38 : PySem.W.keepIn K (.ref f38) = true)
    (a39 : PySem.W.findIn K (.ref cB) "step" = some (some (.ref f39)))
    (i39 : PySem.W.isFn K (.ref f39) = true)
    (l39 : K.lookup f39 = some ⟨oc39, od39, .func (PySem.W.fnOf "step" "Book.step" (defArgs sBookStep) (defBody sBookStep) (defScope sBookStep) (.ref dT39) kV39 dc39 pm39 an39 cd39 ct39), sl39⟩)
    (c39 : PySem.W.codeIn K cd39 "Book.step" = true)
    (k39 : PySem.W.keepIn K (.ref f39) = true)
    (d39 : K.lookup dT39 = some ⟨do39, dd39, .seq #[.str "none" kd39_0] dn39, ds39⟩)
    (a40 : PySem.W.findIn K (.ref cB) "pay" = some (some (.ref f40)))
    (i40 : PySem.W.isFn K (.ref f40) = true)
    (l40 : K.lookup f40 = some ⟨oc40, od40, .func (PySem.W.fnOf "pay" "Book.pay" (defArgs sBookPay) (defBody sBookPay) (defScope sBookPay) (.none) kV40 dc40 pm40 an40 cd40 ct40), sl40⟩)
    (c40 : PySem.W.codeIn K cd40 "Book.pay" = true)
    (k40 : PySem.W.keepIn K (.ref f40) = true)
    (a41 : PySem.W.findIn K (.ref cB) "dun" = some (some (.ref f41)))
    (i41 : PySem.W.isFn K (.ref f41) = true)
    (l41 : K.lookup f41 = some ⟨oc41, od41, .func (PySem.W.fnOf "dun" "Book.dun" (defArgs sBookDun) (defBody sBookDun) (defScope sBookDun) (.none) kV41 dc41 pm41 an41 cd41 ct41), sl41⟩)
    (c41 : PySem.W.codeIn K cd41 "Book.dun" = true)
    (k41 : PySem.W.keepIn K (.ref f41) = true)
    (a42 : PySem.W.findIn K (.ref cB) "write" = some (some (.ref f42)))
    (i42 : PySem.W.isFn K (.ref f42) = true)
    (l42 : K.lookup f42 = some ⟨oc42, od42, .func (PySem.W.fnOf "write" "Book.write" (defArgs sBookWrite) (defBody sBookWrite) (defScope sBookWrite) (.none) kV42 dc42 pm42 an42 cd42 ct42), sl42⟩)
    (c42 : PySem.W.codeIn K cd42 "Book.write" = true)
    (k42 : PySem.W.keepIn K (.ref f42) = true)
    (a43 : PySem.W.findIn K (.ref cB) "rows_kept" = some (some (.ref f43)))
    (i43 : PySem.W.isFn K (.ref f43) = true)
    (l43 : K.lookup f43 = some ⟨oc43, od43, .func (PySem.W.fnOf "rows_kept" "Book.rows_kept" (defArgs sBookRowsKept) (defBody sBookRowsKept) (defScope sBookRowsKept) (.ref dT43) kV43 dc43 pm43 an43 cd43 ct43), sl43⟩)
    (c43 : PySem.W.codeIn K cd43 "Book.rows_kept" = true)
    (k43 : PySem.W.keepIn K (.ref f43) = true)
    (d43 : K.lookup dT43 = some ⟨do43, dd43, .seq #[.none] dn43, ds43⟩)
    (a44 : PySem.W.findIn K (.ref cB) "bills" = some (some (.ref f44)))
    (i44 : PySem.W.isFn K (.ref f44) = true)
    (l44 : K.lookup f44 = some ⟨oc44, od44, .func (PySem.W.fnOf "bills" "Book.bills" (defArgs sBookBills) (defBody sBookBills) (defScope sBookBills) (.none) kV44 dc44 pm44 an44 cd44 ct44), sl44⟩)
    (c44 : PySem.W.codeIn K cd44 "Book.bills" = true)
    (k44 : PySem.W.keepIn K (.ref f44) = true)
    (a45 : PySem.W.findIn K (.ref cB) "bill" = some (some (.ref f45)))
    (i45 : PySem.W.isFn K (.ref f45) = true)
    (l45 : K.lookup f45 = some ⟨oc45, od45, .func (PySem.W.fnOf "bill" "Book.bill" (defArgs sBookBill) (defBody sBookBill) (defScope sBookBill) (.ref dT45) kV45 dc45 pm45 an45 cd45 ct45), sl45⟩)
    (c45 : PySem.W.codeIn K cd45 "Book.bill" = true)
    (k45 : PySem.W.keepIn K (.ref f45) = true)
    (d45 : K.lookup dT45 = some ⟨do45, dd45, .seq #[.none] dn45, ds45⟩)
    (z_any : PySem.W.nsIn K mainGlobals "any" = some none)
    (z_bool : PySem.W.nsIn K mainGlobals "bool" = some none)
    (z_enumerate : PySem.W.nsIn K mainGlobals "enumerate" = some none)
    (z_int : PySem.W.nsIn K mainGlobals "int" = some none)
    (z_isinstance : PySem.W.nsIn K mainGlobals "isinstance" = some none)
    (z_len : PySem.W.nsIn K mainGlobals "len" = some none)
    (z_list : PySem.W.nsIn K mainGlobals "list" = some none)
    (z_max : PySem.W.nsIn K mainGlobals "max" = some none)
    (z_range : PySem.W.nsIn K mainGlobals "range" = some none)
    (z_set : PySem.W.nsIn K mainGlobals "set" = some none)
    (z_str : PySem.W.nsIn K mainGlobals "str" = some none)
    (z_sum : PySem.W.nsIn K mainGlobals "sum" = some none)
    (z_tuple : PySem.W.nsIn K mainGlobals "tuple" = some none)
    (z_zip : PySem.W.nsIn K mainGlobals "zip" = some none)
    (y_CLAIM : PySem.W.nsIn K mainGlobals "CLAIM" = some (some (.int (3) tk_CLAIM)))
    (y_DAY : PySem.W.nsIn K mainGlobals "DAY" = some (some (.int (2) tk_DAY)))
    (y_DUN_SIDE : PySem.W.nsIn K mainGlobals "DUN_SIDE" = some (some (.int (3) tk_DUN_SIDE)))
    (y_INTEREST_COINS : PySem.W.nsIn K mainGlobals "INTEREST_COINS" = some (some (.int (5) tk_INTEREST_COINS)))
    (y_INTEREST_COIN_DAYS : PySem.W.nsIn K mainGlobals "INTEREST_COIN_DAYS" = some (some (.int (36500) tk_INTEREST_COIN_DAYS)))
    (y_LINE_PARTS : PySem.W.nsIn K mainGlobals "LINE_PARTS" = some (some (.int (4) tk_LINE_PARTS)))
    (y_LINE_REASON : PySem.W.nsIn K mainGlobals "LINE_REASON" = some (some (.int (3) tk_LINE_REASON)))
    (y_LINE_ROW : PySem.W.nsIn K mainGlobals "LINE_ROW" = some (some (.int (0) tk_LINE_ROW)))
    (y_MOST_ROWS : PySem.W.nsIn K mainGlobals "MOST_ROWS" = some (some (.int (300) tk_MOST_ROWS)))
    (y_NUMBER : PySem.W.nsIn K mainGlobals "NUMBER" = some (some (.int (0) tk_NUMBER)))
    (y_OFFER_AMOUNT : PySem.W.nsIn K mainGlobals "OFFER_AMOUNT" = some (some (.int (5) tk_OFFER_AMOUNT)))
    (y_OFFER_CLAIM : PySem.W.nsIn K mainGlobals "OFFER_CLAIM" = some (some (.int (4) tk_OFFER_CLAIM)))
    (y_PAY_COINS : PySem.W.nsIn K mainGlobals "PAY_COINS" = some (some (.int (5) tk_PAY_COINS)))
    (y_PAY_SIDE : PySem.W.nsIn K mainGlobals "PAY_SIDE" = some (some (.int (3) tk_PAY_SIDE)))
    (y_ROUNDS : PySem.W.nsIn K mainGlobals "ROUNDS" = some (some (.int (3) tk_ROUNDS)))
    (y_RULE_WINS : PySem.W.nsIn K mainGlobals "RULE_WINS" = some (some (.int (5) tk_RULE_WINS)))
    (y_STEP_KIND : PySem.W.nsIn K mainGlobals "STEP_KIND" = some (some (.int (5) tk_STEP_KIND)))
    (y_STEP_LAID : PySem.W.nsIn K mainGlobals "STEP_LAID" = some (some (.int (7) tk_STEP_LAID)))
    (y_STEP_MANY : PySem.W.nsIn K mainGlobals "STEP_MANY" = some (some (.int (6) tk_STEP_MANY)))
    (y_STEP_SIDE : PySem.W.nsIn K mainGlobals "STEP_SIDE" = some (some (.int (4) tk_STEP_SIDE)))
    (y_TURN : PySem.W.nsIn K mainGlobals "TURN" = some (some (.int (3) tk_TURN)))
    (y_WORD : PySem.W.nsIn K mainGlobals "WORD" = some (some (.int (1) tk_WORD)))
    (y_WORTH : PySem.W.nsIn K mainGlobals "WORTH" = some (some (.int (3) tk_WORTH)))
    (pg : PySem.W.plainGet K cB Str.empty = true)
    (hd : PySem.W.hasDictIn K cB = true)
    (po : PySem.W.plainOver K cB = true)
    (sa : PySem.W.findIn K (.ref cB) "__setattr__" = some (some (.builtin "object.__setattr__")))
    (mk : PySem.W.makesIn K cB = true)
    (kc : PySem.W.keepIn K (.ref cB) = true)
    (nf_people : PySem.W.findIn K (.ref cB) "people" = some none)
    (nf_court : PySem.W.findIn K (.ref cB) "court" = some none)
    (nf_speakers : PySem.W.findIn K (.ref cB) "speakers" = some none)
    (nf_rows : PySem.W.findIn K (.ref cB) "rows" = some none)
    (nf_came : PySem.W.findIn K (.ref cB) "came" = some none)
    (nf_went : PySem.W.findIn K (.ref cB) "went" = some none)
    (nf_done : PySem.W.findIn K (.ref cB) "done" = some none)
    (xd_CostError : PySem.W.hasDictIn K c_CostError = true)
    (xy_CostError : PySem.W.typeIn K (.ref c_CostError) = some (.type "type"))
    (xd_Full : PySem.W.hasDictIn K c_Full = true)
    (xy_Full : PySem.W.typeIn K (.ref c_Full) = some (.type "type"))
    (xd_NoClaim : PySem.W.hasDictIn K c_NoClaim = true)
    (xy_NoClaim : PySem.W.typeIn K (.ref c_NoClaim) = some (.type "type"))
    (xd_RoundOver : PySem.W.hasDictIn K c_RoundOver = true)
    (xy_RoundOver : PySem.W.typeIn K (.ref c_RoundOver) = some (.type "type"))
    (xd_TooLate : PySem.W.hasDictIn K c_TooLate = true)
    (xy_TooLate : PySem.W.typeIn K (.ref c_TooLate) = some (.type "type"))
    (xd_Twice : PySem.W.hasDictIn K c_Twice = true)
    (xy_Twice : PySem.W.typeIn K (.ref c_Twice) = some (.type "type"))
    (xd_TooMuch : PySem.W.hasDictIn K c_TooMuch = true)
    (xy_TooMuch : PySem.W.typeIn K (.ref c_TooMuch) = some (.type "type"))
    (xB : PySem.W.subIn K (.ref c_CostError) (.type "BaseException") = some true)
    (xx_Full : ExcCls K c_Full)
    (xg_Full : PySem.W.findIn K (.ref c_Full) "__getattribute__" = some (some (.builtin "BaseException.__getattribute__")))
    (xh_Full : PySem.W.findIn K (.ref c_Full) "__getattr__" = some none)
    (xa_Full : PySem.W.findIn K (.ref c_Full) "__class__" = some (some (.builtin "object.__class__")))
    (xo_Full : PySem.W.mroIn K c_Full (.type "object") = some true)
    (xb_Full : PySem.W.mroIn K c_Full (.type "BaseException") = some true)
    (xk_Full_CostError : PySem.W.subIn K (.ref c_Full) (.ref c_CostError) = some true)
    (xk_Full_NoClaim : PySem.W.subIn K (.ref c_Full) (.ref c_NoClaim) = some false)
    (xn_Full_NoClaim : (Value.ref c_Full == Value.ref c_NoClaim) = false)
    (xk_Full_RoundOver : PySem.W.subIn K (.ref c_Full) (.ref c_RoundOver) = some false)
    (xn_Full_RoundOver : (Value.ref c_Full == Value.ref c_RoundOver) = false)
    (xk_Full_TooLate : PySem.W.subIn K (.ref c_Full) (.ref c_TooLate) = some false)
    (xn_Full_TooLate : (Value.ref c_Full == Value.ref c_TooLate) = false)
    (xk_Full_Twice : PySem.W.subIn K (.ref c_Full) (.ref c_Twice) = some false)
    (xn_Full_Twice : (Value.ref c_Full == Value.ref c_Twice) = false)
    (xk_Full_TooMuch : PySem.W.subIn K (.ref c_Full) (.ref c_TooMuch) = some false)
    (xn_Full_TooMuch : (Value.ref c_Full == Value.ref c_TooMuch) = false)
    (xx_NoClaim : ExcCls K c_NoClaim)
    (xg_NoClaim : PySem.W.findIn K (.ref c_NoClaim) "__getattribute__" = some (some (.builtin "BaseException.__getattribute__")))
    (xh_NoClaim : PySem.W.findIn K (.ref c_NoClaim) "__getattr__" = some none)
    (xa_NoClaim : PySem.W.findIn K (.ref c_NoClaim) "__class__" = some (some (.builtin "object.__class__")))
    (xo_NoClaim : PySem.W.mroIn K c_NoClaim (.type "object") = some true)
    (xb_NoClaim : PySem.W.mroIn K c_NoClaim (.type "BaseException") = some true)
    (xk_NoClaim_CostError : PySem.W.subIn K (.ref c_NoClaim) (.ref c_CostError) = some true)
    (xk_NoClaim_Full : PySem.W.subIn K (.ref c_NoClaim) (.ref c_Full) = some false)
    (xn_NoClaim_Full : (Value.ref c_NoClaim == Value.ref c_Full) = false)
    (xk_NoClaim_RoundOver : PySem.W.subIn K (.ref c_NoClaim) (.ref c_RoundOver) = some false)
    (xn_NoClaim_RoundOver : (Value.ref c_NoClaim == Value.ref c_RoundOver) = false)
    (xk_NoClaim_TooLate : PySem.W.subIn K (.ref c_NoClaim) (.ref c_TooLate) = some false)
    (xn_NoClaim_TooLate : (Value.ref c_NoClaim == Value.ref c_TooLate) = false)
    (xk_NoClaim_Twice : PySem.W.subIn K (.ref c_NoClaim) (.ref c_Twice) = some false)
    (xn_NoClaim_Twice : (Value.ref c_NoClaim == Value.ref c_Twice) = false)
    (xk_NoClaim_TooMuch : PySem.W.subIn K (.ref c_NoClaim) (.ref c_TooMuch) = some false)
    (xn_NoClaim_TooMuch : (Value.ref c_NoClaim == Value.ref c_TooMuch) = false)
    (xx_RoundOver : ExcCls K c_RoundOver)
    (xg_RoundOver : PySem.W.findIn K (.ref c_RoundOver) "__getattribute__" = some (some (.builtin "BaseException.__getattribute__")))
    (xh_RoundOver : PySem.W.findIn K (.ref c_RoundOver) "__getattr__" = some none)
    (xa_RoundOver : PySem.W.findIn K (.ref c_RoundOver) "__class__" = some (some (.builtin "object.__class__")))
    (xo_RoundOver : PySem.W.mroIn K c_RoundOver (.type "object") = some true)
    (xb_RoundOver : PySem.W.mroIn K c_RoundOver (.type "BaseException") = some true)
    (xk_RoundOver_CostError : PySem.W.subIn K (.ref c_RoundOver) (.ref c_CostError) = some true)
    (xk_RoundOver_Full : PySem.W.subIn K (.ref c_RoundOver) (.ref c_Full) = some false)
    (xn_RoundOver_Full : (Value.ref c_RoundOver == Value.ref c_Full) = false)
    (xk_RoundOver_NoClaim : PySem.W.subIn K (.ref c_RoundOver) (.ref c_NoClaim) = some false)
    (xn_RoundOver_NoClaim : (Value.ref c_RoundOver == Value.ref c_NoClaim) = false)
    (xk_RoundOver_TooLate : PySem.W.subIn K (.ref c_RoundOver) (.ref c_TooLate) = some false)
    (xn_RoundOver_TooLate : (Value.ref c_RoundOver == Value.ref c_TooLate) = false)
    (xk_RoundOver_Twice : PySem.W.subIn K (.ref c_RoundOver) (.ref c_Twice) = some false)
    (xn_RoundOver_Twice : (Value.ref c_RoundOver == Value.ref c_Twice) = false)
    (xk_RoundOver_TooMuch : PySem.W.subIn K (.ref c_RoundOver) (.ref c_TooMuch) = some false)
    (xn_RoundOver_TooMuch : (Value.ref c_RoundOver == Value.ref c_TooMuch) = false)
    (xx_TooLate : ExcCls K c_TooLate)
    (xg_TooLate : PySem.W.findIn K (.ref c_TooLate) "__getattribute__" = some (some (.builtin "BaseException.__getattribute__")))
    (xh_TooLate : PySem.W.findIn K (.ref c_TooLate) "__getattr__" = some none)
    (xa_TooLate : PySem.W.findIn K (.ref c_TooLate) "__class__" = some (some (.builtin "object.__class__")))
    (xo_TooLate : PySem.W.mroIn K c_TooLate (.type "object") = some true)
    (xb_TooLate : PySem.W.mroIn K c_TooLate (.type "BaseException") = some true)
    (xk_TooLate_CostError : PySem.W.subIn K (.ref c_TooLate) (.ref c_CostError) = some true)
    (xk_TooLate_Full : PySem.W.subIn K (.ref c_TooLate) (.ref c_Full) = some false)
    (xn_TooLate_Full : (Value.ref c_TooLate == Value.ref c_Full) = false)
    (xk_TooLate_NoClaim : PySem.W.subIn K (.ref c_TooLate) (.ref c_NoClaim) = some false)
    (xn_TooLate_NoClaim : (Value.ref c_TooLate == Value.ref c_NoClaim) = false)
    (xk_TooLate_RoundOver : PySem.W.subIn K (.ref c_TooLate) (.ref c_RoundOver) = some false)
    (xn_TooLate_RoundOver : (Value.ref c_TooLate == Value.ref c_RoundOver) = false)
    (xk_TooLate_Twice : PySem.W.subIn K (.ref c_TooLate) (.ref c_Twice) = some false)
    (xn_TooLate_Twice : (Value.ref c_TooLate == Value.ref c_Twice) = false)
    (xk_TooLate_TooMuch : PySem.W.subIn K (.ref c_TooLate) (.ref c_TooMuch) = some false)
    (xn_TooLate_TooMuch : (Value.ref c_TooLate == Value.ref c_TooMuch) = false)
    (xx_Twice : ExcCls K c_Twice)
    (xg_Twice : PySem.W.findIn K (.ref c_Twice) "__getattribute__" = some (some (.builtin "BaseException.__getattribute__")))
    (xh_Twice : PySem.W.findIn K (.ref c_Twice) "__getattr__" = some none)
    (xa_Twice : PySem.W.findIn K (.ref c_Twice) "__class__" = some (some (.builtin "object.__class__")))
    (xo_Twice : PySem.W.mroIn K c_Twice (.type "object") = some true)
    (xb_Twice : PySem.W.mroIn K c_Twice (.type "BaseException") = some true)
    (xk_Twice_CostError : PySem.W.subIn K (.ref c_Twice) (.ref c_CostError) = some true)
    (xk_Twice_Full : PySem.W.subIn K (.ref c_Twice) (.ref c_Full) = some false)
    (xn_Twice_Full : (Value.ref c_Twice == Value.ref c_Full) = false)
    (xk_Twice_NoClaim : PySem.W.subIn K (.ref c_Twice) (.ref c_NoClaim) = some false)
    (xn_Twice_NoClaim : (Value.ref c_Twice == Value.ref c_NoClaim) = false)
    (xk_Twice_RoundOver : PySem.W.subIn K (.ref c_Twice) (.ref c_RoundOver) = some false)
    (xn_Twice_RoundOver : (Value.ref c_Twice == Value.ref c_RoundOver) = false)
    (xk_Twice_TooLate : PySem.W.subIn K (.ref c_Twice) (.ref c_TooLate) = some false)
    (xn_Twice_TooLate : (Value.ref c_Twice == Value.ref c_TooLate) = false)
    (xk_Twice_TooMuch : PySem.W.subIn K (.ref c_Twice) (.ref c_TooMuch) = some false)
    (xn_Twice_TooMuch : (Value.ref c_Twice == Value.ref c_TooMuch) = false)
    (xx_TooMuch : ExcCls K c_TooMuch)
    (xg_TooMuch : PySem.W.findIn K (.ref c_TooMuch) "__getattribute__" = some (some (.builtin "BaseException.__getattribute__")))
    (xh_TooMuch : PySem.W.findIn K (.ref c_TooMuch) "__getattr__" = some none)
    (xa_TooMuch : PySem.W.findIn K (.ref c_TooMuch) "__class__" = some (some (.builtin "object.__class__")))
    (xo_TooMuch : PySem.W.mroIn K c_TooMuch (.type "object") = some true)
    (xb_TooMuch : PySem.W.mroIn K c_TooMuch (.type "BaseException") = some true)
    (xk_TooMuch_CostError : PySem.W.subIn K (.ref c_TooMuch) (.ref c_CostError) = some true)
    (xk_TooMuch_Full : PySem.W.subIn K (.ref c_TooMuch) (.ref c_Full) = some false)
    (xn_TooMuch_Full : (Value.ref c_TooMuch == Value.ref c_Full) = false)
    (xk_TooMuch_NoClaim : PySem.W.subIn K (.ref c_TooMuch) (.ref c_NoClaim) = some false)
    (xn_TooMuch_NoClaim : (Value.ref c_TooMuch == Value.ref c_NoClaim) = false)
    (xk_TooMuch_RoundOver : PySem.W.subIn K (.ref c_TooMuch) (.ref c_RoundOver) = some false)
    (xn_TooMuch_RoundOver : (Value.ref c_TooMuch == Value.ref c_RoundOver) = false)
    (xk_TooMuch_TooLate : PySem.W.subIn K (.ref c_TooMuch) (.ref c_TooLate) = some false)
    (xn_TooMuch_TooLate : (Value.ref c_TooMuch == Value.ref c_TooLate) = false)
    (xk_TooMuch_Twice : PySem.W.subIn K (.ref c_TooMuch) (.ref c_Twice) = some false)
    (xn_TooMuch_Twice : (Value.ref c_TooMuch == Value.ref c_Twice) = false)
    (xs : PySem.W.specialIn K (.builtin "object.__class__") "__get__" = some (some (.builtin "getset_descriptor.__get__")))
    (xt : PySem.W.takesIn K (.builtin "object.__class__") = some true) :
    ∃ fd : FuncData, (∀ (s : Shared) (v : Value), BindsTo s fd ⟨[v], []⟩ [("_law_script", v)]) ∧ ∀ base : Heap, K.In base → base.Ns mainGlobals mg → FnOk l.prog w K mg base CX0 8 fa fd ["_law_script"] (spLaw K) := by
  have e := hfa.symm.trans (PySem.W.mg_of X G a36)
  cases e
  have T : Txt K mg cB c_CostError c_Full c_NoClaim c_RoundOver c_TooLate c_Twice c_TooMuch := ⟨PySem.W.mg_none_of X G z_any,
    PySem.W.mg_none_of X G z_bool,
    PySem.W.mg_none_of X G z_enumerate,
    PySem.W.mg_none_of X G z_int,
    PySem.W.mg_none_of X G z_isinstance,
    PySem.W.mg_none_of X G z_len,
    PySem.W.mg_none_of X G z_list,
    PySem.W.mg_none_of X G z_max,
    PySem.W.mg_none_of X G z_range,
    PySem.W.mg_none_of X G z_set,
    PySem.W.mg_none_of X G z_str,
    PySem.W.mg_none_of X G z_sum,
    PySem.W.mg_none_of X G z_tuple,
    PySem.W.mg_none_of X G z_zip,
    ⟨_, PySem.W.mg_of X G y_CLAIM⟩,
    ⟨_, PySem.W.mg_of X G y_DAY⟩,
    ⟨_, PySem.W.mg_of X G y_DUN_SIDE⟩,
    ⟨_, PySem.W.mg_of X G y_INTEREST_COINS⟩,
    ⟨_, PySem.W.mg_of X G y_INTEREST_COIN_DAYS⟩,
    ⟨_, PySem.W.mg_of X G y_LINE_PARTS⟩,
    ⟨_, PySem.W.mg_of X G y_LINE_REASON⟩,
    ⟨_, PySem.W.mg_of X G y_LINE_ROW⟩,
    ⟨_, PySem.W.mg_of X G y_MOST_ROWS⟩,
    ⟨_, PySem.W.mg_of X G y_NUMBER⟩,
    ⟨_, PySem.W.mg_of X G y_OFFER_AMOUNT⟩,
    ⟨_, PySem.W.mg_of X G y_OFFER_CLAIM⟩,
    ⟨_, PySem.W.mg_of X G y_PAY_COINS⟩,
    ⟨_, PySem.W.mg_of X G y_PAY_SIDE⟩,
    ⟨_, PySem.W.mg_of X G y_ROUNDS⟩,
    ⟨_, PySem.W.mg_of X G y_RULE_WINS⟩,
    ⟨_, PySem.W.mg_of X G y_STEP_KIND⟩,
    ⟨_, PySem.W.mg_of X G y_STEP_LAID⟩,
    ⟨_, PySem.W.mg_of X G y_STEP_MANY⟩,
    ⟨_, PySem.W.mg_of X G y_STEP_SIDE⟩,
    ⟨_, PySem.W.mg_of X G y_TURN⟩,
    ⟨_, PySem.W.mg_of X G y_WORD⟩,
    ⟨_, PySem.W.mg_of X G y_WORTH⟩,
    ⟨pg, hd, po, sa⟩,
    PySem.W.mg_of X G aB,
    nf_people,
    nf_court,
    nf_speakers,
    nf_rows,
    nf_came,
    nf_went,
    nf_done,
    PySem.W.mg_of X G e_CostError,
    PySem.W.mg_of X G e_Full,
    PySem.W.mg_of X G e_NoClaim,
    PySem.W.mg_of X G e_RoundOver,
    PySem.W.mg_of X G e_TooLate,
    PySem.W.mg_of X G e_Twice,
    PySem.W.mg_of X G e_TooMuch,
    xx_Full,
    xx_NoClaim,
    xx_RoundOver,
    xx_TooLate,
    xx_Twice,
    xx_TooMuch,
    (fun C hC => by
    simp only [List.mem_cons, List.not_mem_nil, or_false] at hC
    rcases hC with rfl | rfl | rfl | rfl | rfl | rfl
    · exact ⟨xg_Full, xh_Full, xd_Full, xa_Full, xs, xt, xo_Full, xb_Full⟩
    · exact ⟨xg_NoClaim, xh_NoClaim, xd_NoClaim, xa_NoClaim, xs, xt, xo_NoClaim, xb_NoClaim⟩
    · exact ⟨xg_RoundOver, xh_RoundOver, xd_RoundOver, xa_RoundOver, xs, xt, xo_RoundOver, xb_RoundOver⟩
    · exact ⟨xg_TooLate, xh_TooLate, xd_TooLate, xa_TooLate, xs, xt, xo_TooLate, xb_TooLate⟩
    · exact ⟨xg_Twice, xh_Twice, xd_Twice, xa_Twice, xs, xt, xo_Twice, xb_Twice⟩
    · exact ⟨xg_TooMuch, xh_TooMuch, xd_TooMuch, xa_TooMuch, xs, xt, xo_TooMuch, xb_TooMuch⟩
    ),
    (fun C hC => by
    simp only [List.mem_cons, List.not_mem_nil, or_false] at hC
    rcases hC with rfl | rfl | rfl | rfl | rfl | rfl
    · exact exm_tt xd_CostError xy_CostError xk_Full_CostError xB
    · exact exm_tt xd_CostError xy_CostError xk_NoClaim_CostError xB
    · exact exm_tt xd_CostError xy_CostError xk_RoundOver_CostError xB
    · exact exm_tt xd_CostError xy_CostError xk_TooLate_CostError xB
    · exact exm_tt xd_CostError xy_CostError xk_Twice_CostError xB
    · exact exm_tt xd_CostError xy_CostError xk_TooMuch_CostError xB
    ),
    kit_ff xd_NoClaim xy_NoClaim xk_Full_NoClaim xn_Full_NoClaim,
    kit_ff xd_RoundOver xy_RoundOver xk_Full_RoundOver xn_Full_RoundOver,
    kit_ff xd_TooLate xy_TooLate xk_Full_TooLate xn_Full_TooLate,
    kit_ff xd_Twice xy_Twice xk_Full_Twice xn_Full_Twice,
    kit_ff xd_TooMuch xy_TooMuch xk_Full_TooMuch xn_Full_TooMuch,
    kit_ff xd_Full xy_Full xk_NoClaim_Full xn_NoClaim_Full,
    kit_ff xd_RoundOver xy_RoundOver xk_NoClaim_RoundOver xn_NoClaim_RoundOver,
    kit_ff xd_TooLate xy_TooLate xk_NoClaim_TooLate xn_NoClaim_TooLate,
    kit_ff xd_Twice xy_Twice xk_NoClaim_Twice xn_NoClaim_Twice,
    kit_ff xd_TooMuch xy_TooMuch xk_NoClaim_TooMuch xn_NoClaim_TooMuch,
    kit_ff xd_Full xy_Full xk_RoundOver_Full xn_RoundOver_Full,
    kit_ff xd_NoClaim xy_NoClaim xk_RoundOver_NoClaim xn_RoundOver_NoClaim,
    kit_ff xd_TooLate xy_TooLate xk_RoundOver_TooLate xn_RoundOver_TooLate,
    kit_ff xd_Twice xy_Twice xk_RoundOver_Twice xn_RoundOver_Twice,
    kit_ff xd_TooMuch xy_TooMuch xk_RoundOver_TooMuch xn_RoundOver_TooMuch,
    kit_ff xd_Full xy_Full xk_TooLate_Full xn_TooLate_Full,
    kit_ff xd_NoClaim xy_NoClaim xk_TooLate_NoClaim xn_TooLate_NoClaim,
    kit_ff xd_RoundOver xy_RoundOver xk_TooLate_RoundOver xn_TooLate_RoundOver,
    kit_ff xd_Twice xy_Twice xk_TooLate_Twice xn_TooLate_Twice,
    kit_ff xd_TooMuch xy_TooMuch xk_TooLate_TooMuch xn_TooLate_TooMuch,
    kit_ff xd_Full xy_Full xk_Twice_Full xn_Twice_Full,
    kit_ff xd_NoClaim xy_NoClaim xk_Twice_NoClaim xn_Twice_NoClaim,
    kit_ff xd_RoundOver xy_RoundOver xk_Twice_RoundOver xn_Twice_RoundOver,
    kit_ff xd_TooLate xy_TooLate xk_Twice_TooLate xn_Twice_TooLate,
    kit_ff xd_TooMuch xy_TooMuch xk_Twice_TooMuch xn_Twice_TooMuch,
    kit_ff xd_Full xy_Full xk_TooMuch_Full xn_TooMuch_Full,
    kit_ff xd_NoClaim xy_NoClaim xk_TooMuch_NoClaim xn_TooMuch_NoClaim,
    kit_ff xd_RoundOver xy_RoundOver xk_TooMuch_RoundOver xn_TooMuch_RoundOver,
    kit_ff xd_TooLate xy_TooLate xk_TooMuch_TooLate xn_TooMuch_TooLate,
    kit_ff xd_Twice xy_Twice xk_TooMuch_Twice xn_TooMuch_Twice⟩
  have F0 := (fun_mk (st := sInterest) l0 c0 k0).d
  have F1 := (fun_mk (st := sCostOf) l1 c1 k1).d
  have F2 := (fun_mk (st := sClaimRow) l2 c2 k2).d
  have F3 := (fun_mk (st := sStepRow) l3 c3 k3).d
  have F4 := (fun_mk (st := sPayRow) l4 c4 k4).d
  have F5 := (fun_mk (st := sDunRow) l5 c5 k5).d
  have F6 := (fun_mk (st := sRoundsOf) l6 c6 k6).d
  have F7 := (fun_mk (st := sPutRow) l7 c7 k7).d
  have F8 := (fun_mk (st := sOverOf) l8 c8 k8).d
  have F9 := (fun_mk (st := sClaimsOf) l9 c9 k9).d
  have F10 := (fun_mk (st := sFindClaim) l10 c10 k10).d
  have F11 := (fun_mk (st := sWorthOf) l11 c11 k11).d
  have F12 := (fun_mk (st := sRowsUntil) l12 c12 k12).d
  have F13 := (fun_mk (st := sCheckRow) l13 c13 k13).d
  have F14 := (fun_mk (st := sCheckNext) l14 c14 k14).d
  have F15 := (fun_mk (st := sLacksClaim) l15 c15 k15).d
  have F16 := (fun_mk (st := sMeetsOver) l16 c16 k16).d
  have F17 := (fun_mk (st := sComesTwice) l17 c17 k17).d
  have F18 := (fun_mk (st := sNamesTooMuch) l18 c18 k18).d
  have F19 := (fun_mk (st := sWorthIn) l19 c19 k19).d
  have F20 := (fun_mk (st := sLinesOf) l20 c20 k20).d
  have F21 := (fun_mk (st := sLineOf) l21 c21 k21).d
  have F22 := (fun_mk (st := sCostsOf) l22 c22 k22).d
  have F23 := (fun_mk (st := sOffersOf) l23 c23 k23).d
  have F24 := (fun_mk (st := sLineOfOne) l24 c24 k24).d
  have F25 := (fun_mk (st := sBillsOf) l25 c25 k25).d
  have F26 := (fun_mk (st := sBillOf) l26 c26 k26).d
  have F27 := (fun_mk (st := sPaysOf) l27 c27 k27).d
  have F28 := (fun_mk (st := sOwedOf) l28 c28 k28).d
  have F29 := (fun_mk (st := sCoinDaysOf) l29 c29 k29).d
  have F30 := (fun_mk (st := sFirstDun) l30 c30 k30).d
  have F31 := (fun_mk (st := sLAt) l31 c31 k31).d
  have F32 := (fun_mk (st := sLInt) l32 c32 k32).d
  have F33 := (fun_mk (st := sLInts) l33 c33 k33).d
  have F34 := (fun_mk (st := sLSameBill) l34 c34 k34).d
  have F35 := (fun_mk (st := sLCoins) l35 c35 k35).d
  have F36 := (fun_mk (st := sLaw) l36 c36 k36).d
  have F37 := (fun_mk (st := sBookInit) l37 c37 k37).d
  have F38 := (fun_mk (st := sBookClaim) l38 c38 k38).d
  have F39 : FunD K "step" "Book.step" sBookStep f39 _ _ := ⟨_, _, _, _, _, _, _, _, _, rfl, l39, c39⟩
  have F40 := (fun_mk (st := sBookPay) l40 c40 k40).d
  have F41 := (fun_mk (st := sBookDun) l41 c41 k41).d
  have F42 := (fun_mk (st := sBookWrite) l42 c42 k42).d
  have F43 : FunD K "rows_kept" "Book.rows_kept" sBookRowsKept f43 _ _ := ⟨_, _, _, _, _, _, _, _, _, rfl, l43, c43⟩
  have F44 := (fun_mk (st := sBookBills) l44 c44 k44).d
  have F45 : FunD K "bill" "Book.bill" sBookBill f45 _ _ := ⟨_, _, _, _, _, _, _, _, _, rfl, l45, c45⟩
  have b0 := (fun_mk (st := sInterest) l0 c0 k0).binds (ps := ["coin_days"]) fun _ _ _ _ _ _ us hl => match us, hl with | [_], _ => rfl
  have b1 := (fun_mk (st := sCostOf) l1 c1 k1).binds (ps := ["kind", "many", "worth", "court", "speakers"]) fun _ _ _ _ _ _ us hl => match us, hl with | [_, _, _, _, _], _ => rfl
  have b2 := (fun_mk (st := sClaimRow) l2 c2 k2).binds (ps := ["number", "day", "claim", "asker", "answerer", "worth"]) fun _ _ _ _ _ _ us hl => match us, hl with | [_, _, _, _, _, _], _ => rfl
  have b3 := (fun_mk (st := sStepRow) l3 c3 k3).binds (ps := ["number", "day", "turn", "side", "kind", "many", "laid"]) fun _ _ _ _ _ _ us hl => match us, hl with | [_, _, _, _, _, _, _], _ => rfl
  have b4 := (fun_mk (st := sPayRow) l4 c4 k4).binds (ps := ["number", "day", "side", "person", "coins"]) fun _ _ _ _ _ _ us hl => match us, hl with | [_, _, _, _, _], _ => rfl
  have b5 := (fun_mk (st := sDunRow) l5 c5 k5).binds (ps := ["number", "day", "side"]) fun _ _ _ _ _ _ us hl => match us, hl with | [_, _, _], _ => rfl
  have b6 := (fun_mk (st := sRoundsOf) l6 c6 k6).binds (ps := ["rows"]) fun _ _ _ _ _ _ us hl => match us, hl with | [_], _ => rfl
  have b7 := (fun_mk (st := sPutRow) l7 c7 k7).binds (ps := ["rounds", "row"]) fun _ _ _ _ _ _ us hl => match us, hl with | [_, _], _ => rfl
  have b8 := (fun_mk (st := sOverOf) l8 c8 k8).binds (ps := ["rounds"]) fun _ _ _ _ _ _ us hl => match us, hl with | [_], _ => rfl
  have b9 := (fun_mk (st := sClaimsOf) l9 c9 k9).binds (ps := ["rounds", "turn"]) fun _ _ _ _ _ _ us hl => match us, hl with | [_, _], _ => rfl
  have b10 := (fun_mk (st := sFindClaim) l10 c10 k10).binds (ps := ["claims", "number"]) fun _ _ _ _ _ _ us hl => match us, hl with | [_, _], _ => rfl
  have b11 := (fun_mk (st := sWorthOf) l11 c11 k11).binds (ps := ["claims"]) fun _ _ _ _ _ _ us hl => match us, hl with | [_], _ => rfl
  have b12 := (fun_mk (st := sRowsUntil) l12 c12 k12).binds (ps := ["rows", "day"]) fun _ _ _ _ _ _ us hl => match us, hl with | [_, _], _ => rfl
  have b13 := (fun_mk (st := sCheckRow) l13 c13 k13).binds (ps := ["rows", "written", "row"]) fun _ _ _ _ _ _ us hl => match us, hl with | [_, _, _], _ => rfl
  have b14 := (fun_mk (st := sCheckNext) l14 c14 k14).binds (ps := ["rounds", "last", "written", "row"]) fun _ _ _ _ _ _ us hl => match us, hl with | [_, _, _, _], _ => rfl
  have b15 := (fun_mk (st := sLacksClaim) l15 c15 k15).binds (ps := ["rounds", "row"]) fun _ _ _ _ _ _ us hl => match us, hl with | [_, _], _ => rfl
  have b16 := (fun_mk (st := sMeetsOver) l16 c16 k16).binds (ps := ["rounds", "row"]) fun _ _ _ _ _ _ us hl => match us, hl with | [_, _], _ => rfl
  have b17 := (fun_mk (st := sComesTwice) l17 c17 k17).binds (ps := ["rounds", "row"]) fun _ _ _ _ _ _ us hl => match us, hl with | [_, _], _ => rfl
  have b18 := (fun_mk (st := sNamesTooMuch) l18 c18 k18).binds (ps := ["rounds", "row"]) fun _ _ _ _ _ _ us hl => match us, hl with | [_, _], _ => rfl
  have b19 := (fun_mk (st := sWorthIn) l19 c19 k19).binds (ps := ["rounds", "row", "claim"]) fun _ _ _ _ _ _ us hl => match us, hl with | [_, _, _], _ => rfl
  have b20 := (fun_mk (st := sLinesOf) l20 c20 k20).binds (ps := ["many", "court", "speakers", "rows", "day"]) fun _ _ _ _ _ _ us hl => match us, hl with | [_, _, _, _, _], _ => rfl
  have b21 := (fun_mk (st := sLineOf) l21 c21 k21).binds (ps := ["many", "step", "cost", "rounds", "wins", "offers"]) fun _ _ _ _ _ _ us hl => match us, hl with | [_, _, _, _, _, _], _ => rfl
  have b22 := (fun_mk (st := sCostsOf) l22 c22 k22).binds (ps := ["rows", "court", "speakers"]) fun _ _ _ _ _ _ us hl => match us, hl with | [_, _, _], _ => rfl
  have b23 := (fun_mk (st := sOffersOf) l23 c23 k23).binds (ps := ["rows"]) fun _ _ _ _ _ _ us hl => match us, hl with | [_], _ => rfl
  have b24 := (fun_mk (st := sLineOfOne) l24 c24 k24).binds (ps := ["many", "step", "cost", "reason"]) fun _ _ _ _ _ _ us hl => match us, hl with | [_, _, _, _], _ => rfl
  have b25 := (fun_mk (st := sBillsOf) l25 c25 k25).binds (ps := ["many", "court", "speakers", "rows", "day"]) fun _ _ _ _ _ _ us hl => match us, hl with | [_, _, _, _, _], _ => rfl
  have b26 := (fun_mk (st := sBillOf) l26 c26 k26).binds (ps := ["side", "lines", "rows", "charged"]) fun _ _ _ _ _ _ us hl => match us, hl with | [_, _, _, _], _ => rfl
  have b27 := (fun_mk (st := sPaysOf) l27 c27 k27).binds (ps := ["rows", "side"]) fun _ _ _ _ _ _ us hl => match us, hl with | [_, _], _ => rfl
  have b28 := (fun_mk (st := sOwedOf) l28 c28 k28).binds (ps := ["many", "court", "speakers", "rows"]) fun _ _ _ _ _ _ us hl => match us, hl with | [_, _, _, _], _ => rfl
  have b29 := (fun_mk (st := sCoinDaysOf) l29 c29 k29).binds (ps := ["side", "rows", "owed", "day"]) fun _ _ _ _ _ _ us hl => match us, hl with | [_, _, _, _], _ => rfl
  have b30 := (fun_mk (st := sFirstDun) l30 c30 k30).binds (ps := ["rows", "side"]) fun _ _ _ _ _ _ us hl => match us, hl with | [_, _], _ => rfl
  have b31 := (fun_mk (st := sLAt) l31 c31 k31).binds (ps := ["_law_script", "_law_k"]) fun _ _ _ _ _ _ us hl => match us, hl with | [_, _], _ => rfl
  have b32 := (fun_mk (st := sLInt) l32 c32 k32).binds (ps := ["_law_got"]) fun _ _ _ _ _ _ us hl => match us, hl with | [_], _ => rfl
  have b33 := (fun_mk (st := sLInts) l33 c33 k33).binds (ps := ["_law_got", "_law_due"]) fun _ _ _ _ _ _ us hl => match us, hl with | [_, _], _ => rfl
  have b34 := (fun_mk (st := sLSameBill) l34 c34 k34).binds (ps := ["_law_got", "_law_due"]) fun _ _ _ _ _ _ us hl => match us, hl with | [_, _], _ => rfl
  have b35 := (fun_mk (st := sLCoins) l35 c35 k35).binds (ps := ["_law_cell"]) fun _ _ _ _ _ _ us hl => match us, hl with | [_], _ => rfl
  have b37 := (fun_mk (st := sBookInit) l37 c37 k37).binds (ps := ["self", "sides", "court", "speakers"]) fun _ _ _ _ _ _ us hl => match us, hl with | [_, _, _, _], _ => rfl
  have b38 := (fun_mk (st := sBookClaim) l38 c38 k38).binds (ps := ["self", "day", "claim", "asker", "answerer", "worth"]) fun _ _ _ _ _ _ us hl => match us, hl with | [_, _, _, _, _, _], _ => rfl
  have b39D : Binds K (PySem.W.fnOf "step" "Book.step" (defArgs sBookStep) (defBody sBookStep) (defScope sBookStep) (.ref dT39) kV39 dc39 pm39 an39 cd39 ct39) ["self", "day", "turn", "side", "kind", "many", "laid"] [.str "none" kd39_0] := fun s us KX hl => by
    obtain ⟨u0, u1, u2, u3, u4, u5, rfl⟩ := list6 (us := us) (by simpa using hl)
    exact BindsTo.of_defaults rfl (KX _ _ d39) rfl rfl rfl
  have b40 := (fun_mk (st := sBookPay) l40 c40 k40).binds (ps := ["self", "day", "side", "person", "coins"]) fun _ _ _ _ _ _ us hl => match us, hl with | [_, _, _, _, _], _ => rfl
  have b41 := (fun_mk (st := sBookDun) l41 c41 k41).binds (ps := ["self", "day", "side"]) fun _ _ _ _ _ _ us hl => match us, hl with | [_, _, _], _ => rfl
  have b42 := (fun_mk (st := sBookWrite) l42 c42 k42).binds (ps := ["self", "row"]) fun _ _ _ _ _ _ us hl => match us, hl with | [_, _], _ => rfl
  have b43 : Binds K (PySem.W.fnOf "rows_kept" "Book.rows_kept" (defArgs sBookRowsKept) (defBody sBookRowsKept) (defScope sBookRowsKept) (.ref dT43) kV43 dc43 pm43 an43 cd43 ct43) ["self", "mark"] [] := fun s us KX hl => by
    obtain ⟨u0, u1, rfl⟩ := list2 (us := us) (by simpa using hl)
    exact BindsTo.of_defaults rfl (KX _ _ d43) rfl rfl rfl
  have b43D : Binds K (PySem.W.fnOf "rows_kept" "Book.rows_kept" (defArgs sBookRowsKept) (defBody sBookRowsKept) (defScope sBookRowsKept) (.ref dT43) kV43 dc43 pm43 an43 cd43 ct43) ["self", "mark"] [.none] := fun s us KX hl => by
    obtain ⟨u0, rfl⟩ := list1 (us := us) (by simpa using hl)
    exact BindsTo.of_defaults rfl (KX _ _ d43) rfl rfl rfl
  have b44 := (fun_mk (st := sBookBills) l44 c44 k44).binds (ps := ["self", "day", "mark"]) fun _ _ _ _ _ _ us hl => match us, hl with | [_, _, _], _ => rfl
  have b45D : Binds K (PySem.W.fnOf "bill" "Book.bill" (defArgs sBookBill) (defBody sBookBill) (defScope sBookBill) (.ref dT45) kV45 dc45 pm45 an45 cd45 ct45) ["self", "side", "day", "mark"] [.none] := fun s us KX hl => by
    obtain ⟨u0, u1, u2, rfl⟩ := list3 (us := us) (by simpa using hl)
    exact BindsTo.of_defaults rfl (KX _ _ d45) rfl rfl rfl
  refine ⟨PySem.W.fnOf "law" "law" (defArgs sLaw) (defBody sLaw) (defScope sLaw) .none kV36 dc36 pm36 an36 cd36 ct36, fun s v => .of_eq rfl, fun base _ _ => ?_⟩
  have GInterest : Fn l.prog w K mg base "interest" 1 ["coin_days"] (spInterest) := ⟨_, _, ok_Interest F0 T, PySem.W.mg_of X G a0, k0, b0⟩
  have GCostOf : Fn l.prog w K mg base "cost_of" 1 ["kind", "many", "worth", "court", "speakers"] (spCostOf) := ⟨_, _, ok_CostOf F1 T, PySem.W.mg_of X G a1, k1, b1⟩
  have GClaimRow : Fn l.prog w K mg base "claim_row" 1 ["number", "day", "claim", "asker", "answerer", "worth"] (spClaimRow) := ⟨_, _, ok_ClaimRow F2 T, PySem.W.mg_of X G a2, k2, b2⟩
  have GStepRow : Fn l.prog w K mg base "step_row" 1 ["number", "day", "turn", "side", "kind", "many", "laid"] (spStepRow) := ⟨_, _, ok_StepRow F3 T, PySem.W.mg_of X G a3, k3, b3⟩
  have GPayRow : Fn l.prog w K mg base "pay_row" 1 ["number", "day", "side", "person", "coins"] (spPayRow) := ⟨_, _, ok_PayRow F4 T, PySem.W.mg_of X G a4, k4, b4⟩
  have GDunRow : Fn l.prog w K mg base "dun_row" 1 ["number", "day", "side"] (spDunRow) := ⟨_, _, ok_DunRow F5 T, PySem.W.mg_of X G a5, k5, b5⟩
  have GFindClaim : Fn l.prog w K mg base "find_claim" 1 ["claims", "number"] (spFind K) := ⟨_, _, ok_FindClaim F10 T, PySem.W.mg_of X G a10, k10, b10⟩
  have GPutRow : Fn l.prog w K mg base "put_row" 2 ["rounds", "row"] (spPut) := ⟨_, _, ok_PutRow F7 T GFindClaim, PySem.W.mg_of X G a7, k7, b7⟩
  have GRoundsOf : Fn l.prog w K mg base "rounds_of" 3 ["rows"] (spRounds K) := ⟨_, _, ok_RoundsOf F6 T GPutRow, PySem.W.mg_of X G a6, k6, b6⟩
  have GOverOf : Fn l.prog w K mg base "over_of" 1 ["rounds"] (spOver K) := ⟨_, _, ok_OverOf F8 T, PySem.W.mg_of X G a8, k8, b8⟩
  have GClaimsOf : Fn l.prog w K mg base "claims_of" 1 ["rounds", "turn"] (spClaims) := ⟨_, _, ok_ClaimsOf F9 T, PySem.W.mg_of X G a9, k9, b9⟩
  have GWorthOf : Fn l.prog w K mg base "worth_of" 1 ["claims"] (spWorthOf K) := ⟨_, _, ok_WorthOf F11 T, PySem.W.mg_of X G a11, k11, b11⟩
  have GRowsUntil : Fn l.prog w K mg base "rows_until" 1 ["rows", "day"] (spUntil K) := ⟨_, _, ok_RowsUntil F12 T, PySem.W.mg_of X G a12, k12, b12⟩
  have GComesTwice : Fn l.prog w K mg base "comes_twice" 2 ["rounds", "row"] (spTwice) := ⟨_, _, ok_ComesTwice F17 T GFindClaim, PySem.W.mg_of X G a17, k17, b17⟩
  have GLacksClaim : Fn l.prog w K mg base "lacks_claim" 2 ["rounds", "row"] (spLacks) := ⟨_, _, ok_LacksClaim F15 T GClaimsOf GFindClaim GOverOf, PySem.W.mg_of X G a15, k15, b15⟩
  have GMeetsOver : Fn l.prog w K mg base "meets_over" 2 ["rounds", "row"] (spMeets) := ⟨_, _, ok_MeetsOver F16 T GOverOf, PySem.W.mg_of X G a16, k16, b16⟩
  have GWorthIn : Fn l.prog w K mg base "worth_in" 2 ["rounds", "row", "claim"] (spWorth) := ⟨_, _, ok_WorthIn F19 T GClaimsOf GFindClaim, PySem.W.mg_of X G a19, k19, b19⟩
  have GNamesTooMuch : Fn l.prog w K mg base "names_too_much" 3 ["rounds", "row"] (spMuch) := ⟨_, _, ok_NamesTooMuch F18 T GWorthIn, PySem.W.mg_of X G a18, k18, b18⟩
  have GCheckNext : FnX l.prog w K mg base "check_next" 4 ["rounds", "last", "written", "row"] (spNext [c_Full, c_NoClaim, c_RoundOver, c_TooLate, c_Twice, c_TooMuch]) := ⟨_, _, ok_CheckNext F14 T GComesTwice GLacksClaim GMeetsOver GNamesTooMuch, PySem.W.mg_of X G a14, k14, b14⟩
  have GCheckRow : FnX l.prog w K mg base "check_row" 5 ["rows", "written", "row"] (spCheck K [c_Full, c_NoClaim, c_RoundOver, c_TooLate, c_Twice, c_TooMuch]) := ⟨_, _, ok_CheckRow F13 T GCheckNext GRoundsOf, PySem.W.mg_of X G a13, k13, b13⟩
  have GCostsOf : Fn l.prog w K mg base "costs_of" 3 ["rows", "court", "speakers"] (spCostsOf K) := ⟨_, _, ok_CostsOf F22 T GClaimsOf GCostOf GPutRow GWorthOf, PySem.W.mg_of X G a22, k22, b22⟩
  have GLineOfOne : Fn l.prog w K mg base "line_of_one" 1 ["many", "step", "cost", "reason"] (spLineOne) := ⟨_, _, ok_LineOfOne F24 T, PySem.W.mg_of X G a24, k24, b24⟩
  have GLineOf : Fn l.prog w K mg base "line_of" 2 ["many", "step", "cost", "rounds", "wins", "offers"] (spLineOf K) := ⟨_, _, ok_LineOf F21 T GLineOfOne, PySem.W.mg_of X G a21, k21, b21⟩
  have GOffersOf : Fn l.prog w K mg base "offers_of" 1 ["rows"] (spOffersOf K) := ⟨_, _, ok_OffersOf F23 T, PySem.W.mg_of X G a23, k23, b23⟩
  have GLinesOf : Fn l.prog w K mg base "lines_of" 4 ["many", "court", "speakers", "rows", "day"] (spLinesOf K) := ⟨_, _, ok_LinesOf F20 T GCostsOf GLineOf GOffersOf GOverOf GRoundsOf GRowsUntil, PySem.W.mg_of X G a20, k20, b20⟩
  have GPaysOf : Fn l.prog w K mg base "pays_of" 1 ["rows", "side"] (spPays K) := ⟨_, _, ok_PaysOf F27 T, PySem.W.mg_of X G a27, k27, b27⟩
  have GBillOf : Fn l.prog w K mg base "bill_of" 2 ["side", "lines", "rows", "charged"] (spBillOf K) := ⟨_, _, ok_BillOf F26 T GPaysOf, PySem.W.mg_of X G a26, k26, b26⟩
  have GFirstDun : Fn l.prog w K mg base "first_dun" 1 ["rows", "side"] (spFirstDun K) := ⟨_, _, ok_FirstDun F30 T, PySem.W.mg_of X G a30, k30, b30⟩
  have GCoinDaysOf : Fn l.prog w K mg base "coin_days_of" 2 ["side", "rows", "owed", "day"] (spCoinDays K) := ⟨_, _, ok_CoinDaysOf F29 T GFirstDun, PySem.W.mg_of X G a29, k29, b29⟩
  have GOwedOf : Fn l.prog w K mg base "owed_of" 4 ["many", "court", "speakers", "rows"] (spOwedOf K) := ⟨_, _, ok_OwedOf F28 T GCostsOf, PySem.W.mg_of X G a28, k28, b28⟩
  have GBillsOf : Fn l.prog w K mg base "bills_of" 5 ["many", "court", "speakers", "rows", "day"] (spBillsOf K) := ⟨_, _, ok_BillsOf F25 T GBillOf GCoinDaysOf GInterest GLinesOf GOwedOf GRowsUntil, PySem.W.mg_of X G a25, k25, b25⟩
  have GLAt : Fn l.prog w K mg base "_law_at" 1 ["_law_script", "_law_k"] (spAt K) := ⟨_, _, ok_LAt F31 T, PySem.W.mg_of X G a31, k31, b31⟩
  have GLInt : Fn l.prog w K mg base "_law_int" 1 ["_law_got"] (spInt) := ⟨_, _, ok_LInt F32 T, PySem.W.mg_of X G a32, k32, b32⟩
  have GLInts : Fn l.prog w K mg base "_law_ints" 2 ["_law_got", "_law_due"] (spIntsT K) := ⟨_, _, ok_LInts F33 T GLInt, PySem.W.mg_of X G a33, k33, b33⟩
  have GLSameBill : Fn l.prog w K mg base "_law_same_bill" 3 ["_law_got", "_law_due"] (spSameBill) := ⟨_, _, ok_LSameBill F34 T GLInts, PySem.W.mg_of X G a34, k34, b34⟩
  have GLCoins : Fn l.prog w K mg base "_law_coins" 1 ["_law_cell"] (spCoinsL) := ⟨_, _, ok_LCoins F35 T, PySem.W.mg_of X G a35, k35, b35⟩
  have GMk : MkF l.prog w K mg base cB 1 ["self", "sides", "court", "speakers"] [] (spInitU K cB) := ⟨_, _, _, ok_BookInit F37 T, ⟨mk, a37, i37, kc⟩, b37, .nil⟩
  have GBookRowsKept : MtF l.prog w K mg base CX0 cB "rows_kept" 1 ["self", "mark"] [] (spKeptRowsU cB) := ⟨_, _, _, ok_BookRowsKept F43 T, ⟨a43, i43, k43⟩, b43, .nil⟩
  have GBookRowsKeptD : MtF l.prog w K mg base CX0 cB "rows_kept" 1 ["self", "mark"] [.non] (spKeptRowsU cB) := ⟨_, _, _, ok_BookRowsKept F43 T, ⟨a43, i43, k43⟩, b43D, (.cons rfl .nil)⟩
  have GBookBills : MtF l.prog w K mg base CX0 cB "bills" 6 ["self", "day", "mark"] [] (spBills cB) := ⟨_, _, _, ok_BookBills F44 T GBookRowsKept GBillsOf, ⟨a44, i44, k44⟩, b44, .nil⟩
  have GBookBillD : MtF l.prog w K mg base CX0 cB "bill" 7 ["self", "side", "day", "mark"] [.non] (spBill cB) := ⟨_, _, _, ok_BookBill F45 T GBookBills, ⟨a45, i45, k45⟩, b45D, (.cons rfl .nil)⟩
  have GBookWrite : MtF l.prog w K mg base (CX1 l.prog w) cB "write" 6 ["self", "row"] [] (spWriteU cB [c_Full, c_NoClaim, c_RoundOver, c_TooLate, c_Twice, c_TooMuch]) := ⟨_, _, _, ok_BookWrite F42 T GBookRowsKeptD GCheckRow, ⟨a42, i42, k42⟩, b42, .nil⟩
  have GBookClaim : MtF l.prog w K mg base (CX1 l.prog w) cB "claim" 7 ["self", "day", "claim", "asker", "answerer", "worth"] [] (spClaimU cB [c_Full, c_NoClaim, c_RoundOver, c_TooLate, c_Twice, c_TooMuch]) := ⟨_, _, _, ok_BookClaim F38 T GBookWrite GClaimRow, ⟨a38, i38, k38⟩, b38, .nil⟩
  have GBookDun : MtF l.prog w K mg base (CX1 l.prog w) cB "dun" 7 ["self", "day", "side"] [] (spDunU cB [c_Full, c_NoClaim, c_RoundOver, c_TooLate, c_Twice, c_TooMuch]) := ⟨_, _, _, ok_BookDun F41 T GBookWrite GDunRow, ⟨a41, i41, k41⟩, b41, .nil⟩
  have GBookPay : MtF l.prog w K mg base (CX1 l.prog w) cB "pay" 7 ["self", "day", "side", "person", "coins"] [] (spPayU cB [c_Full, c_NoClaim, c_RoundOver, c_TooLate, c_Twice, c_TooMuch]) := ⟨_, _, _, ok_BookPay F40 T GBookWrite GPayRow, ⟨a40, i40, k40⟩, b40, .nil⟩
  have GBookStepD : MtF l.prog w K mg base (CX1 l.prog w) cB "step" 7 ["self", "day", "turn", "side", "kind", "many", "laid"] [.str "none"] (spStepU cB [c_Full, c_NoClaim, c_RoundOver, c_TooLate, c_Twice, c_TooMuch]) := ⟨_, _, _, ok_BookStep F39 T GBookWrite GStepRow, ⟨a39, i39, k39⟩, b39D, (.cons ⟨_, rfl⟩ .nil)⟩
  exact ok_Law F36 T GMk GBookBillD GBookClaim GBookDun GBookPay GBookStepD GLAt GLCoins GLInt GLSameBill
theorem walk {l : PySem.W.OpenLaw} {q : Program} {loose : List Str} {XP : (Str → Option Value) → Heap → Prop} {YP : World → Heap → Prop} {d : DefRec} {K : Params → PySem.W.Frag} (hn : l.most = some 63) (hdf : d.params.defaults = [])
    (hY : ∀ (w : World) (h : Heap), YP w h → (K w.params).In h)
    (F : ∀ (w : World) (mg : Str → Option Value) (fa : Addr) (h : Heap), (K w.params).In h → h.Ns mainGlobals mg → mg d.name = some (.ref fa) →
      ∃ fd : FuncData, (∀ (s : Shared) (u : Value), BindsTo s fd ⟨[u], []⟩ [("_law_script", u)]) ∧ ∀ base : Heap, (K w.params).In base → base.Ns mainGlobals mg → FnOk l.prog w (K w.params) mg base CX0 8 fa fd ["_law_script"] (spLaw (K w.params))) :
    PySem.W.WalkO q loose XP YP l.row.toRowW d [] (fun f vs => PySem.call f vs) :=
  L2.walk_of (n := 63) (k := 8) (x := "_law_script") (CX := fun _ => CX0) (sp := fun w => spLaw (K w.params)) hn (by decide) hdf ⟨rfl, by decide, by decide⟩ hY F (fun _ _ a ns hl _ hS => ⟨a, ns, rfl, hS, hl, fun _ => rfl⟩) fun _ _ _ _ _ z => z
end My
open PySem PySem.W PyProof.Rows
def PySem.W.Fast.tw10516705240782827617 : Unit := ()
def PySem.W.Fast.tw224540933700337439 : Unit := ()
def PySem.W.Fast.tw2447141864645066388 : Unit := ()
def PySem.W.Fast.tw15551628022445560773 : Unit := ()
def PySem.W.Fast.tw5256274261713091738 : Unit := ()
def PySem.W.Fast.tw16780843844304744250 : Unit := ()
def PySem.W.Fast.tw14250735036586120524 : Unit := ()
def PySem.W.Fast.tw4449600891754140832 : Unit := ()
def PySem.W.Fast.tw5380789544515101891 : Unit := ()
def PySem.W.Fast.tw3382356860268630778 : Unit := ()
def PySem.W.Fast.tw10335007483069410385 : Unit := ()
def PySem.W.Fast.tw9395416760156138811 : Unit := ()
def PySem.W.Fast.tw234595371749369097 : Unit := ()
def PySem.W.Fast.tw4571680380642459999 : Unit := ()
def PySem.W.Fast.tw1265959748691246719 : Unit := ()
def PySem.W.Fast.tw18358472597311740192 : Unit := ()
def PySem.W.Fast.tw1525299817955632003 : Unit := ()
def PySem.W.Fast.tw5366704485210569541 : Unit := ()
def PySem.W.Fast.tw498262350406106731 : Unit := ()
def PySem.W.Fast.tw2595008733503574091 : Unit := ()
def PySem.W.Fast.tw1694007469825893009 : Unit := ()
def PySem.W.Fast.tw18324537807663224356 : Unit := ()
def PySem.W.Fast.tw840825446729719086 : Unit := ()
def PySem.W.Fast.tw5925345321940818725 : Unit := ()
set_option maxRecDepth 100000 in
set_option maxHeartbeats 0 in
theorem PySem.Challenge.cw_costorder_k29_interest_of_one_debt_holds : PySem.Challenge.rw_costorder_k29_interest_of_one_debt.Holds := by
  w_on; o_law; k_head; (case hw => w_witness2)
  k_fill
  refine My.walk (l := PySem.Challenge.rw_costorder_k29_interest_of_one_debt) rfl rfl (fun w h Y => by first | exact PySem.W.kIn_of Y | exact PySem.W.km_in_of Y) ?F
  case F =>
    intro w mg fa h KX G hmg
    refine' My.all_mk KX G hmg ?aB ?e_CostError ?e_Full ?e_NoClaim ?e_RoundOver ?e_TooLate ?e_Twice ?e_TooMuch ?a0 ?l0 ?c0 ?k0 ?a1 ?l1 ?c1 ?k1 ?a2 ?l2 ?c2 ?k2 ?a3 ?l3 ?c3 ?k3 ?a4 ?l4 ?c4 ?k4 ?a5 ?l5 ?c5 ?k5 ?a6 ?l6 ?c6 ?k6 ?a7 ?l7 ?c7 ?k7 ?a8 ?l8 ?c8 ?k8 ?a9 ?l9 ?c9 ?k9 ?a10 ?l10 ?c10 ?k10 ?a11 ?l11 ?c11 ?k11 ?a12 ?l12 ?c12 ?k12 ?a13 ?l13 ?c13 ?k13 ?a14 ?l14 ?c14 ?k14 ?a15 ?l15 ?c15 ?k15 ?a16 ?l16 ?c16 ?k16 ?a17 ?l17 ?c17 ?k17 ?a18 ?l18 ?c18 ?k18 ?a19 ?l19 ?c19 ?k19 ?a20 ?l20 ?c20 ?k20 ?a21 ?l21 ?c21 ?k21 ?a22 ?l22 ?c22 ?k22 ?a23 ?l23 ?c23 ?k23 ?a24 ?l24 ?c24 ?k24 ?a25 ?l25 ?c25 ?k25 ?a26 ?l26 ?c26 ?k26 ?a27 ?l27 ?c27 ?k27 ?a28 ?l28 ?c28 ?k28 ?a29 ?l29 ?c29 ?k29 ?a30 ?l30 ?c30 ?k30 ?a31 ?l31 ?c31 ?k31 ?a32 ?l32 ?c32 ?k32 ?a33 ?l33 ?c33 ?k33 ?a34 ?l34 ?c34 ?k34 ?a35 ?l35 ?c35 ?k35 ?a36 ?l36 ?c36 ?k36 ?a37 ?i37 ?l37 ?c37 ?k37 ?a38 ?i38 ?l38 ?c38 ?k38 ?a39 ?i39 ?l39 ?c39 ?k39 ?d39 ?a40 ?i40 ?l40 ?c40 ?k40 ?a41 ?i41 ?l41 ?c41 ?k41 ?a42 ?i42 ?l42 ?c42 ?k42 ?a43 ?i43 ?l43 ?c43 ?k43 ?d43 ?a44 ?i44 ?l44 ?c44 ?k44 ?a45 ?i45 ?l45 ?c45 ?k45 ?d45 ?z_any ?z_bool ?z_enumerate ?z_int ?z_isinstance ?z_len ?z_list ?z_max ?z_range ?z_set ?z_str ?z_sum ?z_tuple ?z_zip ?y_CLAIM ?y_DAY ?y_DUN_SIDE ?y_INTEREST_COINS ?y_INTEREST_COIN_DAYS ?y_LINE_PARTS ?y_LINE_REASON ?y_LINE_ROW ?y_MOST_ROWS ?y_NUMBER ?y_OFFER_AMOUNT ?y_OFFER_CLAIM ?y_PAY_COINS ?y_PAY_SIDE ?y_ROUNDS ?y_RULE_WINS ?y_STEP_KIND ?y_STEP_LAID ?y_STEP_MANY ?y_STEP_SIDE ?y_TURN ?y_WORD ?y_WORTH ?pg ?hd ?po ?sa ?mk ?kc ?nf_people ?nf_court ?nf_speakers ?nf_rows ?nf_came ?nf_went ?nf_done ?xd_CostError ?xy_CostError ?xd_Full ?xy_Full ?xd_NoClaim ?xy_NoClaim ?xd_RoundOver ?xy_RoundOver ?xd_TooLate ?xy_TooLate ?xd_Twice ?xy_Twice ?xd_TooMuch ?xy_TooMuch ?xB ?xx_Full ?xg_Full ?xh_Full ?xa_Full ?xo_Full ?xb_Full ?xk_Full_CostError ?xk_Full_NoClaim ?xn_Full_NoClaim ?xk_Full_RoundOver ?xn_Full_RoundOver ?xk_Full_TooLate ?xn_Full_TooLate ?xk_Full_Twice ?xn_Full_Twice ?xk_Full_TooMuch ?xn_Full_TooMuch ?xx_NoClaim ?xg_NoClaim ?xh_NoClaim ?xa_NoClaim ?xo_NoClaim ?xb_NoClaim ?xk_NoClaim_CostError ?xk_NoClaim_Full ?xn_NoClaim_Full ?xk_NoClaim_RoundOver ?xn_NoClaim_RoundOver ?xk_NoClaim_TooLate ?xn_NoClaim_TooLate ?xk_NoClaim_Twice ?xn_NoClaim_Twice ?xk_NoClaim_TooMuch ?xn_NoClaim_TooMuch ?xx_RoundOver ?xg_RoundOver ?xh_RoundOver ?xa_RoundOver ?xo_RoundOver ?xb_RoundOver ?xk_RoundOver_CostError ?xk_RoundOver_Full ?xn_RoundOver_Full ?xk_RoundOver_NoClaim ?xn_RoundOver_NoClaim ?xk_RoundOver_TooLate ?xn_RoundOver_TooLate ?xk_RoundOver_Twice ?xn_RoundOver_Twice ?xk_RoundOver_TooMuch ?xn_RoundOver_TooMuch ?xx_TooLate ?xg_TooLate ?xh_TooLate ?xa_TooLate ?xo_TooLate ?xb_TooLate ?xk_TooLate_CostError ?xk_TooLate_Full ?xn_TooLate_Full ?xk_TooLate_NoClaim ?xn_TooLate_NoClaim ?xk_TooLate_RoundOver ?xn_TooLate_RoundOver ?xk_TooLate_Twice ?xn_TooLate_Twice ?xk_TooLate_TooMuch ?xn_TooLate_TooMuch ?xx_Twice ?xg_Twice ?xh_Twice ?xa_Twice ?xo_Twice ?xb_Twice ?xk_Twice_CostError ?xk_Twice_Full ?xn_Twice_Full ?xk_Twice_NoClaim ?xn_Twice_NoClaim ?xk_Twice_RoundOver ?xn_Twice_RoundOver ?xk_Twice_TooLate ?xn_Twice_TooLate ?xk_Twice_TooMuch ?xn_Twice_TooMuch ?xx_TooMuch ?xg_TooMuch ?xh_TooMuch ?xa_TooMuch ?xo_TooMuch ?xb_TooMuch ?xk_TooMuch_CostError ?xk_TooMuch_Full ?xn_TooMuch_Full ?xk_TooMuch_NoClaim ?xn_TooMuch_NoClaim ?xk_TooMuch_RoundOver ?xn_TooMuch_RoundOver ?xk_TooMuch_TooLate ?xn_TooMuch_TooLate ?xk_TooMuch_Twice ?xn_TooMuch_Twice ?xs ?xt
    (case aB => k_is)
    (case e_CostError => k_is)
    (case e_Full => k_is)
    (case e_NoClaim => k_is)
    (case e_RoundOver => k_is)
    (case e_TooLate => k_is)
    (case e_Twice => k_is)
    (case e_TooMuch => k_is)
    (case a0 => k_is)
    (case l0 => k_is)
    (case c0 => k_is)
    (case k0 => k_is)
    (case a1 => k_is)
    (case l1 => k_is)
    (case c1 => k_is)
    (case k1 => k_is)
    (case a2 => k_is)
    (case l2 => k_is)
    (case c2 => k_is)
    (case k2 => k_is)
    (case a3 => k_is)
    (case l3 => k_is)
    (case c3 => k_is)
    (case k3 => k_is)
    (case a4 => k_is)
    (case l4 => k_is)
    (case c4 => k_is)
    (case k4 => k_is)
    (case a5 => k_is)
    (case l5 => k_is)
    (case c5 => k_is)
    (case k5 => k_is)
    (case a6 => k_is)
    (case l6 => k_is)
    (case c6 => k_is)
    (case k6 => k_is)
    (case a7 => k_is)
    (case l7 => k_is)
    (case c7 => k_is)
    (case k7 => k_is)
    (case a8 => k_is)
    (case l8 => k_is)
    (case c8 => k_is)
    (case k8 => k_is)
    (case a9 => k_is)
    (case l9 => k_is)
    (case c9 => k_is)
    (case k9 => k_is)
    (case a10 => k_is)
    (case l10 => k_is)
    (case c10 => k_is)
    (case k10 => k_is)
    (case a11 => k_is)
    (case l11 => k_is)
    (case c11 => k_is)
    (case k11 => k_is)
    (case a12 => k_is)
    (case l12 => k_is)
    (case c12 => k_is)
    (case k12 => k_is)
    (case a13 => k_is)
    (case l13 => k_is)
    (case c13 => k_is)
    (case k13 => k_is)
    (case a14 => k_is)
    (case l14 => k_is)
    (case c14 => k_is)
    (case k14 => k_is)
    (case a15 => k_is)
    (case l15 => k_is)
    (case c15 => k_is)
    (case k15 => k_is)
    (case a16 => k_is)
    (case l16 => k_is)
    (case c16 => k_is)
    (case k16 => k_is)
    (case a17 => k_is)
    (case l17 => k_is)
    (case c17 => k_is)
    (case k17 => k_is)
    (case a18 => k_is)
    (case l18 => k_is)
    (case c18 => k_is)
    (case k18 => k_is)
    (case a19 => k_is)
    (case l19 => k_is)
    (case c19 => k_is)
    (case k19 => k_is)
    (case a20 => k_is)
    (case l20 => k_is)
    (case c20 => k_is)
    (case k20 => k_is)
    (case a21 => k_is)
    (case l21 => k_is)
    (case c21 => k_is)
    (case k21 => k_is)
    (case a22 => k_is)
    (case l22 => k_is)
    (case c22 => k_is)
    (case k22 => k_is)
    (case a23 => k_is)
    (case l23 => k_is)
    (case c23 => k_is)
    (case k23 => k_is)
    (case a24 => k_is)
    (case l24 => k_is)
    (case c24 => k_is)
    (case k24 => k_is)
    (case a25 => k_is)
    (case l25 => k_is)
    (case c25 => k_is)
    (case k25 => k_is)
    (case a26 => k_is)
    (case l26 => k_is)
    (case c26 => k_is)
    (case k26 => k_is)
    (case a27 => k_is)
    (case l27 => k_is)
    (case c27 => k_is)
    (case k27 => k_is)
    (case a28 => k_is)
    (case l28 => k_is)
    (case c28 => k_is)
    (case k28 => k_is)
    (case a29 => k_is)
    (case l29 => k_is)
    (case c29 => k_is)
    (case k29 => k_is)
    (case a30 => k_is)
    (case l30 => k_is)
    (case c30 => k_is)
    (case k30 => k_is)
    (case a31 => k_is)
    (case l31 => k_is)
    (case c31 => k_is)
    (case k31 => k_is)
    (case a32 => k_is)
    (case l32 => k_is)
    (case c32 => k_is)
    (case k32 => k_is)
    (case a33 => k_is)
    (case l33 => k_is)
    (case c33 => k_is)
    (case k33 => k_is)
    (case a34 => k_is)
    (case l34 => k_is)
    (case c34 => k_is)
    (case k34 => k_is)
    (case a35 => k_is)
    (case l35 => k_is)
    (case c35 => k_is)
    (case k35 => k_is)
    (case a36 => k_is)
    (case l36 => k_is)
    (case c36 => k_is)
    (case k36 => k_is)
    (case a37 => k_is)
    (case i37 => k_is)
    (case l37 => k_is)
    (case c37 => k_is)
    (case k37 => k_is)
    (case a38 => k_is)
    (case i38 => k_is)
    (case l38 => k_is)
    (case c38 => k_is)
    (case k38 => k_is)
    (case a39 => k_is)
    (case i39 => k_is)
    (case l39 => k_is)
    (case c39 => k_is)
    (case k39 => k_is)
    (case d39 => k_is)
    (case a40 => k_is)
    (case i40 => k_is)
    (case l40 => k_is)
    (case c40 => k_is)
    (case k40 => k_is)
    (case a41 => k_is)
    (case i41 => k_is)
    (case l41 => k_is)
    (case c41 => k_is)
    (case k41 => k_is)
    (case a42 => k_is)
    (case i42 => k_is)
    (case l42 => k_is)
    (case c42 => k_is)
    (case k42 => k_is)
    (case a43 => k_is)
    (case i43 => k_is)
    (case l43 => k_is)
    (case c43 => k_is)
    (case k43 => k_is)
    (case d43 => k_is)
    (case a44 => k_is)
    (case i44 => k_is)
    (case l44 => k_is)
    (case c44 => k_is)
    (case k44 => k_is)
    (case a45 => k_is)
    (case i45 => k_is)
    (case l45 => k_is)
    (case c45 => k_is)
    (case k45 => k_is)
    (case d45 => k_is)
    (case z_any => k_is)
    (case z_bool => k_is)
    (case z_enumerate => k_is)
    (case z_int => k_is)
    (case z_isinstance => k_is)
    (case z_len => k_is)
    (case z_list => k_is)
    (case z_max => k_is)
    (case z_range => k_is)
    (case z_set => k_is)
    (case z_str => k_is)
    (case z_sum => k_is)
    (case z_tuple => k_is)
    (case z_zip => k_is)
    (case y_CLAIM => k_is)
    (case y_DAY => k_is)
    (case y_DUN_SIDE => k_is)
    (case y_INTEREST_COINS => k_is)
    (case y_INTEREST_COIN_DAYS => k_is)
    (case y_LINE_PARTS => k_is)
    (case y_LINE_REASON => k_is)
    (case y_LINE_ROW => k_is)
    (case y_MOST_ROWS => k_is)
    (case y_NUMBER => k_is)
    (case y_OFFER_AMOUNT => k_is)
    (case y_OFFER_CLAIM => k_is)
    (case y_PAY_COINS => k_is)
    (case y_PAY_SIDE => k_is)
    (case y_ROUNDS => k_is)
    (case y_RULE_WINS => k_is)
    (case y_STEP_KIND => k_is)
    (case y_STEP_LAID => k_is)
    (case y_STEP_MANY => k_is)
    (case y_STEP_SIDE => k_is)
    (case y_TURN => k_is)
    (case y_WORD => k_is)
    (case y_WORTH => k_is)
    (case pg => k_is)
    (case hd => k_is)
    (case po => k_is)
    (case sa => k_is)
    (case mk => k_is)
    (case kc => k_is)
    (case nf_people => k_is)
    (case nf_court => k_is)
    (case nf_speakers => k_is)
    (case nf_rows => k_is)
    (case nf_came => k_is)
    (case nf_went => k_is)
    (case nf_done => k_is)
    (case xd_CostError => k_is)
    (case xy_CostError => k_is)
    (case xd_Full => k_is)
    (case xy_Full => k_is)
    (case xd_NoClaim => k_is)
    (case xy_NoClaim => k_is)
    (case xd_RoundOver => k_is)
    (case xy_RoundOver => k_is)
    (case xd_TooLate => k_is)
    (case xy_TooLate => k_is)
    (case xd_Twice => k_is)
    (case xy_Twice => k_is)
    (case xd_TooMuch => k_is)
    (case xy_TooMuch => k_is)
    (case xB => k_is)
    (case xx_Full => first | k_is | (unfold ExcCls; k_is) | kernel_rfl)
    (case xg_Full => k_is)
    (case xh_Full => k_is)
    (case xa_Full => k_is)
    (case xo_Full => k_is)
    (case xb_Full => k_is)
    (case xk_Full_CostError => k_is)
    (case xk_Full_NoClaim => k_is)
    (case xn_Full_NoClaim => rfl)
    (case xk_Full_RoundOver => k_is)
    (case xn_Full_RoundOver => rfl)
    (case xk_Full_TooLate => k_is)
    (case xn_Full_TooLate => rfl)
    (case xk_Full_Twice => k_is)
    (case xn_Full_Twice => rfl)
    (case xk_Full_TooMuch => k_is)
    (case xn_Full_TooMuch => rfl)
    (case xx_NoClaim => first | k_is | (unfold ExcCls; k_is) | kernel_rfl)
    (case xg_NoClaim => k_is)
    (case xh_NoClaim => k_is)
    (case xa_NoClaim => k_is)
    (case xo_NoClaim => k_is)
    (case xb_NoClaim => k_is)
    (case xk_NoClaim_CostError => k_is)
    (case xk_NoClaim_Full => k_is)
    (case xn_NoClaim_Full => rfl)
    (case xk_NoClaim_RoundOver => k_is)
    (case xn_NoClaim_RoundOver => rfl)
    (case xk_NoClaim_TooLate => k_is)
    (case xn_NoClaim_TooLate => rfl)
    (case xk_NoClaim_Twice => k_is)
    (case xn_NoClaim_Twice => rfl)
    (case xk_NoClaim_TooMuch => k_is)
    (case xn_NoClaim_TooMuch => rfl)
    (case xx_RoundOver => first | k_is | (unfold ExcCls; k_is) | kernel_rfl)
    (case xg_RoundOver => k_is)
    (case xh_RoundOver => k_is)
    (case xa_RoundOver => k_is)
    (case xo_RoundOver => k_is)
    (case xb_RoundOver => k_is)
    (case xk_RoundOver_CostError => k_is)
    (case xk_RoundOver_Full => k_is)
    (case xn_RoundOver_Full => rfl)
    (case xk_RoundOver_NoClaim => k_is)
    (case xn_RoundOver_NoClaim => rfl)
    (case xk_RoundOver_TooLate => k_is)
    (case xn_RoundOver_TooLate => rfl)
    (case xk_RoundOver_Twice => k_is)
    (case xn_RoundOver_Twice => rfl)
    (case xk_RoundOver_TooMuch => k_is)
    (case xn_RoundOver_TooMuch => rfl)
    (case xx_TooLate => first | k_is | (unfold ExcCls; k_is) | kernel_rfl)
    (case xg_TooLate => k_is)
    (case xh_TooLate => k_is)
    (case xa_TooLate => k_is)
    (case xo_TooLate => k_is)
    (case xb_TooLate => k_is)
    (case xk_TooLate_CostError => k_is)
    (case xk_TooLate_Full => k_is)
    (case xn_TooLate_Full => rfl)
    (case xk_TooLate_NoClaim => k_is)
    (case xn_TooLate_NoClaim => rfl)
    (case xk_TooLate_RoundOver => k_is)
    (case xn_TooLate_RoundOver => rfl)
    (case xk_TooLate_Twice => k_is)
    (case xn_TooLate_Twice => rfl)
    (case xk_TooLate_TooMuch => k_is)
    (case xn_TooLate_TooMuch => rfl)
    (case xx_Twice => first | k_is | (unfold ExcCls; k_is) | kernel_rfl)
    (case xg_Twice => k_is)
    (case xh_Twice => k_is)
    (case xa_Twice => k_is)
    (case xo_Twice => k_is)
    (case xb_Twice => k_is)
    (case xk_Twice_CostError => k_is)
    (case xk_Twice_Full => k_is)
    (case xn_Twice_Full => rfl)
    (case xk_Twice_NoClaim => k_is)
    (case xn_Twice_NoClaim => rfl)
    (case xk_Twice_RoundOver => k_is)
    (case xn_Twice_RoundOver => rfl)
    (case xk_Twice_TooLate => k_is)
    (case xn_Twice_TooLate => rfl)
    (case xk_Twice_TooMuch => k_is)
    (case xn_Twice_TooMuch => rfl)
    (case xx_TooMuch => first | k_is | (unfold ExcCls; k_is) | kernel_rfl)
    (case xg_TooMuch => k_is)
    (case xh_TooMuch => k_is)
    (case xa_TooMuch => k_is)
    (case xo_TooMuch => k_is)
    (case xb_TooMuch => k_is)
    (case xk_TooMuch_CostError => k_is)
    (case xk_TooMuch_Full => k_is)
    (case xn_TooMuch_Full => rfl)
    (case xk_TooMuch_NoClaim => k_is)
    (case xn_TooMuch_NoClaim => rfl)
    (case xk_TooMuch_RoundOver => k_is)
    (case xn_TooMuch_RoundOver => rfl)
    (case xk_TooMuch_TooLate => k_is)
    (case xn_TooMuch_TooLate => rfl)
    (case xk_TooMuch_Twice => k_is)
    (case xn_TooMuch_Twice => rfl)
    (case xs => k_is)
    (case xt => k_is)
