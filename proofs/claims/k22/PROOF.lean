import PyProof.Rows.All
import Wide.All
import OpenK.AllK
import Wide.FinOn
import Lean
import PyProof.EqAt
import PyProof.EqKinds
import PyProof.TupleCall
import PySem.Challenge.RW_rowbetween_k22_added
set_option Elab.async false
set_option linter.all false
set_option maxRecDepth 100000
set_option maxHeartbeats 4000000
set_option Elab.async false
set_option linter.all false
set_option maxRecDepth 100000
/-! THE HAND LAYER, for ints, bools, texts, own classes, LISTS and tuples (index, slices, in, append, pop ..), calls, loops. Paste it whole ahead of your own text; what your proof does not reach may be deleted. -/
namespace L2
open PySem PySem.Spec PyProof.Rows

/-- a key: an int or a str -/
abbrev Key := Sum Int Str
def keyIs : Key → Value → Bool
  | .inl k, v => Value.isInt k v
  | .inr x, v => Value.isStrOf x v
def keyH (w : World) : Key → Int
  | .inl k => hashInt k
  | .inr x => hashStr w x
theorem keyIs_shape : ∀ {k : Key} {v : Value}, keyIs k v = true → (∃ i t, k = Sum.inl i ∧ v = Value.int i t) ∨ (∃ x t, k = Sum.inr x ∧ v = Value.str x t)
  | .inl i, v, h => by
    obtain ⟨t, e⟩ := Value.isInt_shape (k := i) (v := v) h
    exact .inl ⟨i, t, rfl, e⟩
  | .inr x, v, h => by
    obtain ⟨t, e⟩ := Value.isStrOf_shape (x := x) (v := v) h
    exact .inr ⟨x, t, rfl, e⟩
theorem keyIs_int (i : Int) (t : Tok) : keyIs (.inl i) (.int i t) = true := by simp [keyIs, Value.isInt]
theorem keyIs_str (x : Str) (t : Tok) : keyIs (.inr x) (.str x t) = true := by simp [keyIs, Value.isStrOf]
theorem key_ll (a b : Int) : decide ((Sum.inl a : Key) = Sum.inl b) = (a == b) := by
  by_cases e : a = b
  · subst e; simp
  · have h : ¬ (Sum.inl a : Key) = Sum.inl b := fun q => e (Sum.inl.inj q)
    rw [decide_eq_false h]
    exact (beq_eq_false_iff_ne.mpr e).symm
theorem key_rr (a b : Str) : decide ((Sum.inr a : Key) = Sum.inr b) = decide (a = b) := by
  by_cases e : a = b
  · subst e; simp
  · have h : ¬ (Sum.inr a : Key) = Sum.inr b := fun q => e (Sum.inr.inj q)
    rw [decide_eq_false h, decide_eq_false e]
theorem key_lr (a : Int) (b : Str) : decide ((Sum.inl a : Key) = Sum.inr b) = false := decide_eq_false (fun q => nomatch q)
theorem key_rl (a : Str) (b : Int) : decide ((Sum.inr a : Key) = Sum.inl b) = false := decide_eq_false (fun q => nomatch q)

def mixKind (prog : Program) (w : World) : PySem.KeyKind prog w Key where
  is := keyIs
  hash := keyH w
  inj := fun v a b ha hb => by
    rcases keyIs_shape ha with ⟨i, t, rfl, rfl⟩ | ⟨x, t, rfl, rfl⟩
    · rcases keyIs_shape hb with ⟨j, u, rfl, e⟩ | ⟨y, u, rfl, e⟩
      · injection e with e1 _; rw [e1]
      · exact nomatch e
    · rcases keyIs_shape hb with ⟨j, u, rfl, e⟩ | ⟨y, u, rfl, e⟩
      · exact nomatch e
      · injection e with e1 _; rw [e1]
  byValue := fun k v h => by
    rcases keyIs_shape h with ⟨i, t, rfl, rfl⟩ | ⟨x, t, rfl, rfl⟩ <;> rfl
  pyHash := fun hv h => by
    rcases keyIs_shape hv with ⟨i, t, rfl, rfl⟩ | ⟨x, t, rfl, rfl⟩
    · exact wpAny_pyHash_int h
    · exact wpAny_pyHash_str h
  eqBool := fun hu hv h => by
    rcases keyIs_shape hu with ⟨i, t, rfl, rfl⟩ | ⟨x, t, rfl, rfl⟩
    · rcases keyIs_shape hv with ⟨j, u, rfl, rfl⟩ | ⟨y, u, rfl, rfl⟩
      · rw [key_ll] at h; exact wpAny_eqBool_int h
      · rw [key_lr] at h; exact SeqAt.EqAt.int_str i t y u _ _ _ _ h
    · rcases keyIs_shape hv with ⟨j, u, rfl, rfl⟩ | ⟨y, u, rfl, rfl⟩
      · rw [key_rl] at h; exact SeqAt.EqAt.str_int x t j u _ _ _ _ h
      · rw [key_rr] at h; exact wpAny_eqBool_str h
  «strs» := fun k x t v h => by
    rcases keyIs_shape h with ⟨i, u, rfl, e⟩ | ⟨y, u, rfl, e⟩
    · exact nomatch e
    · injection e with e1 _
      subst e1
      cases v <;> rfl

theorem mixKind_int (prog : Program) (w : World) (i : Int) (t : Tok) : (mixKind prog w).is (.inl i) (.int i t) = true := keyIs_int i t
theorem mixKind_str (prog : Program) (w : World) (x : Str) (t : Tok) : (mixKind prog w).is (.inr x) (.str x t) = true := keyIs_str x t
end L2

namespace L2
open PySem PySem.Spec PyProof.Rows

/-- a value, without the heap -/
inductive V where
  | non | bl (b : Bool) | int (i : Int) | str (x : Str) | byt (b : Array UInt8) | flt (b : UInt64) | ref (a : Addr) | ty (n : String)
  deriving DecidableEq

def RelV : V → Value → Prop
  | .non, u => u = Value.none
  | .bl b, u => u = Value.bool b
  | .int i, u => ∃ t, u = Value.int i t
  | .str x, u => ∃ t, u = Value.str x t
  | .byt b, u => ∃ t, u = Value.bytes b t
  | .flt b, u => ∃ t, u = Value.float b t
  | .ref a, u => u = Value.ref a
  | .ty n, u => u = Value.type n

abbrev Vals : List V → List Value → Prop := Paired RelV
theorem Vals.length {xs : List V} {us : List Value} (r : Vals xs us) : xs.length = us.length := Paired.length r
theorem Vals.get : ∀ {xs : List V} {us : List Value} {i : Nat} {x : V}, Vals xs us → xs[i]? = some x → ∃ u, us[i]? = some u ∧ RelV x u
  | _, _, _, _, .nil, e => by simp at e
  | _, _, 0, _, .cons r _, e => by simp at e; subst e; exact ⟨_, rfl, r⟩
  | _, _, i + 1, x, .cons _ t, e => by
    obtain ⟨u, h1, h2⟩ := Vals.get (i := i) (x := x) t (by simpa using e)
    exact ⟨u, by simpa using h1, h2⟩
theorem Vals.set {x : V} {u : Value} (r : RelV x u) : ∀ {xs : List V} {us : List Value} (i : Nat), Vals xs us → Vals (xs.set i x) (us.set i u)
  | _, _, _, .nil => .nil
  | _, _, 0, .cons _ t => .cons r t
  | _, _, i + 1, .cons q t => .cons q (Vals.set r i t)
theorem Vals.append : ∀ {xs ys : List V} {us ws : List Value}, Vals xs us → Vals ys ws → Vals (xs ++ ys) (us ++ ws)
  | _, _, _, _, .nil, s => s
  | _, _, _, _, .cons r t, s => .cons r (Vals.append t s)
theorem Vals.take : ∀ {xs : List V} {us : List Value} (n : Nat), Vals xs us → Vals (xs.take n) (us.take n)
  | _, _, 0, _ => .nil
  | _, _, _ + 1, .nil => .nil
  | _, _, n + 1, .cons r t => .cons r (Vals.take n t)
theorem Vals.drop : ∀ {xs : List V} {us : List Value} (n : Nat), Vals xs us → Vals (xs.drop n) (us.drop n)
  | _, _, 0, r => r
  | _, _, _ + 1, .nil => .nil
  | _, _, n + 1, .cons _ t => Vals.drop n t
def RelO : Option V → Option Value → Prop
  | some v, some u => RelV v u
  | none, none => True
  | _, _ => False
def KV {κ : Type} : List (κ × V) → List (κ × Value) → Prop := Paired fun (p : κ × V) (q : κ × Value) => p.1 = q.1 ∧ RelV p.2 q.2

/-- a key of a dict (00_mix): an int or a text -/
def kV : Key → V
  | .inl i => .int i
  | .inr x => .str x

/-- what stands at a tracked address -/
inductive HO where
  /-- a list -/
  | lst (xs : List V)
  /-- a tuple (never changes) -/
  | tup (xs : List V)
  /-- a dict whose keys are ints and texts; one whose keys are tuples of ints and texts (the empty one is both) -/
  | dK (kvs : List (Key × V)) | dT (kvs : List (List Key × V))
  /-- a set of ints: its members, its size -/
  | set (S : Int → Bool) (n : Nat)
  /-- an instance of the class at C, its dict at dx, its attributes -/
  | ins (C dx : Addr) (fs : List (Str × V))
  /-- the dict of the instance at x -/
  | own (x : Addr)
  /-- the dict of an exception -/
  | xd (fs : List (Str × V))
  /-- a bound method, f of x -/
  | met (f x : Addr)
  /-- a range object lo, lo + 1, .. below hi -/
  | rng (lo hi : Int)
  /-- a thing that is known to the object (the script; a dict while a loop walks it): read, never written while it is so -/
  | frz (o : Obj) (u : HO)
  /-- a code object's table -/
  | tbl (ps : Array Value)
  /-- any other thing, by what is true of its one object (a def of one's own: SetO a S n := HO.ext fun h => ..) -/
  | ext (φ : Heap → Prop)

abbrev Hp := Addr → Option HO
def upd (H : Hp) (a : Addr) (o : HO) : Hp := fun b => if b = a then some o else H b
theorem upd_same {H : Hp} {a : Addr} {o : HO} : upd H a o a = some o := by unfold upd; rw [if_pos rfl]
theorem upd_ne {H : Hp} {a b : Addr} {o : HO} (h : b ≠ a) : upd H a o b = H b := by unfold upd; rw [if_neg h]
/-- two objects of different content stand apart -/
theorem ne_of {H : Hp} {a b : Addr} {o u : HO} (h : H a = some o) (h' : H b = some u) (d : o ≠ u) : a ≠ b := by
  intro e; subst e; rw [h] at h'; exact d (Option.some.inj h')
theorem ne_of_none {H : Hp} {a b : Addr} {o : HO} (h : H a = some o) (h' : H b = none) : a ≠ b := by
  intro e; subst e; rw [h] at h'; cases h'

section
variable (P : Program) (w : World)
def ObjOk (H : Hp) (h : Heap) (a : Addr) : HO → Prop
  | .lst xs => xs.length ≤ sizeLine ∧ ∃ (its : List Value) (n : Nat), Vals xs its ∧ h.get? a = some { cls := .type "list", data := .seq its.toArray n }
  | .tup xs => xs.length ≤ sizeLine ∧ ∃ its : List Value, Vals xs its ∧ IsTup h a its.toArray
  | .dK kvs => kvs.length ≤ sizeLine ∧ (a == sysModules) = false ∧ ∃ vs, KV kvs vs ∧ h.DictOf (mixKind P w) a vs
  | .dT kvs => kvs.length ≤ sizeLine ∧ (a == sysModules) = false ∧ ∃ xs : List (List Key × Addr × Value),
      Paired (fun (p : List Key × V) (q : List Key × Addr × Value) => p.1 = q.1 ∧ H q.2.1 = some (.tup (p.1.map kV)) ∧ RelV p.2 q.2.2) kvs xs ∧
      ∃ o es ep, h.get? a = some o ∧ o.ExactDict ∧ o.data = .dict es ep ∧ es.toList = xs.map (entryOfKey (tupleKind (mixKind P w))) ∧ (xs.map (·.1)).Nodup
  | .set S n => h.SetOf (intKind P w) a S n
  | .ins C dx fs => H dx = some (.own a) ∧ fs.length ≤ 1000 ∧ dx ≠ a ∧ h.get? a = some (PySem.W.instObj C dx) ∧
      ∃ mA, h.Ns1 dx mA ∧ (∀ f, RelO (fs.lookup f) (mA f)) ∧ PySem.Within mA (fs.map (·.1))
  | .own _ => ∃ o, h.get? a = some o
  | .xd fs => ∃ mA, h.Ns1 a mA ∧ ∀ f, RelO (fs.lookup f) (mA f)
  | .rng lo hi => ∃ t u v, h.get? a = some { cls := .type "range", data := .fields #[.int lo t, .int hi u, .int 1 v] }
  | .frz o u => h.get? a = some o ∧ ObjOk H h a u
  | .tbl ps => h.get? a = some { cls := .none, data := .fields ps }
  | .met f x => h.get? a = some (PySem.W.methodObj (.ref f) (.ref x))
  | .ext φ => φ h ∧ (∃ o, h.get? a = some o) ∧ ∀ h1 h2 : Heap, φ h1 → (∀ o, h1.get? a = some o → h2.get? a = some o) → φ h2
/-- the abstract heap is held -/
def HOk (H : Hp) (h : Heap) : Prop := ∀ a o, H a = some o → ObjOk P w H h a o
end

section
variable {P : Program} {w : World} {H H' : Hp} {h h' : Heap} {a : Addr} {o : HO}
theorem ObjOk.lt (x : ObjOk P w H h a o) : a < h.objs.size := by
  cases o with
  | lst xs => obtain ⟨_, _, _, _, e⟩ := x; exact Heap.lt_size e
  | tup xs => obtain ⟨_, _, _, p⟩ := x; exact p.lt
  | dK kvs => obtain ⟨_, _, _, _, o, _, _, e, _⟩ := x; exact Heap.lt_size e
  | dT kvs => obtain ⟨_, _, _, _, o, _, _, e, _⟩ := x; exact Heap.lt_size e
  | set S n => obtain ⟨o, _, _, _, e, _⟩ := x; exact Heap.lt_size e
  | ins C dx fs => obtain ⟨_, _, _, e, _⟩ := x; exact Heap.lt_size e
  | own y => obtain ⟨_, e⟩ := x; exact Heap.lt_size e
  | xd fs => obtain ⟨_, ⟨_, _, _, e, _⟩, _⟩ := x; exact Heap.lt_size e
  | rng lo hi => obtain ⟨_, _, _, e⟩ := x; exact Heap.lt_size e
  | frz ob u => obtain ⟨e, _⟩ := x; exact Heap.lt_size e
  | tbl ps => exact Heap.lt_size (show h.get? a = some _ from x)
  | met f y => exact Heap.lt_size (show h.get? a = some _ from x)
  | ext φ => obtain ⟨_, ⟨_, e⟩, _⟩ := x; exact Heap.lt_size e
theorem Paired.mapP {α β : Type} {F G : α → β → Prop} : ∀ {l₁ : List α} {l₂ : List β}, Paired F l₁ l₂ → (∀ a b, F a b → G a b) → Paired G l₁ l₂
  | _, _, .nil, _ => .nil
  | _, _, .cons r t, f => .cons (f _ _ r) (Paired.mapP t f)
/-- what an object's description leans on: its own object, its own dict, the tuples -/
theorem ObjOk.stay (x : ObjOk P w H h a o) (k : ∀ b u, (b = a ∨ H b = some (.own a)) → h.get? b = some u → h'.get? b = some u)
    (ho : ∀ b, H b = some (.own a) → H' b = some (.own a)) (ht : ∀ b xs, H b = some (.tup xs) → H' b = some (.tup xs)) : ObjOk P w H' h' a o := by
  induction o with
  | lst xs => obtain ⟨z, its, n, r, e⟩ := x; exact ⟨z, its, n, r, k _ _ (.inl rfl) e⟩
  | tup xs => obtain ⟨z, its, r, ob, e, c⟩ := x; exact ⟨z, its, r, ob, k _ _ (.inl rfl) e, c⟩
  | dK kvs => obtain ⟨z, y, vs, r, ob, es, ep, e, c⟩ := x; exact ⟨z, y, vs, r, ob, es, ep, k _ _ (.inl rfl) e, c⟩
  | dT kvs =>
    obtain ⟨z, y, xs, r, ob, es, ep, e, c⟩ := x
    exact ⟨z, y, xs, Paired.mapP r fun p q z => ⟨z.1, ht _ _ z.2.1, z.2.2⟩, ob, es, ep, k _ _ (.inl rfl) e, c⟩
  | set S n => obtain ⟨ob, es, ep, t, e, c⟩ := x; exact ⟨ob, es, ep, t, k _ _ (.inl rfl) e, c⟩
  | ins C dx fs =>
    obtain ⟨d, z, ne, e, mA, ⟨od, es, ep, e2, c⟩, r⟩ := x
    exact ⟨ho _ d, z, ne, k _ _ (.inl rfl) e, mA, ⟨od, es, ep, k _ _ (.inr d) e2, c⟩, r⟩
  | own y => obtain ⟨ob, e⟩ := x; exact ⟨ob, k _ _ (.inl rfl) e⟩
  | xd fs => obtain ⟨mA, ⟨od, es, ep, e, c⟩, r⟩ := x; exact ⟨mA, ⟨od, es, ep, k _ _ (.inl rfl) e, c⟩, r⟩
  | rng lo hi => obtain ⟨t, u, v, e⟩ := x; exact ⟨t, u, v, k _ _ (.inl rfl) e⟩
  | frz ob u ih => obtain ⟨e, q⟩ := x; exact ⟨k _ _ (.inl rfl) e, ih q⟩
  | tbl ps =>
    have e : h.get? a = some { cls := .none, data := .fields ps } := x
    show h'.get? a = some { cls := .none, data := .fields ps }
    exact k a _ (.inl rfl) e
  | met f y =>
    have e : h.get? a = some (PySem.W.methodObj (.ref f) (.ref y)) := x
    show h'.get? a = some (PySem.W.methodObj (.ref f) (.ref y))
    exact k a _ (.inl rfl) e
  | ext φ => obtain ⟨p, ⟨o, e⟩, st⟩ := x; exact ⟨st _ _ p fun o q => k _ _ (.inl rfl) q, ⟨o, k _ _ (.inl rfl) e⟩, st⟩
theorem HOk.lt (x : HOk P w H h) (e : H a = some o) : a < h.objs.size := (x a o e).lt
theorem HOk.fresh (x : HOk P w H h) (e : h.objs.size ≤ a) : H a = none := by
  cases q : H a with
  | none => rfl
  | some u => exact absurd (Nat.lt_of_lt_of_le (x.lt q) e) (Nat.lt_irrefl _)
/-- every object of the heap is kept -/
theorem HOk.kept (x : HOk P w H h) (k : ∀ b u, h.get? b = some u → h'.get? b = some u) : HOk P w H h' := fun a o e =>
  (x a o e).stay (fun b u _ q => k b u q) (fun _ q => q) fun _ _ q => q
/-- a new object is laid and tracked -/
theorem HOk.laid (x : HOk P w H h) (k : ∀ b u, h.get? b = some u → h'.get? b = some u) (hp : h.objs.size ≤ a) (new : ObjOk P w (upd H a o) h' a o) : HOk P w (upd H a o) h' := fun b u e => by
  have hn := x.fresh hp
  by_cases hb : b = a
  · subst hb; rw [upd_same] at e; cases e; exact new
  · rw [upd_ne hb] at e
    exact (x b u e).stay (fun c v _ q => k c v q) (fun c q => by rw [upd_ne (ne_of_none q hn)]; exact q) fun c xs q => by rw [upd_ne (ne_of_none q hn)]; exact q
end

/-- what may be read as u: it is u, or a known u -/
def Rd (H : Hp) (a : Addr) (u : HO) : Prop := H a = some u ∨ ∃ o, H a = some (.frz o u)
theorem Rd.of {H : Hp} {a : Addr} {u : HO} (h : H a = some u) : Rd H a u := .inl h
theorem Rd.ok {P : Program} {w : World} {H : Hp} {h : Heap} {a : Addr} {u : HO} (r : Rd H a u) (x : HOk P w H h) : ObjOk P w H h a u := by
  rcases r with r | ⟨o, r⟩
  · exact x a u r
  · obtain ⟨_, q⟩ := x a _ r
    exact q
/-- what may be written -/
def Mut : Option HO → Prop
  | some (.lst _) => True
  | some (.dK _) => True
  | some (.dT _) => True
  | some (.set _ _) => True
  | some (.ins _ _ _) => True
  | some (.ext _) => True
  | _ => False
section
variable {P : Program} {w : World} {H : Hp} {h h' : Heap} {x e : Addr} {o' : HO}
/-- the object at e is changed: x itself, or the dict of the instance x -/
theorem HOk.write (ok : HOk P w H h) (mu : Mut (H x)) (he : e = x ∨ H e = some (.own x)) (k : ∀ b u, b ≠ e → h.get? b = some u → h'.get? b = some u) (heo : ∃ u, h'.get? e = some u)
    (new : ObjOk P w (upd H x o') h' x o') : HOk P w (upd H x o') h' := fun b u q => by
  have nown : ∀ c y, H c = some (.own y) → c ≠ x := fun c y r z => by subst z; rw [r] at mu; exact mu
  have ntup : ∀ c xs, H c = some (.tup xs) → c ≠ x := fun c xs r z => by subst z; rw [r] at mu; exact mu
  by_cases hb : b = x
  · subst hb; rw [upd_same] at q; cases q; exact new
  · rw [upd_ne hb] at q
    by_cases hbe : b = e
    · have q' : H b = some (.own x) := by
        rcases he with z | z
        · exact absurd (hbe.trans z) hb
        · rw [hbe]; exact z
      rw [q] at q'; cases q'
      obtain ⟨v, hv⟩ := heo
      exact ⟨v, by rw [hbe]; exact hv⟩
    · refine (ok b u q).stay (fun c v hc r => k c v ?_ r) (fun c r => by rw [upd_ne (nown c b r)]; exact r) fun c xs r => by rw [upd_ne (ntup c xs r)]; exact r
      rcases hc with rfl | hc
      · exact hbe
      · rintro rfl
        rcases he with z | z
        · exact nown c b hc z
        · rw [hc] at z; cases z; exact hb rfl
end

/-! ### kept unless tracked; of the frames at fs (the callers') the slots may change (an exception that passes writes there); of the records at ex (iterators) nothing is said -/
structure Un (fs ex : List Addr) (H H' : Hp) (h h' : Heap) : Prop where
  keep : ∀ b o, h.get? b = some o → H b = none → b ∉ fs → b ∉ ex → h'.get? b = some o
  slot : ∀ b o, h.get? b = some o → H b = none → b ∈ fs → b ∉ ex → ∃ sl, h'.get? b = some { o with slots := sl }
  free : ∀ b o, h.get? b = some o → H b = none → b ∉ ex → H' b = none
  there : ∀ b o, h.get? b = some o → b ∉ ex → ∃ o', h'.get? b = some o'
  tups : ∀ b xs, H b = some (.tup xs) → H' b = some (.tup xs)
  frzs : ∀ b o u, H b = some (.frz o u) → H' b = some (.frz o u)
  tbls : ∀ b ps, H b = some (.tbl ps) → ∃ more, H' b = some (.tbl (ps ++ more))
section
variable {fs fs' ex ex' : List Addr} {H H1 H2 : Hp} {h h1 h2 h' : Heap} {a x e : Addr} {o : HO}
theorem Un.any (u : Un fs ex H H1 h h1) {b : Addr} {ob : Obj} (q : h.get? b = some ob) (n : H b = none) (hx : b ∉ ex) : ∃ sl, h1.get? b = some { ob with slots := sl } := by
  by_cases hb : b ∈ fs
  · exact u.slot b ob q n hb hx
  · exact ⟨ob.slots, u.keep b ob q n hb hx⟩
theorem Un.trans (a : Un fs ex H H1 h h1) (b : Un fs ex H1 H2 h1 h2) : Un fs ex H H2 h h2 where
  keep := fun c ob q n hc hx => b.keep c ob (a.keep c ob q n hc hx) (a.free c ob q n hx) hc hx
  slot := fun c ob q n hc hx => by
    obtain ⟨sl, e1⟩ := a.slot c ob q n hc hx
    obtain ⟨sl', e2⟩ := b.slot c _ e1 (a.free c ob q n hx) hc hx
    exact ⟨sl', e2⟩
  free := fun c ob q n hx => by
    obtain ⟨o', e1⟩ := a.there c ob q hx
    exact b.free c o' e1 (a.free c ob q n hx) hx
  there := fun c ob q hx => by
    obtain ⟨o', e1⟩ := a.there c ob q hx
    exact b.there c o' e1 hx
  tups := fun c xs q => b.tups c xs (a.tups c xs q)
  frzs := fun c ob xs q => b.frzs c ob xs (a.frzs c ob xs q)
  tbls := fun c ps q => by
    obtain ⟨m1, e1⟩ := a.tbls c ps q
    obtain ⟨m2, e2⟩ := b.tbls c _ e1
    exact ⟨m1 ++ m2, by rw [e2, Array.append_assoc]⟩
theorem Un.kept (k : ∀ b u, h.get? b = some u → h'.get? b = some u) : Un fs ex H H h h' :=
  ⟨fun b ob q _ _ _ => k b ob q, fun b ob q _ _ _ => ⟨ob.slots, k b ob q⟩, fun _ _ _ n _ => n, fun b ob q _ => ⟨ob, k b ob q⟩, fun _ _ q => q, fun _ _ _ q => q, fun _ ps q => ⟨#[], by rw [q]; simp⟩⟩
theorem Un.refl : Un fs ex H H h h := Un.kept fun _ _ q => q
theorem Un.laid (k : ∀ b u, h.get? b = some u → h'.get? b = some u) (hp : h.objs.size ≤ a) (hn : H a = none) : Un fs ex H (upd H a o) h h' where
  keep := fun b u q _ _ _ => k b u q
  slot := fun b u q _ _ _ => ⟨u.slots, k b u q⟩
  free := fun b u q n _ => by rw [upd_ne (Nat.ne_of_lt (Nat.lt_of_lt_of_le (Heap.lt_size q) hp))]; exact n
  there := fun b u q _ => ⟨u, k b u q⟩
  tups := fun b xs q => by rw [upd_ne (ne_of_none q hn)]; exact q
  frzs := fun b u xs q => by rw [upd_ne (ne_of_none q hn)]; exact q
  tbls := fun b ps q => ⟨#[], by rw [upd_ne (ne_of_none q hn), q]; simp⟩
theorem Un.write (mu : Mut (H x)) (he : e = x ∨ H e = some (.own x)) (k : ∀ b u, b ≠ e → h.get? b = some u → h'.get? b = some u) (heo : ∃ u, h'.get? e = some u) : Un fs ex H (upd H x o) h h' := by
  have hx : ∀ b, H b = none → b ≠ x := fun b n z => by subst z; rw [n] at mu; exact mu
  have hb : ∀ b, H b = none → b ≠ e := fun b n z => by
    subst z
    rcases he with r | r
    · exact hx b n r
    · rw [n] at r; cases r
  have hm : ∀ b u, H b = some u → ¬ Mut (some u) → b ≠ x := fun b u q nm z => by subst z; rw [q] at mu; exact nm mu
  refine ⟨fun b u q n _ _ => k b u (hb b n) q, fun b u q n _ _ => ⟨u.slots, k b u (hb b n) q⟩, fun b u q n _ => by rw [upd_ne (hx b n)]; exact n, fun b u q _ => ?_,
    fun b xs q => by rw [upd_ne (hm b _ q fun z => z)]; exact q, fun b u xs q => by rw [upd_ne (hm b _ q fun z => z)]; exact q, fun b ps q => ⟨#[], by rw [upd_ne (hm b _ q fun z => z), q]; simp⟩⟩
  by_cases hbe : b = e
  · subst hbe; exact heo
  · exact ⟨u, k b u hbe q⟩
theorem Un.mono (u : Un fs ex H H1 h h1) (hs : ∀ b ∈ fs, b ∈ fs') (hx : ∀ b ∈ ex, b ∈ ex') : Un fs' ex' H H1 h h1 :=
  ⟨fun b ob q n hb he => u.keep b ob q n (fun z => hb (hs b z)) fun z => he (hx b z), fun _ _ q n _ he => u.any q n fun z => he (hx _ z), fun b ob q n he => u.free b ob q n fun z => he (hx b z), fun b ob q he => u.there b ob q fun z => he (hx b z), u.tups, u.frzs, u.tbls⟩
end

/-! ### the heap without what is tracked -/
def trk (h : Heap) (H : Hp) : List Addr := (List.range h.objs.size).filter fun a => (H a).isSome
def hidT (h : Heap) (H : Hp) : Heap := PySem.W.hideAll h (trk h H)
theorem hidT_size (h : Heap) (H : Hp) : (hidT h H).objs.size = h.objs.size := PySem.W.hideAll_size _ _
theorem hidT_get {h : Heap} {H : Hp} {b : Addr} {o : Obj} (e : h.get? b = some o) (n : H b = none) : (hidT h H).get? b = some o :=
  PySem.W.hideAll_get _ e fun hm => by
    have q : (H b).isSome = true := (List.mem_filter.mp hm).2
    rw [n] at q; simp at q
theorem of_hidT {h : Heap} {H : Hp} {b : Addr} {o : Obj} (e : (hidT h H).get? b = some o) : h.get? b = some o ∧ H b = none := by
  have e' : h.get? b = some o := PySem.W.of_hideAll (trk h H) e
  refine ⟨e', ?_⟩
  cases q : H b with
  | none => rfl
  | some x =>
    have hm : b ∈ trk h H := List.mem_filter.mpr ⟨List.mem_range.mpr (Heap.lt_size e'), by simp [q]⟩
    have z : (hidT h H).get? b = none := PySem.W.hideAll_none (trk h H) hm
    rw [z] at e; cases e

/-! ### OpenK's ledger, filled with every new object but one -/
def allNews (g h : Heap) (L : Addr) : List (Addr × Obj) := (List.range h.objs.size).filterMap fun a => if a = L ∨ (g.get? a).isSome = true then none else (h.get? a).map fun o => (a, o)
def rest (g h : Heap) (L d : Addr) : List (Addr × Obj) := (allNews g h L).filter fun p => decide (p.1 ≠ d)
end L2

namespace L2
open PySem PySem.Spec PyProof.Rows

/-- the module's facts, over the base: the heap at the law's entry without what is tracked there -/
structure Mod (K : PySem.W.Frag) (mg : Str → Option Value) (base : Heap) : Prop where
  kin : K.In base
  glob : base.Ns mainGlobals mg
  blt : ∃ mb, base.Ns builtinsNs mb ∧ ∀ x : Str, x ≠ "__name__" → mb x = bootBuiltins x
  nolimit : base.NoLimit

/-- the context: a def's body (or a comprehension's block) running. base: fixed through the whole law; s₀, H₀: the entry; outer: the frames whose slots others may change (a def's callers); stack: all frames that run;
   ex: iterators that were made ahead of the entry and are walked here (a comprehension's); fn: the names whose cells were made at the entry (a def: all; a comprehension's block: its own); calm: not within an except suite; pn: pins that every state bears; xe: what is wanted of an exception that leaves the code -/
structure Cx where
  prog : Program
  w : World
  K : PySem.W.Frag
  mg : Str → Option Value
  base : Heap
  A : Around
  N : List Str
  s₀ : Shared
  H₀ : Hp
  env : Env
  outer : List Env
  stack : List Env
  ex : List Addr
  fn : Str → Bool
  calm : Bool
  pn : List (Addr × Obj)
  xe : Value → Shared → Prop
/-- the callers' frames -/
def frs (l : List Env) : List Addr := l.filterMap (·.frame)
abbrev Cx.fs (X : Cx) : List Addr := frs X.outer

def Vis (sc : Scope) (x : Str) : Prop := sc.names.lookup x = some .local ∨ sc.names.lookup x = some .cell ∨ sc.names.lookup x = some .free
def Loc (sc : Scope) (x : Str) : Prop := sc.names.lookup x = some .local ∨ sc.names.lookup x = some .cell
def Look (env : Env) (h : Heap) (m : Str → Option Value) (x : Str) (u : Value) : Prop :=
  (env.kindOf x = some .local ∧ m x = some u) ∨ ((env.kindOf x = some .cell ∨ env.kindOf x = some .free) ∧ ∃ c, env.cells.lookup x = some c ∧ h.IsCell c (some u))

structure Cx.Ok (X : Cx) : Prop where
  mod : Mod X.K X.mg X.base
  kind : X.env.scope.kind = .function
  glob : X.env.globals = mainGlobals
  blt : X.env.builtins = builtinsNs
  above : X.s₀.heap.objs.size ≤ X.env.locals
  inj : ∀ x y c, X.env.cells.lookup x = some c → X.env.cells.lookup y = some c → x = y
  has : ∀ x, (X.env.kindOf x = some .cell ∨ X.env.kindOf x = some .free) → ∃ c, X.env.cells.lookup x = some c
  cab : ∀ x c, X.fn x = true → X.env.cells.lookup x = some c → X.s₀.heap.objs.size ≤ c
  hd : X.calm = true → X.A.handled = none
  frames : X.A.frames = some X.stack
  stk : X.stack = X.outer ∨ (X.stack = X.env :: X.outer ∧ X.env.frame = some X.env.locals)
  exf : ∀ b ∈ X.ex, b ≠ X.env.locals ∧ ∀ x c, X.env.cells.lookup x = some c → c ≠ b
  bs : ∀ b o, X.base.get? b = some o → X.s₀.heap.get? b = some o ∧ X.H₀ b = none
  bsz : X.base.objs.size ≤ X.s₀.heap.objs.size
  noex : ∀ b o, X.base.get? b = some o → b ∉ X.ex
  exfs : ∀ b ∈ X.ex, b ∉ X.fs
  funs : X.s₀.heap.FunFrames X.base X.outer
  frf : ∀ b ∈ X.fs, X.H₀ b = none

structure Inv (X : Cx) (pins : List (Addr × Obj)) (σ : List (Option V)) (H : Hp) (s : Shared) : Prop where
  ok : X.Ok
  os : s.os = X.s₀.os
  bare : AllBare s.gens
  base : Un X.fs X.ex X.H₀ H X.s₀.heap s.heap
  loc : ∃ m, s.heap.Ns X.env.locals m ∧ ∀ (i : Nat) (x : Str) (v : V), X.N[i]? = some x → σ[i]? = some (some v) → Vis X.env.scope x → ∃ u, RelV v u ∧ Look X.env s.heap m x u
  cell : ∀ x c, X.env.cells.lookup x = some c → ∃ v, s.heap.IsCell c v
  free : H X.env.locals = none
  freeC : ∀ x c, X.env.cells.lookup x = some c → H c = none
  pin : ∀ p ∈ X.pn ++ pins, s.heap.get? p.1 = some p.2 ∧ H p.1 = none ∧ p.1 ≠ X.env.locals ∧ p.1 ∉ X.fs ∧ ∀ v, p.2.data ≠ .cell v
  hok : HOk X.prog X.w H s.heap
  len : σ.length = X.N.length

section
variable {X : Cx} {pins : List (Addr × Obj)} {σ : List (Option V)} {H H' : Hp} {s : Shared} {h' : Heap}

theorem Cx.Ok.nofr (ok : X.Ok) {b : Addr} {o : Obj} (e : X.base.get? b = some o) : b ∉ X.fs := fun hb => by
  have := (ok.funs.mem hb).1
  rw [e] at this; cases this
theorem Inv.bs (I : Inv X pins σ H s) : ∀ b o, X.base.get? b = some o → s.heap.get? b = some o ∧ H b = none := fun b o e =>
  ⟨I.base.keep b o (I.ok.bs b o e).1 (I.ok.bs b o e).2 (I.ok.nofr e) (I.ok.noex b o e), I.base.free b o (I.ok.bs b o e).1 (I.ok.bs b o e).2 (I.ok.noex b o e)⟩
theorem Inv.bk (I : Inv X pins σ H s) : ∀ b o, X.base.get? b = some o → s.heap.get? b = some o := fun b o e => (I.bs b o e).1
theorem Inv.mod (I : Inv X pins σ H s) : Mod X.K X.mg X.base := I.ok.mod
theorem Inv.kIn (I : Inv X pins σ H s) : X.K.In s.heap := I.ok.mod.kin.keeps I.bk
theorem Inv.nolimit (I : Inv X pins σ H s) : s.heap.NoLimit := I.ok.mod.nolimit.keeps I.bk
/-- the frame over the base: for OpenK's rules (K.In X.base is I.mod.kin) -/
theorem Inv.fr (I : Inv X pins σ H s) : ∃ m, Fr X.base X.env.locals s.heap m :=
  let ⟨m, hn, _⟩ := I.loc
  ⟨m, hn, I.bk, Nat.le_trans I.ok.bsz I.ok.above⟩
theorem Inv.lt (I : Inv X pins σ H s) : X.env.locals < s.heap.objs.size := let ⟨_, hn, _⟩ := I.loc; hn.lt
theorem Inv.sz (I : Inv X pins σ H s) : X.s₀.heap.objs.size ≤ s.heap.objs.size := Nat.le_trans I.ok.above (Nat.le_of_lt I.lt)
theorem Inv.nofs (I : Inv X pins σ H s) {a : Addr} (h : s.heap.objs.size ≤ a) : a ∉ X.fs := fun hb => by
  obtain ⟨_, o, ho, _⟩ := I.ok.funs.mem hb
  exact absurd (Nat.lt_of_lt_of_le (Heap.lt_size ho) (Nat.le_trans I.sz h)) (Nat.lt_irrefl _)
theorem Inv.cne (I : Inv X pins σ H s) : ∀ x c, X.env.cells.lookup x = some c → c ≠ X.env.locals := fun x c e z => by
  obtain ⟨v, o, ho, hd⟩ := I.cell x c e
  obtain ⟨m, ⟨o', es, ep, ho', hd', _⟩, _⟩ := I.loc
  rw [z, ho'] at ho; cases ho; rw [hd'] at hd; cases hd
theorem Inv.funs (I : Inv X pins σ H s) : s.heap.FunFrames X.base X.outer := by
  have all : ∀ (l : List Env), (∀ b ∈ frs l, b ∈ X.fs) → X.s₀.heap.FunFrames X.base l → s.heap.FunFrames X.base l := by
    intro l
    induction l with
    | nil => intro _ _; trivial
    | cons env r ih =>
      intro hs hl
      obtain ⟨hk, ⟨L, o, hf, hn, ho, hd⟩, hr⟩ := hl
      have hL : L ∈ X.fs := hs L (by unfold frs; rw [List.filterMap_cons, hf]; exact List.mem_cons_self)
      obtain ⟨sl, e⟩ := I.base.slot L o ho (I.ok.frf L hL) hL fun z => I.ok.exfs L z hL
      exact ⟨hk, ⟨L, _, hf, hn, e, hd⟩, ih (fun b hb => hs b (by unfold frs; rw [List.filterMap_cons, hf]; exact List.mem_cons_of_mem _ hb)) hr⟩
  exact all X.outer (fun _ hb => hb) I.ok.funs

/-- the frames that run, for a call -/
theorem Inv.stack (I : Inv X pins σ H s) : s.heap.FunFrames X.base X.stack := by
  rcases I.ok.stk with e | ⟨e, hf⟩
  · rw [e]; exact I.funs
  · rw [e]
    obtain ⟨m, hn, _⟩ := I.loc
    refine .cons (by rw [I.ok.kind]; decide) hf hn ?_ I.funs
    exact Heap.get?_none_of_le (Nat.le_trans I.ok.bsz I.ok.above)
theorem Inv.stkSub (I : Inv X pins σ H s) : ∀ b ∈ frs X.stack, b ∈ X.env.locals :: X.fs := fun b hb => by
  rcases I.ok.stk with e | ⟨e, hf⟩
  · rw [e] at hb; exact List.mem_cons_of_mem _ hb
  · rw [e] at hb
    unfold frs at hb
    rw [List.filterMap_cons, hf] at hb
    exact hb
theorem Inv.stkFree (I : Inv X pins σ H s) : ∀ b ∈ frs X.stack, H b = none := fun b hb => by
  rcases List.mem_cons.mp (I.stkSub b hb) with e | hb
  · rw [e]; exact I.free
  · obtain ⟨_, o, ho, _⟩ := I.ok.funs.mem hb
    exact I.base.free b o ho (I.ok.frf b hb) fun z => I.ok.exfs b z hb

/-- THE STEP: the untracked objects but the frame and the records at ch are kept (the callers' frames up to slots), the frame's map is kept, the new abstract heap is held -/
theorem Inv.step {g' : Array GenState} {t' : Nat} {d' : Drawn} {ch : List Addr} (I : Inv X pins σ H s)
    (hch : ∀ b ∈ ch, (b ∈ X.ex ∨ X.s₀.heap.objs.size ≤ b) ∧ b ≠ X.env.locals ∧ (∀ x c, X.env.cells.lookup x = some c → c ≠ b) ∧ ∀ p ∈ X.pn ++ pins, p.1 ≠ b)
    (keep : ∀ b o, b ≠ X.env.locals → b ∉ X.fs → b ∉ ch → s.heap.get? b = some o → H b = none → h'.get? b = some o)
    (slot : ∀ b o, b ≠ X.env.locals → b ∈ X.fs → b ∉ ch → s.heap.get? b = some o → H b = none → ∃ sl, h'.get? b = some { o with slots := sl }) (free : ∀ b o, b ∉ ch → s.heap.get? b = some o → H b = none → H' b = none)
    (there : ∀ b o, b ∉ ch → s.heap.get? b = some o → ∃ o', h'.get? b = some o')
    (tups : ∀ b xs, H b = some (.tup xs) → H' b = some (.tup xs)) (frzs : ∀ b o u, H b = some (.frz o u) → H' b = some (.frz o u)) (tbls : ∀ b ps, H b = some (.tbl ps) → ∃ more, H' b = some (.tbl (ps ++ more)))
    (ns : ∀ m, s.heap.Ns X.env.locals m → h'.Ns X.env.locals m) (hok : HOk X.prog X.w H' h') (hg : AllBare g') :
    Inv X pins σ H' { s with heap := h', gens := g', drawn := d', toks := t' } := by
  have neL : ∀ b o, X.s₀.heap.get? b = some o → b ≠ X.env.locals := fun b o e => Nat.ne_of_lt (Nat.lt_of_lt_of_le (Heap.lt_size e) I.ok.above)
  have neC : ∀ b o, X.s₀.heap.get? b = some o → b ∉ X.ex → b ∉ ch := fun b o e hx hb => by
    rcases (hch b hb).1 with z | z
    · exact hx z
    · exact absurd (Nat.lt_of_lt_of_le (Heap.lt_size e) z) (Nat.lt_irrefl _)
  have cellK : ∀ x c, X.env.cells.lookup x = some c → ∀ v, s.heap.IsCell c v → h'.IsCell c v := fun x c e v ⟨o, ho, hd⟩ => by
    have nch : c ∉ ch := fun z => (hch c z).2.2.1 x c e rfl
    by_cases hc : c ∈ X.fs
    · obtain ⟨sl, q⟩ := slot c o (I.cne x c e) hc nch ho (I.freeC x c e)
      exact ⟨_, q, hd⟩
    · exact ⟨o, keep c o (I.cne x c e) hc nch ho (I.freeC x c e), hd⟩
  refine ⟨I.ok, I.os, hg, ⟨fun b o e n hb hx => ?_, fun b o e n hb hx => ?_, fun b o e n hx => ?_, fun b o e hx => ?_, fun b xs e => tups b xs (I.base.tups b xs e), fun b o xs e => frzs b o xs (I.base.frzs b o xs e), fun b ps e => ?_⟩, ?_, fun x c e => ?_, ?_, fun x c e => ?_, fun p hp => ?_, hok, I.len⟩
  · exact keep b o (neL b o e) hb (neC b o e hx) (I.base.keep b o e n hb hx) (I.base.free b o e n hx)
  · obtain ⟨sl, e1⟩ := I.base.slot b o e n hb hx
    obtain ⟨sl', e2⟩ := slot b _ (neL b o e) hb (neC b o e hx) e1 (I.base.free b o e n hx)
    exact ⟨sl', e2⟩
  · obtain ⟨o', e1⟩ := I.base.there b o e hx
    exact free b o' (neC b o e hx) e1 (I.base.free b o e n hx)
  · obtain ⟨o', e1⟩ := I.base.there b o e hx
    exact there b o' (neC b o e hx) e1
  · obtain ⟨m1, e1⟩ := I.base.tbls b ps e
    obtain ⟨m2, e2⟩ := tbls b _ e1
    exact ⟨m1 ++ m2, by rw [e2, Array.append_assoc]⟩
  · obtain ⟨m, hn, hl⟩ := I.loc
    refine ⟨m, ns m hn, fun i x v e1 e2 e3 => ?_⟩
    obtain ⟨u, r, l⟩ := hl i x v e1 e2 e3
    refine ⟨u, r, ?_⟩
    rcases l with l | ⟨k, c, e, z⟩
    · exact .inl l
    · exact .inr ⟨k, c, e, cellK x c e _ z⟩
  · obtain ⟨v, z⟩ := I.cell x c e
    exact ⟨v, cellK x c e v z⟩
  · obtain ⟨m, ⟨o, _, _, ho, _⟩, _⟩ := I.loc
    exact free _ o (fun z => (hch _ z).2.1 rfl) ho I.free
  · obtain ⟨v, o, ho, hd⟩ := I.cell x c e
    exact free c o (fun z => (hch c z).2.2.1 x c e rfl) ho (I.freeC x c e)
  · obtain ⟨e, n, ne, nf, d⟩ := I.pin p hp
    have nch : p.1 ∉ ch := fun z => (hch p.1 z).2.2.2 p hp rfl
    exact ⟨keep p.1 p.2 ne nf nch e n, free p.1 p.2 nch e n, ne, nf, d⟩
/-- .. where the frame's own object is kept too -/
theorem Inv.un {t' : Nat} (I : Inv X pins σ H s) (u : Un X.fs [] H H' s.heap h') (hok : HOk X.prog X.w H' h') : Inv X pins σ H' { s with heap := h', toks := t' } := by
  obtain ⟨m, ⟨o, es, ep, ho, r⟩, _⟩ := id I.loc
  obtain ⟨sl, hL⟩ := u.any ho I.free (by simp)
  exact I.step (g' := s.gens) (d' := s.drawn) (ch := []) (fun _ z => nomatch z) (fun b o _ hb _ e n => u.keep b o e n hb (by simp)) (fun b o _ hb _ e n => u.slot b o e n hb (by simp)) (fun b o _ e n => u.free b o e n (by simp)) (fun b o _ e => u.there b o e (by simp)) u.tups u.frzs u.tbls (fun m' hm => by
    obtain ⟨o', es', ep', ho', r'⟩ := hm
    rw [ho] at ho'; cases ho'
    exact ⟨_, es', ep', hL, r'⟩) hok I.bare
/-- behind a call (or a comprehension's block): the slots of this frame may have changed too, the records at ch may have turned -/
theorem Inv.call {g' : Array GenState} {t' : Nat} {d' : Drawn} {ch : List Addr} (I : Inv X pins σ H s) (u : Un (frs X.stack) ch H H' s.heap h') (hok : HOk X.prog X.w H' h') (hg : AllBare g')
    (hch : ∀ b ∈ ch, (b ∈ X.ex ∨ X.s₀.heap.objs.size ≤ b) ∧ b ≠ X.env.locals ∧ (∀ x c, X.env.cells.lookup x = some c → c ≠ b) ∧ ∀ p ∈ X.pn ++ pins, p.1 ≠ b) :
    Inv X pins σ H' { s with heap := h', gens := g', drawn := d', toks := t' } := by
  obtain ⟨m, ⟨o, es, ep, ho, r⟩, _⟩ := id I.loc
  obtain ⟨sl, hL⟩ := u.any ho I.free fun z => (hch _ z).2.1 rfl
  exact I.step (ch := ch) hch (fun b o hL hb hc e n => u.keep b o e n (fun z => (List.mem_cons.mp (I.stkSub b z)).elim hL hb) hc) (fun b o _ _ hc e n => u.any e n hc) (fun b o hc e n => u.free b o e n hc) (fun b o hc e => u.there b o e hc) u.tups u.frzs u.tbls (fun m' hm => by
    obtain ⟨o', es', ep', ho', r'⟩ := hm
    rw [ho] at ho'; cases ho'
    exact ⟨_, es', ep', hL, r'⟩) hok hg
/-- an untracked record of ours (an iterator) has turned -/
theorem Inv.turned {t' : Nat} {it : Addr} (I : Inv X pins σ H s) (k : ∀ b o, b ≠ it → s.heap.get? b = some o → h'.get? b = some o) (hn : H it = none) (hL : it ≠ X.env.locals)
    (h1 : it ∈ X.ex ∨ X.s₀.heap.objs.size ≤ it) (h2 : ∀ x c, X.env.cells.lookup x = some c → c ≠ it) (h3 : ∀ p ∈ X.pn ++ pins, p.1 ≠ it) : Inv X pins σ H { s with heap := h', toks := t' } := by
  have nit : ∀ b u, H b = some u → b ≠ it := fun b u e z => by rw [z, hn] at e; cases e
  refine I.step (g' := s.gens) (d' := s.drawn) (ch := [it]) (fun b hb => ?_) (fun b o _ _ hc e _ => k b o (fun z => hc (by simp [z])) e) (fun b o _ _ hc e _ => ⟨o.slots, k b o (fun z => hc (by simp [z])) e⟩) (fun _ _ _ _ n => n)
    (fun b o hc e => ⟨o, k b o (fun z => hc (by simp [z])) e⟩) (fun _ _ e => e) (fun _ _ _ e => e) (fun b ps e => ⟨#[], by rw [e]; simp⟩) (fun m hm => ?_) (fun b u e => ?_) I.bare
  · have e : b = it := by simpa using hb
    subst e
    exact ⟨h1, hL, h2, h3⟩
  · obtain ⟨o, es, ep, ho, r⟩ := hm
    exact ⟨o, es, ep, k _ o (Ne.symm hL) ho, r⟩
  · refine (I.hok b u e).stay (fun c v hc q => k c v ?_ q) (fun _ q => q) fun _ _ q => q
    rcases hc with z | z
    · rw [z]; exact nit b u e
    · exact nit c _ z
theorem Inv.tok (I : Inv X pins σ H s) (t : Nat) : Inv X pins σ H { s with toks := t } := I.un (h' := s.heap) (t' := t) Un.refl I.hok
/-- all objects kept -/
theorem Inv.kept {t' : Nat} (I : Inv X pins σ H s) (k : ∀ b u, s.heap.get? b = some u → h'.get? b = some u) : Inv X pins σ H { s with heap := h', toks := t' } := I.un (Un.kept k) (I.hok.kept k)
/-- a new object laid and tracked -/
theorem Inv.laid {a : Addr} {o : HO} {t' : Nat} (I : Inv X pins σ H s) (k : ∀ b u, s.heap.get? b = some u → h'.get? b = some u) (hp : s.heap.objs.size ≤ a) (new : ObjOk X.prog X.w (upd H a o) h' a o) :
    Inv X pins σ (upd H a o) { s with heap := h', toks := t' } := I.un (Un.laid k hp (I.hok.fresh hp)) (I.hok.laid k hp new)
/-- an object written -/
theorem Inv.write {x e : Addr} {o : HO} {t' : Nat} (I : Inv X pins σ H s) (mu : Mut (H x)) (he : e = x ∨ H e = some (.own x)) (k : ∀ b u, b ≠ e → s.heap.get? b = some u → h'.get? b = some u) (heo : ∃ u, h'.get? e = some u)
    (new : ObjOk X.prog X.w (upd H x o) h' x o) : Inv X pins σ (upd H x o) { s with heap := h', toks := t' } := I.un (Un.write mu he k heo) (I.hok.write mu he k heo new)
theorem Inv.pins_of {pins' : List (Addr × Obj)} (I : Inv X pins σ H s) (h : ∀ p ∈ pins', s.heap.get? p.1 = some p.2 ∧ H p.1 = none ∧ p.1 ≠ X.env.locals ∧ p.1 ∉ X.fs ∧ ∀ v, p.2.data ≠ .cell v) : Inv X pins' σ H s :=
  ⟨I.ok, I.os, I.bare, I.base, I.loc, I.cell, I.free, I.freeC, fun p hp => (List.mem_append.mp hp).elim (fun z => I.pin p (List.mem_append_left _ z)) (h p), I.hok, I.len⟩

theorem nodup_ix {N : List Str} (hN : N.Nodup) {i j : Nat} {x : Str} (a : N[i]? = some x) (b : N[j]? = some x) : i = j := by
  obtain ⟨h1, e1⟩ := List.getElem?_eq_some_iff.mp a
  obtain ⟨h2, e2⟩ := List.getElem?_eq_some_iff.mp b
  exact (List.getElem_inj hN).mp (e1.trans e2.symm)

/-- a name is stored; what changed -/
theorem store_ok2 {M : Model} {A : Around} {E : Value → Shared → Prop} {i : Nat} {x : Str} {v : V} {u : Value} {Q : Unit → Shared → Prop} (I : Inv X pins σ H s) (hN : X.N.Nodup) (hi : X.N[i]? = some x) (hx : Loc X.env.scope x) (r : RelV v u)
    (h : ∀ s', Inv X pins (σ.set i (some v)) H s' → (∃ a, Heap.SameBut a s.heap s'.heap ∧ (a = X.env.locals ∨ X.env.cells.lookup x = some a)) → Q () s') (hf : X.fn x = true ∨ X.env.scope.names.lookup x = some .local := by first | exact .inl rfl | exact .inr rfl | assumption) : wpAny M A (storeName X.env x u) Q E s := by
  obtain ⟨m, hn, hl⟩ := id I.loc
  have hcls : (X.env.scope.kind == .class || (X.env.scope.kind == .module && X.env.locals != X.env.globals)) = false := by rw [I.ok.kind]; rfl
  have hiσ : i < σ.length := by rw [I.len]; exact (List.getElem?_eq_some_iff.mp hi).1
  have cne := I.cne
  have tracked : ∀ {a : Addr} {h' : Heap}, (∃ o, s.heap.get? a = some o ∧ H a = none) → Heap.SameBut a s.heap h' → HOk X.prog X.w H h' := fun {a h'} ha hs b ob e => by
    obtain ⟨_, _, hfree⟩ := ha
    refine (I.hok b ob e).stay (fun c w' hc q => (hs.2 c ?_).trans q) (fun _ q => q) fun _ _ q => q
    rintro rfl
    rcases hc with rfl | hc
    · rw [hfree] at e; cases e
    · rw [hfree] at hc; cases hc
  rcases hx with hk | hk
  · refine wpAny_storeName_local hk hn (fun h' hn' hs => ?_) hcls
    obtain ⟨oL, _, _, hoL, _⟩ := id hn
    refine h _ ⟨I.ok, I.os, I.bare, ⟨fun b o e n hb hx => ?_, fun b o e n hb hx => ?_, I.base.free, fun b o e hx => ?_, I.base.tups, I.base.frzs, I.base.tbls⟩, ⟨_, hn', fun j y v' e1 e2 e3 => ?_⟩, fun y c e => ?_, I.free, I.freeC, fun p hp => ?_, tracked ⟨oL, hoL, I.free⟩ hs, by simpa using I.len⟩ ⟨_, hs, .inl rfl⟩
    · exact (hs.2 b (Nat.ne_of_lt (Nat.lt_of_lt_of_le (Heap.lt_size e) I.ok.above))).trans (I.base.keep b o e n hb hx)
    · obtain ⟨sl, e1⟩ := I.base.slot b o e n hb hx
      exact ⟨sl, (hs.2 b (Nat.ne_of_lt (Nat.lt_of_lt_of_le (Heap.lt_size e) I.ok.above))).trans e1⟩
    · obtain ⟨o', e1⟩ := I.base.there b o e hx
      exact ⟨o', (hs.2 b (Nat.ne_of_lt (Nat.lt_of_lt_of_le (Heap.lt_size e) I.ok.above))).trans e1⟩
    · by_cases hj : j = i
      · subst hj
        rw [hi] at e1; cases e1
        rw [List.getElem?_set_self hiσ] at e2
        cases e2
        exact ⟨u, r, .inl ⟨hk, by simp⟩⟩
      · rw [List.getElem?_set_ne (Ne.symm hj)] at e2
        obtain ⟨u', r', q⟩ := hl j y v' e1 e2 e3
        refine ⟨u', r', ?_⟩
        rcases q with ⟨k, e⟩ | ⟨k, c, e, z⟩
        · refine .inl ⟨k, ?_⟩
          have : y ≠ x := fun e => hj (nodup_ix hN e1 (e ▸ hi))
          simp [this, e]
        · exact .inr ⟨k, c, e, z.sameBut hs (cne y c e)⟩
    · obtain ⟨w', z⟩ := I.cell y c e
      exact ⟨w', z.sameBut hs (cne y c e)⟩
    · obtain ⟨e, n, ne, nf, d⟩ := I.pin p hp
      exact ⟨(hs.2 p.1 ne).trans e, n, ne, nf, d⟩
  · have hfn : X.fn x = true := by
      rcases hf with z | z
      · exact z
      · rw [z] at hk; cases hk
    obtain ⟨c, hc⟩ := I.ok.has x (.inl hk)
    obtain ⟨w', z⟩ := I.cell x c hc
    refine wpAny_storeName_cell I.ok.kind hk hc z (fun h' hc' hs => ?_)
    obtain ⟨oc, hoc, hocd⟩ := id z
    refine h { s with heap := h' } ⟨I.ok, I.os, I.bare, ⟨fun b o e n hb hx => ?_, fun b o e n hb hx => ?_, I.base.free, fun b o e hx => ?_, I.base.tups, I.base.frzs, I.base.tbls⟩, ⟨m, hn.sameBut hs (Ne.symm (cne x c hc)), fun j y v' e1 e2 e3 => ?_⟩, fun y c' e => ?_, I.free, I.freeC, fun p hp => ?_, tracked ⟨oc, hoc, I.freeC x c hc⟩ hs, by simpa using I.len⟩ ⟨c, hs, .inr hc⟩
    · exact (hs.2 b (Nat.ne_of_lt (Nat.lt_of_lt_of_le (Heap.lt_size e) (I.ok.cab x c hfn hc)))).trans (I.base.keep b o e n hb hx)
    · obtain ⟨sl, e1⟩ := I.base.slot b o e n hb hx
      exact ⟨sl, (hs.2 b (Nat.ne_of_lt (Nat.lt_of_lt_of_le (Heap.lt_size e) (I.ok.cab x c hfn hc)))).trans e1⟩
    · obtain ⟨o', e1⟩ := I.base.there b o e hx
      exact ⟨o', (hs.2 b (Nat.ne_of_lt (Nat.lt_of_lt_of_le (Heap.lt_size e) (I.ok.cab x c hfn hc)))).trans e1⟩
    · by_cases hj : j = i
      · subst hj
        rw [hi] at e1; cases e1
        rw [List.getElem?_set_self hiσ] at e2
        cases e2
        exact ⟨u, r, .inr ⟨.inl hk, c, hc, hc'⟩⟩
      · rw [List.getElem?_set_ne (Ne.symm hj)] at e2
        obtain ⟨u', r', q⟩ := hl j y v' e1 e2 e3
        refine ⟨u', r', ?_⟩
        rcases q with q | ⟨k, c', e, z'⟩
        · exact .inl q
        · refine .inr ⟨k, c', e, z'.sameBut hs ?_⟩
          rintro rfl
          exact hj (nodup_ix hN e1 (I.ok.inj _ _ _ e hc ▸ hi))
    · by_cases hcc : c' = c
      · subst hcc; exact ⟨_, hc'⟩
      · obtain ⟨w2, z2⟩ := I.cell y c' e
        exact ⟨w2, z2.sameBut hs hcc⟩
    · obtain ⟨e, n, ne, nf, d⟩ := I.pin p hp
      refine ⟨(hs.2 p.1 ?_).trans e, n, ne, nf, d⟩
      intro q
      rw [q, hoc] at e
      have q' : oc = p.2 := Option.some.inj e
      exact d w' (by rw [← q']; exact hocd)
theorem store_ok {M : Model} {A : Around} {E : Value → Shared → Prop} {i : Nat} {x : Str} {v : V} {u : Value} {Q : Unit → Shared → Prop} (I : Inv X pins σ H s) (hN : X.N.Nodup) (hi : X.N[i]? = some x) (hx : Loc X.env.scope x) (r : RelV v u)
    (h : ∀ s', Inv X pins (σ.set i (some v)) H s' → Q () s') (hf : X.fn x = true ∨ X.env.scope.names.lookup x = some .local := by first | exact .inl rfl | exact .inr rfl | assumption) : wpAny M A (storeName X.env x u) Q E s :=
  store_ok2 I hN hi hx r (fun s' I' _ => h s' I') hf
end

/-! ### the judgements -/
/-- an exception: its class, its own dict's address (where it has one), the abstract heap behind it -/
abbrev XK := Value → Option Addr → Hp → Prop
abbrev St := List (Option V)
abbrev VK := V → Hp → Prop
/-- an expression's reading; a test's; an argument list's -/
abbrev TE := St → Hp → VK → Prop
abbrev TT := St → Hp → (Bool → Hp → Prop) → Prop
abbrev TA := St → Hp → (List V → Hp → Prop) → Prop
/-- what is wanted behind a statement -/
structure Ends where
  nx : St → Hp → Prop
  rt : VK
  bk : St → Hp → Prop := fun _ _ => False
  ct : St → Hp → Prop := fun _ _ => False
abbrev TS := Ends → St → Hp → Prop

def EP (X : Cx) (pins : List (Addr × Obj)) (σ : St) (Q : VK) (u : Value) (s' : Shared) : Prop := ∃ v H', Inv X pins σ H' s' ∧ RelV v u ∧ Q v H'
def TP (X : Cx) (pins : List (Addr × Obj)) (σ : St) (Q : Bool → Hp → Prop) (b : Bool) (s' : Shared) : Prop := ∃ H', Inv X pins σ H' s' ∧ Q b H'
def AP (X : Cx) (pins : List (Addr × Obj)) (σ : St) (Q : List V → Hp → Prop) (us : List Value) (s' : Shared) : Prop := ∃ vs H', Inv X pins σ H' s' ∧ Vals vs us ∧ Q vs H'
def SP (X : Cx) (pins : List (Addr × Obj)) (D : Ends) (f : Flow) (s' : Shared) : Prop :=
  match f with
  | .next => ∃ σ' H', Inv X pins σ' H' s' ∧ D.nx σ' H'
  | .brk => ∃ σ' H', Inv X pins σ' H' s' ∧ D.bk σ' H'
  | .cont => ∃ σ' H', Inv X pins σ' H' s' ∧ D.ct σ' H'
  | .ret u => ∃ v σ' H', Inv X pins σ' H' s' ∧ RelV v u ∧ D.rt v H'

def PE (X : Cx) (e : Expr) (t : TE) : Prop :=
  ∀ (pins : List (Addr × Obj)) (s : Shared) (σ : St) (H : Hp) (Q : VK), Inv X pins σ H s → t σ H Q → wpAny (model X.prog X.w) X.A (eval e X.env) (EP X pins σ Q) X.xe s
def PT (X : Cx) (e : Expr) (t : TT) : Prop :=
  ∀ (pins : List (Addr × Obj)) (s : Shared) (σ : St) (H : Hp) (Q : Bool → Hp → Prop), Inv X pins σ H s → t σ H Q → wpAny (model X.prog X.w) X.A (isTrue e X.env (eval e X.env)) (TP X pins σ Q) X.xe s
/-- a test whatever its 'whole' is (and, or) -/
def PW (X : Cx) (e : Expr) (t : TT) : Prop :=
  ∀ (whole : Sem Value) (pins : List (Addr × Obj)) (s : Shared) (σ : St) (H : Hp) (Q : Bool → Hp → Prop), Inv X pins σ H s → t σ H Q → wpAny (model X.prog X.w) X.A (isTrue e X.env whole) (TP X pins σ Q) X.xe s
theorem PW.pt {X : Cx} {e : Expr} {t : TT} (h : PW X e t) : PT X e t := h _
/-- an argument list (no star), from the left -/
def PA (X : Cx) (es : List Expr) (t : TA) : Prop :=
  ∀ (pos : Pos) (pins : List (Addr × Obj)) (s : Shared) (σ : St) (H : Hp) (Q : List V → Hp → Prop), Inv X pins σ H s → t σ H Q → wpAny (model X.prog X.w) X.A (spliced (backTo pos (starEach es X.env))) (AP X pins σ Q) X.xe s
def PS (X : Cx) (st : Stmt) (t : TS) : Prop :=
  ∀ (pins : List (Addr × Obj)) (s : Shared) (σ : St) (H : Hp) (D : Ends), Inv X pins σ H s → t D σ H → wpAny (model X.prog X.w) X.A (exec st X.env) (SP X pins D) X.xe s
def PSs (X : Cx) (st : List Stmt) (t : TS) : Prop :=
  ∀ (pins : List (Addr × Obj)) (s : Shared) (σ : St) (H : Hp) (D : Ends), Inv X pins σ H s → t D σ H → wpAny (model X.prog X.w) X.A (execs st X.env) (SP X pins D) X.xe s
/-- weaken the end -/
theorem thn {α : Type} {t : Sem α} {Q Q' : α → Shared → Prop} {M : Model} {A : Around} {E : Value → Shared → Prop} {s : Shared} (h : wpAny M A t Q E s) (hQ : ∀ a s, Q a s → Q' a s) : wpAny M A t Q' E s := wpAny_mono h hQ fun _ _ x => x
end L2

namespace L2
open PySem PySem.Spec PyProof.Rows
section
variable {X : Cx}

/-! ### names and constants -/
def tVar (i : Nat) : TE := fun σ H Q => ∃ v, σ[i]? = some (some v) ∧ Q v H
def tC (v : V) : TE := fun _ H Q => Q v H
theorem pe_var {i : Nat} {x : Str} {pos : Pos} (hN : X.N[i]? = some x) (hv : Vis X.env.scope x) (hd : (x == ("__debug__" : Str)) = false := by decide) (hcd : (x == ("__classdict__" : Str)) = false := by decide) : PE X (.Name x pos) (tVar i) := by
  intro pins s σ H Q I h
  obtain ⟨v, e, h⟩ := h
  obtain ⟨m, hn, hl⟩ := I.loc
  obtain ⟨u, r, l⟩ := hl i x v hN e hv
  have fin : EP X pins σ Q u s := ⟨v, H, I, r, h⟩
  rcases l with ⟨hk, hm⟩ | ⟨hk, c, hc, hcell⟩
  · exact wpAny_Name (wpAny_loadName_local I.ok.kind hk hn hm fin) hd
  · rcases hk with hk | hk
    · exact wpAny_Name (wpAny_loadName_cell I.ok.kind hk hc hcell fin) hd
    · exact wpAny_Name (wpAny_loadName_free I.ok.kind hk hc hcell fin hcd) hd
theorem pe_int {i j pos} : PE X (.Constant (.int i) j pos) (tC (.int i)) := fun _ _ _ H _ I h => wpAny_Constant_int ⟨.int i, H, I.tok _, ⟨_, rfl⟩, h⟩
theorem pe_bl {b j pos} : PE X (.Constant (.bool b) j pos) (tC (.bl b)) := fun _ _ _ H _ I h => Constant_bool ⟨.bl b, H, I, rfl, h⟩
theorem pe_str {x j pos} : PE X (.Constant (.str x) j pos) (tC (.str x)) := fun _ _ _ H _ I h => Calls.Constant_str ⟨.str x, H, I.tok _, ⟨_, rfl⟩, h⟩

/-- a global name of the def -/
def Gl (X : Cx) (x : Str) : Prop := X.env.kindOf x = some .globalImplicit
theorem ld_glob {E : Value → Shared → Prop} {pins : List (Addr × Obj)} {s : Shared} {σ : St} {H : Hp} {x : Str} {u : Value} {pos : Pos} {Q : Value → Shared → Prop} (I : Inv X pins σ H s) (hg : Gl X x) (hm : X.mg x = some u) (h : Q u s)
    (hd : (x == ("__debug__" : Str)) = false := by decide) : wpAny (model X.prog X.w) X.A (eval (.Name x pos) X.env) Q E s :=
  Calls.Name_function_global I.ok.kind hg (Calls.loadGlobal_global (by rw [I.ok.glob]; exact I.mod.glob.keeps I.bk) hm h) hd
theorem ld_blt {E : Value → Shared → Prop} {pins : List (Addr × Obj)} {s : Shared} {σ : St} {H : Hp} {x : Str} {u : Value} {pos : Pos} {Q : Value → Shared → Prop} (I : Inv X pins σ H s) (hg : Gl X x) (hm : X.mg x = none) (hv : bootBuiltins x = some u) (h : Q u s)
    (hn : x ≠ "__name__" := by decide) (hd : (x == ("__debug__" : Str)) = false := by decide) : wpAny (model X.prog X.w) X.A (eval (.Name x pos) X.env) Q E s := by
  obtain ⟨mb, h1, h2⟩ := I.mod.blt
  exact Calls.Name_function_global I.ok.kind hg (Calls.loadGlobal_builtin (by rw [I.ok.glob]; exact I.mod.glob.keeps I.bk) hm (by rw [I.ok.blt]; exact h1.keeps I.bk) ((h2 x hn).trans hv) h) hd
theorem pe_bltn {x : Str} {v : V} {u : Value} {pos : Pos} (hg : Gl X x) (hm : X.mg x = none) (hv : bootBuiltins x = some u) (r : RelV v u) (hn : x ≠ "__name__" := by decide) (hd : (x == ("__debug__" : Str)) = false := by decide) : PE X (.Name x pos) (tC v) :=
  fun _ _ _ H _ I h => ld_blt I hg hm hv ⟨v, H, I, r, h⟩ hn hd

/-! ### arithmetic -/
variable {a b : Expr} {ta tb : TE} {pos : Pos}
/-! ### comparisons -/
/-- a comparison as a value, as a test -/
def tB (t : TE) : TT := fun σ H Q => t σ H fun x H1 => ∃ c, x = .bl c ∧ Q c H1
/-- an expression whose value is a bool, as a test -/
theorem pt_val {e : Expr} {t : TE} (h : PE X e t) (he : ∀ whole, isTrue e X.env whole = (do let v ← whole; standAt e.pos; holding [v] (truthy v)) := by intro _; rfl) : PT X e (tB t) := by
  intro pins s σ H Q I hw
  refine isTrue_plain (thn (h pins s σ H _ I hw) fun v s1 ⟨x, H1, I1, r1, q1⟩ => ?_) (he _)
  obtain ⟨d, rfl, q⟩ := q1
  cases r1
  exact wpAny_truthy_bool ⟨H1, I1, q⟩

/-! ### and, or, not -/
variable {tA tB' : TT} {rest : List Expr}
def tAnd (t u : TT) : TT := fun σ H Q => t σ H fun c H1 => if c = true then u σ H1 Q else Q false H1
def tOr (t u : TT) : TT := fun σ H Q => t σ H fun c H1 => if c = true then Q true H1 else u σ H1 Q
def tNot (t : TT) : TT := fun σ H Q => t σ H fun c H1 => Q (!c) H1
theorem pw_and1 (ha : PT X a tA) : PW X (.BoolOp .And [a] pos) tA := by
  intro wh pins s σ H Q I h
  refine isTrue_and (thn (ha pins s σ H Q I h) fun c s1 e => ?_)
  cases c with
  | true => exact isTrue_and_nil e
  | false => exact e
theorem pw_or1 (ha : PT X a tA) : PW X (.BoolOp .Or [a] pos) tA := by
  intro wh pins s σ H Q I h
  refine isTrue_or (thn (ha pins s σ H Q I h) fun c s1 e => ?_)
  cases c with
  | false => exact isTrue_or_nil e
  | true => exact e
theorem pw_and (ha : PT X a tA) (hb : PW X (.BoolOp .And (b :: rest) pos) tB') : PW X (.BoolOp .And (a :: b :: rest) pos) (tAnd tA tB') := by
  intro wh pins s σ H Q I h
  refine isTrue_and (thn (ha pins s σ H _ I h) fun c s1 ⟨H1, I1, q1⟩ => ?_)
  cases c with
  | true => exact hb wh pins s1 σ H1 Q I1 q1
  | false => exact ⟨H1, I1, q1⟩
theorem pw_or (ha : PT X a tA) (hb : PW X (.BoolOp .Or (b :: rest) pos) tB') : PW X (.BoolOp .Or (a :: b :: rest) pos) (tOr tA tB') := by
  intro wh pins s σ H Q I h
  refine isTrue_or (thn (ha pins s σ H _ I h) fun c s1 ⟨H1, I1, q1⟩ => ?_)
  cases c with
  | true => exact ⟨H1, I1, q1⟩
  | false => exact hb wh pins s1 σ H1 Q I1 q1
theorem pt_not (ha : PT X a tA) : PT X (.UnaryOp .Not a pos) (tNot tA) := by
  intro pins s σ H Q I h
  exact isTrue_not (ha pins s σ H (fun c H1 => Q (!c) H1) I h)
end
end L2

namespace L2
open PySem PySem.Spec PyProof.Rows

/-! ### a list, a tuple that is read: tracked, frozen, or an object of the module -/
def SqL (K : PySem.W.Frag) (H : Hp) (a : Addr) (xs : List V) : Prop :=
  Rd H a (.lst xs) ∨
    ∃ (o : Obj) (its : Array Value) (n : Nat), K.lookup a = some o ∧ o.cls = .type "list" ∧ o.dict = none ∧ o.data = .seq its n ∧ its.size ≤ sizeLine ∧ Vals xs its.toList
def SqT (K : PySem.W.Frag) (H : Hp) (a : Addr) (xs : List V) : Prop :=
  Rd H a (.tup xs) ∨
    ∃ (o : Obj) (its : Array Value) (n : Nat), K.lookup a = some o ∧ o.cls = .type "tuple" ∧ o.data = .seq its n ∧ its.size ≤ sizeLine ∧ Vals xs its.toList
def absV : Value → Option V
  | .none => some .non
  | .bool b => some (.bl b)
  | .int i _ => some (.int i)
  | .str x _ => some (.str x)
  | .bytes b _ => some (.byt b)
  | .float b _ => some (.flt b)
  | .ref a => some (.ref a)
  | .type n => some (.ty n)
  | _ => none
theorem RelV.abs {x : V} {u : Value} (r : RelV x u) : absV u = some x := by
  cases x with
  | non => cases r; rfl
  | bl _ => cases r; rfl
  | int _ => obtain ⟨t, rfl⟩ := r; rfl
  | str _ => obtain ⟨t, rfl⟩ := r; rfl
  | byt _ => obtain ⟨t, rfl⟩ := r; rfl
  | flt _ => obtain ⟨t, rfl⟩ := r; rfl
  | ref _ => cases r; rfl
  | ty _ => cases r; rfl
theorem RelV.inj {x y : V} {u : Value} (r : RelV x u) (q : RelV y u) : x = y := Option.some.inj (r.abs.symm.trans q.abs)
theorem Vals.inj : ∀ {xs ys : List V} {us : List Value}, Vals xs us → Vals ys us → xs = ys
  | _, _, _, .nil, .nil => rfl
  | _, _, _, .cons r t, .cons r' t' => by rw [r.inj r', Vals.inj t t']
section
variable {X : Cx} {pins : List (Addr × Obj)} {σ : St} {H : Hp} {s : Shared} {a : Addr} {xs ys : List V}
theorem SqL.of {K : PySem.W.Frag} (h : H a = some (.lst xs)) : SqL K H a xs := .inl (.inl h)
theorem SqT.of {K : PySem.W.Frag} (h : H a = some (.tup xs)) : SqT K H a xs := .inl (.inl h)
theorem Inv.list (I : Inv X pins σ H s) (h : SqL X.K H a xs) : ∃ its : List Value, Vals xs its ∧ PlainL s.heap a its.toArray ∧ xs.length ≤ sizeLine := by
  rcases h with h | ⟨o, its, n, hk, hc, hd, hs, hz, r⟩
  · obtain ⟨z, its, n, r, e⟩ := h.ok I.hok
    exact ⟨its, r, ⟨_, n, e, rfl, rfl, rfl⟩, z⟩
  · refine ⟨its.toList, r, ⟨o, n, I.kIn a o hk, hc, hd, by simpa using hs⟩, ?_⟩
    have e := r.length
    simp only [Array.length_toList] at e
    omega
theorem Inv.tuple (I : Inv X pins σ H s) (h : SqT X.K H a xs) : ∃ its : List Value, Vals xs its ∧ IsTup s.heap a its.toArray ∧ xs.length ≤ sizeLine := by
  rcases h with h | ⟨o, its, n, hk, hc, hs, hz, r⟩
  · obtain ⟨z, its, r, p⟩ := h.ok I.hok
    exact ⟨its, r, p, z⟩
  · refine ⟨its.toList, r, ⟨o, I.kIn a o hk, hc, n, by simpa using hs⟩, ?_⟩
    have e := r.length
    simp only [Array.length_toList] at e
    omega
theorem Inv.list_inj (I : Inv X pins σ H s) (h : SqL X.K H a xs) (h' : SqL X.K H a ys) : xs = ys := by
  obtain ⟨its, r, ⟨o, n, e, _, _, d⟩, _⟩ := I.list h
  obtain ⟨its', r', ⟨o', n', e', _, _, d'⟩, _⟩ := I.list h'
  rw [e] at e'; cases e'
  rw [d] at d'
  injection d' with d1 _
  have : its = its' := by simpa using congrArg Array.toList d1
  subst this
  exact r.inj r'
theorem Inv.tuple_inj (I : Inv X pins σ H s) (h : SqT X.K H a xs) (h' : SqT X.K H a ys) : xs = ys := by
  obtain ⟨its, r, ⟨o, e, _, n, d⟩, _⟩ := I.tuple h
  obtain ⟨its', r', ⟨o', e', _, n', d'⟩, _⟩ := I.tuple h'
  rw [e] at e'; cases e'
  rw [d] at d'
  injection d' with d1 _
  have : its = its' := by simpa using congrArg Array.toList d1
  subst this
  exact r.inj r'
end

/-! ### another wish about exceptions -/
abbrev Cx.wish (X : Cx) (E : Value → Shared → Prop) : Cx := { X with xe := E }
/-- no exception leaves -/
abbrev Cx.nox (X : Cx) : Cx := X.wish fun _ _ => False
theorem Cx.Ok.wish {X : Cx} (ok : X.Ok) (E : Value → Shared → Prop) : (X.wish E).Ok :=
  ⟨ok.mod, ok.kind, ok.glob, ok.blt, ok.above, ok.inj, ok.has, ok.cab, ok.hd, ok.frames, ok.stk, ok.exf, ok.bs, ok.bsz, ok.noex, ok.exfs, ok.funs, ok.frf⟩
theorem Cx.Ok.unwish {X : Cx} {E : Value → Shared → Prop} (ok : (X.wish E).Ok) : X.Ok :=
  ⟨ok.mod, ok.kind, ok.glob, ok.blt, ok.above, ok.inj, ok.has, ok.cab, ok.hd, ok.frames, ok.stk, ok.exf, ok.bs, ok.bsz, ok.noex, ok.exfs, ok.funs, ok.frf⟩
section
variable {X : Cx} {pins : List (Addr × Obj)} {σ : St} {H : Hp} {s : Shared} {E : Value → Shared → Prop}
theorem Inv.wish (I : Inv X pins σ H s) (E : Value → Shared → Prop) : Inv (X.wish E) pins σ H s := ⟨I.ok.wish E, I.os, I.bare, I.base, I.loc, I.cell, I.free, I.freeC, I.pin, I.hok, I.len⟩
theorem Inv.unwish (I : Inv (X.wish E) pins σ H s) : Inv X pins σ H s := ⟨I.ok.unwish, I.os, I.bare, I.base, I.loc, I.cell, I.free, I.freeC, I.pin, I.hok, I.len⟩
theorem SP.unwish {D : Ends} {f : Flow} {s' : Shared} (h : SP (X.wish E) pins D f s') : SP X pins D f s' := by
  cases f with
  | next => obtain ⟨σ', H', I, q⟩ := h; exact ⟨σ', H', I.unwish, q⟩
  | brk => obtain ⟨σ', H', I, q⟩ := h; exact ⟨σ', H', I.unwish, q⟩
  | cont => obtain ⟨σ', H', I, q⟩ := h; exact ⟨σ', H', I.unwish, q⟩
  | ret u => obtain ⟨v, σ', H', I, r, q⟩ := h; exact ⟨v, σ', H', I.unwish, r, q⟩
theorem PE.nox {e : Expr} {t : TE} (h : PE X.nox e t) : PE X e t := fun pins s σ H Q I hw =>
  wpAny_mono (h pins s σ H Q (I.wish _) hw) (fun _ _ ⟨v, H', I', r, q⟩ => ⟨v, H', I'.unwish, r, q⟩) fun _ _ z => False.elim z
theorem PT.nox {e : Expr} {t : TT} (h : PT X.nox e t) : PT X e t := fun pins s σ H Q I hw =>
  wpAny_mono (h pins s σ H Q (I.wish _) hw) (fun _ _ ⟨H', I', q⟩ => ⟨H', I'.unwish, q⟩) fun _ _ z => False.elim z
theorem PSs.nox {st : List Stmt} {t : TS} (h : PSs X.nox st t) : PSs X st t := fun pins s σ H D I hw =>
  wpAny_mono (h pins s σ H D (I.wish _) hw) (fun _ _ q => q.unwish) fun _ _ z => False.elim z
end

/-! ### blocks and small statements -/
section
variable {X : Cx} {st : Stmt} {rest : List Stmt} {t u : TS} {e : Expr} {te : TE} {pos : Pos}
def tNext : TS := fun D σ H => D.nx σ H
def tSeq (t u : TS) : TS := fun D σ H => t { D with nx := u D } σ H
theorem pss_nil : PSs X [] tNext := fun _ _ σ H _ I h => wpAny_execs_nil ⟨σ, H, I, h⟩
theorem pss_cons (h1 : PS X st t) (h2 : PSs X rest u) : PSs X (st :: rest) (tSeq t u) := by
  intro pins s σ H D I h
  refine wpAny_execs_cons (thn (h1 pins s σ H { D with nx := u D } I h) fun f s1 q => ?_)
  cases f with
  | next =>
    obtain ⟨σ', H', I', q⟩ := q
    exact h2 pins s1 σ' H' D I' q
  | ret v => exact q
  | brk => exact q
  | cont => exact q
theorem pss_one (h1 : PS X st t) : PSs X [st] t := by
  intro pins s σ H D I h
  refine wpAny_execs_cons (thn (h1 pins s σ H D I h) fun f s1 q => ?_)
  cases f with
  | next => exact wpAny_execs_nil q
  | ret v => exact q
  | brk => exact q
  | cont => exact q
/-- in a def's body nothing is shown -/
theorem Inv.quiet {pins : List (Addr × Obj)} {σ : St} {H : Hp} {s : Shared} (I : Inv X pins σ H s) : interactive X.env = false := by simp [interactive, I.ok.kind]
/-- an expression whose value is dropped -/
def tDrop (te : TE) : TS := fun D σ H => te σ H fun _ H1 => D.nx σ H1
theorem ps_expr (he : PE X e te) (hs : swapsWith e none pos.line X.env = pure false := by rfl) : PS X (.Expr e pos) (tDrop te) := by
  intro pins s σ H D I h
  exact wpAny_Expr_any (thn (he pins s σ H _ I h) fun v s1 ⟨x, H1, I1, r1, q1⟩ => ⟨σ, H1, I1, q1⟩) I.quiet hs
def tRet (te : TE) : TS := fun D σ H => te σ H D.rt
theorem ps_ret (he : PE X e te) : PS X (.Return (some e) pos) (tRet te) := by
  intro pins s σ H D I h
  exact wpAny_Return_some (thn (he pins s σ H _ I h) fun v s1 ⟨x, H1, I1, r1, q1⟩ => ⟨x, σ, H1, I1, r1, q1⟩)
def tIfS (c : TT) (t u : TS) : TS := fun D σ H => c σ H fun b H1 => if b = true then t D σ H1 else u D σ H1
theorem ps_if {c : Expr} {a b : List Stmt} {tc : TT} (hc : PT X c tc) (ha : PSs X a t) (hb : PSs X b u) : PS X (.If c a b pos) (tIfS tc t u) := by
  intro pins s σ H D I h
  refine wpAny_If (thn (hc pins s σ H _ I h) fun d s1 ⟨H1, I1, q1⟩ => ?_)
  cases d with
  | true => exact ha pins s1 σ H1 D I1 q1
  | false => exact hb pins s1 σ H1 D I1 q1
end

/-! ### targets -/
abbrev TG := V → St → Hp → (St → Hp → Prop) → Prop
abbrev TGs := List V → St → Hp → (St → Hp → Prop) → Prop
def PG (X : Cx) (target : Expr) (t : TG) : Prop :=
  ∀ (pins : List (Addr × Obj)) (s : Shared) (σ : St) (H : Hp) (v : V) (u : Value) (Q : St → Hp → Prop), Inv X pins σ H s → RelV v u → t v σ H Q →
    wpAny (model X.prog X.w) X.A (assign target X.env u) (fun _ s' => ∃ σ' H', Inv X pins σ' H' s' ∧ Q σ' H') X.xe s
/-- several targets, one after another -/
def PGs (X : Cx) (ts : List Expr) (t : TGs) : Prop :=
  ∀ (pins : List (Addr × Obj)) (s : Shared) (σ : St) (H : Hp) (vs : List V) (us : List Value) (Q : St → Hp → Prop), Inv X pins σ H s → Vals vs us → t vs σ H Q →
    wpAny (model X.prog X.w) X.A (assignInOrder ((assignEach ts X.env).map (·.2)) us) (fun _ s' => ∃ σ' H', Inv X pins σ' H' s' ∧ Q σ' H') X.xe s
section
variable {X : Cx} {pos : Pos}
def gName (i : Nat) : TG := fun v σ H Q => Q (σ.set i (some v)) H
theorem pg_name {i : Nat} {x : Str} (hN : X.N.Nodup) (hi : X.N[i]? = some x) (hx : Loc X.env.scope x) (hf : X.fn x = true ∨ X.env.scope.names.lookup x = some .local := by first | exact .inl rfl | exact .inr rfl | assumption) : PG X (.Name x pos) (gName i) := by
  intro pins s σ H v u Q I r h
  exact wpAny_assign_Name (store_ok I hN hi hx r (fun s' I' => ⟨_, H, I', h⟩) hf)
def gNil : TGs := fun vs σ H Q => vs = [] ∧ Q σ H
def gCons (t : TG) (u : TGs) : TGs := fun vs σ H Q => ∃ v r, vs = v :: r ∧ t v σ H fun σ' H' => u r σ' H' Q
theorem pgs_nil : PGs X [] gNil := by
  intro pins s σ H vs us Q I r h
  obtain ⟨e, h⟩ := h
  subst e
  cases r
  exact assignInOrder_nil ⟨σ, H, I, h⟩
theorem pgs_cons {e : Expr} {es : List Expr} {t : TG} {u : TGs} (h1 : PG X e t) (h2 : PGs X es u)
    (hs : (assignEach (e :: es) X.env).map (·.2) = assign e X.env :: (assignEach es X.env).map (·.2) := by rfl) : PGs X (e :: es) (gCons t u) := by
  intro pins s σ H vs us Q I r h
  obtain ⟨v, vr, e1, h⟩ := h
  subst e1
  cases r with
  | cons r rr =>
    rw [hs]
    refine assignInOrder_cons (thn (h1 pins s σ H _ _ _ I r h) fun _ s1 ⟨σ1, H1, I1, q1⟩ => ?_)
    exact h2 pins s1 σ1 H1 _ _ Q I1 rr q1
/-- (a, b, ..) = a tuple of that length -/
def gTup (K : PySem.W.Frag) (n : Nat) (t : TGs) : TG := fun v σ H Q => ∃ a xs, v = .ref a ∧ SqT K H a xs ∧ xs.length = n ∧ t xs σ H Q
theorem pg_tup {es : List Expr} {k : Nat} {t : TGs} {n : Nat} (hc : X.calm = true) (h : PGs X es t)
    (hn : (assignEach es X.env).length = n := by rfl) (hst : (assignEach es X.env).findIdx? (·.1) = none := by rfl) : PG X (.Tuple es k pos) (gTup X.K n t) := by
  intro pins s σ H v u Q I r hw
  obtain ⟨a, xs, e1, hq, hl, hw⟩ := hw
  subst e1
  cases r
  obtain ⟨its, rv, ht, hz⟩ := I.tuple hq
  refine assign_Tuple_tuple (I.ok.hd hc) ht (by simp [hn, ← hl, rv.length]) hst fun h' hx => ?_
  have I1 : Inv X pins σ H { s with heap := h' } := I.kept (t' := s.toks) fun b o e => hx b o (Nat.ne_of_lt (Heap.lt_size e)) e
  exact h pins _ σ H xs _ Q I1 (by simpa using rv) hw
/-- target = value -/
def tAsg (te : TE) (g : TG) : TS := fun D σ H => te σ H fun x H1 => g x σ H1 D.nx
/-- name = value -/
theorem ps_set {i : Nat} {x : Str} {e : Expr} {te : TE} {pos' : Pos} (hN : X.N.Nodup) (hi : X.N[i]? = some x) (hx : Loc X.env.scope x) (he : PE X e te) (hs : swapsWith e (some (.Name x pos')) pos.line X.env = pure false := by rfl) (hf : X.fn x = true ∨ X.env.scope.names.lookup x = some .local := by first | exact .inl rfl | exact .inr rfl | assumption) :
    PS X (.Assign [.Name x pos'] e pos) (tAsg te (gName i)) := by
  intro pins s σ H D I h
  refine wpAny_Assign_Name (thn (he pins s σ H _ I h) fun v s1 ⟨y, H1, I1, r1, q1⟩ => ?_) hs
  exact store_ok I1 hN hi hx r1 (fun s2 I2 => ⟨_, H1, I2, q1⟩) hf
end

/-! ### while -/
section
variable {X : Cx} {pos : Pos}
end

/-! ### what a loop or a comprehension walks -/
/-- at turn i: it yields x (the heap may grow), or it stops -/
structure It where
  go : Nat → Hp → Prop
  yld : Nat → Hp → V → Hp → Prop
  stop : Nat → Hp → Prop
/-- the iterator's own objects may turn: they are not the frame's, not pinned, younger than the entry (or a comprehension's own) -/
def FpOk (X : Cx) (pins : List (Addr × Obj)) (H : Hp) (b : Addr) : Prop :=
  H b = none ∧ b ≠ X.env.locals ∧ b ∉ X.fs ∧ (b ∈ X.ex ∨ X.s₀.heap.objs.size ≤ b) ∧ (∀ x c, X.env.cells.lookup x = some c → c ≠ b) ∧ ∀ p ∈ X.pn ++ pins, p.1 ≠ b
theorem Inv.fpOk {X : Cx} {pins : List (Addr × Obj)} {σ : St} {H H' : Hp} {s : Shared} {b : Addr} (I : Inv X pins σ H s) (hb : s.heap.objs.size ≤ b) (hn : H' b = none) : FpOk X pins H' b := by
  refine ⟨hn, Nat.ne_of_gt (Nat.lt_of_lt_of_le I.lt hb), I.nofs hb, .inr (Nat.le_trans I.sz hb), fun x c e z => ?_, fun p hp z => ?_⟩
  · obtain ⟨v, q⟩ := I.cell x c e
    exact absurd (Nat.lt_of_lt_of_le q.lt (by rw [z]; exact hb)) (Nat.lt_irrefl _)
  · exact absurd (Nat.lt_of_lt_of_le (Heap.lt_size (I.pin p hp).1) (by rw [z]; exact hb)) (Nat.lt_irrefl _)
structure Turn (P : Program) (w : World) (K : PySem.W.Frag) (tg : Expr) (J : It) (fp : List Addr) (it : Addr) (tn : Nat → Heap → Prop) : Prop where
  mem : it ∈ fp
  obj : ∀ i h, tn i h → ∀ b ∈ fp, ∃ o, h.get? b = some o ∧ ∀ v, o.data ≠ .cell v
  keep : ∀ i h h', tn i h → (∀ b ∈ fp, ∀ o, h.get? b = some o → h'.get? b = some o) → tn i h'
  item : ∀ (X : Cx), X.prog = P → X.w = w → X.K = K → X.calm = true → ∀ (i : Nat) (pins : List (Addr × Obj)) (s : Shared) (σ : St) (H : Hp) (E : Value → Shared → Prop), Inv X pins σ H s → (∀ b ∈ fp, FpOk X pins H b) → tn i s.heap → J.go i H →
    wpAny (model P w) X.A (pyNext (.ref it)) (fun r s1 => ∃ u, r = some u ∧
      wpAny (model P w) X.A (letOwnedTupleGo tg (.ref it) u) (fun _ s2 => ∃ x H', Inv X pins σ H' s2 ∧ RelV x u ∧ J.yld i H x H' ∧ tn (i + 1) s2.heap ∧ ∀ b ∈ fp, H' b = none) E s1) E s
  done : ∀ (X : Cx), X.prog = P → X.w = w → X.K = K → X.calm = true → ∀ (i : Nat) (pins : List (Addr × Obj)) (s : Shared) (σ : St) (H : Hp) (E : Value → Shared → Prop), Inv X pins σ H s → (∀ b ∈ fp, FpOk X pins H b) → tn i s.heap → J.stop i H →
    wpAny (model P w) X.A (pyNext (.ref it)) (fun r s1 => r = none ∧ Inv X pins σ H s1) E s
  self : ∀ (A : Around) (i : Nat) (s : Shared) (Q : Value → Shared → Prop) (E : Value → Shared → Prop), tn i s.heap → Q (.ref it) s → wpAny (model P w) A (pyIter (.ref it)) Q E s
abbrev TI := St → Hp → (It → Hp → Prop) → Prop
/-- an iterator has come -/
def PIE (X : Cx) (pins : List (Addr × Obj)) (σ : St) (tg : Expr) (R : It → Hp → Prop) (itv : Value) (s2 : Shared) : Prop :=
  ∃ (it : Addr) (fp : List Addr) (tn : Nat → Heap → Prop) (J : It) (H' : Hp), itv = .ref it ∧ Inv X pins σ H' s2 ∧ Turn X.prog X.w X.K tg J fp it tn ∧ tn 0 s2.heap ∧ (∀ b ∈ fp, FpOk X pins H' b) ∧ R J H'
def PI (X : Cx) (tg iter : Expr) (wi : TI) : Prop :=
  ∀ (pins : List (Addr × Obj)) (s : Shared) (σ : St) (H : Hp) (R : It → Hp → Prop), Inv X pins σ H s → wi σ H R →
    wpAny (model X.prog X.w) X.A (eval iter X.env) (fun v s1 => wpAny (model X.prog X.w) X.A (pyIter v) (PIE X pins σ tg R) X.xe s1) X.xe s

/-- the step ahead of the store is nothing for an iterator that keeps no tuple -/
theorem go_of {M : Model} {A : Around} {E : Value → Shared → Prop} {s : Shared} {tg : Expr} {it : Addr} {u : Value} {o : Obj} {n : String} {vs : Array Value} {Q : Unit → Shared → Prop} (ho : s.heap.get? it = some o) (hc : o.cls = .type n) (hd : o.data = .fields vs)
    (hn : ["enumerate", "zip", "dict_itemiterator", "dict_reverseitemiterator", "odict_iterator", "itertools.zip_longest", "itertools.pairwise"].contains n = false) (hQ : Q () s) : wpAny M A (letOwnedTupleGo tg (.ref it) u) Q E s := by
  unfold letOwnedTupleGo
  cases tg <;> first
    | exact wpAny_pure hQ
    | (cases u <;> first
        | exact wpAny_pure hQ
        | (refine wpAny_bind (wpAny_load ho ?_)
           rw [hc, hd]
           show wpAny M A (if (["enumerate", "zip", "dict_itemiterator", "dict_reverseitemiterator", "odict_iterator", "itertools.zip_longest", "itertools.pairwise"].contains n && vs[0]? == some (rawInt _)) = true then _ else _) Q E s
           rw [if_neg (by intro h; rw [hn, Bool.false_and] at h; cases h)]
           exact wpAny_pure hQ))

/-- the list at a, as it stands at each turn (a loop may append to it) -/
def Itl (K : PySem.W.Frag) (a : Addr) : It :=
  ⟨fun i H => ∃ xs x, SqL K H a xs ∧ xs[i]? = some x, fun i H x H' => H' = H ∧ ∀ xs, SqL K H a xs → xs[i]? = some x, fun i H => ∃ xs, SqL K H a xs ∧ xs.length ≤ i⟩
def Itt (K : PySem.W.Frag) (a : Addr) : It :=
  ⟨fun i H => ∃ xs x, SqT K H a xs ∧ xs[i]? = some x, fun i H x H' => H' = H ∧ ∀ xs, SqT K H a xs → xs[i]? = some x, fun i H => ∃ xs, SqT K H a xs ∧ xs.length ≤ i⟩
/-- lo, lo + 1, .. (n of them) -/
def Itr (lo : Int) (n : Nat) : It := ⟨fun i _ => i < n, fun i H x H' => H' = H ∧ x = .int (lo + i), fun i _ => n ≤ i⟩
theorem turn_list {P : Program} {w : World} {K : PySem.W.Frag} {tg : Expr} (a it : Addr) : Turn P w K tg (Itl K a) [it] it (fun i h => h.IsListIter it a i) where
  mem := by simp
  obj := fun i h st b hb => by
    have e : b = it := by simpa using hb
    subst e
    obtain ⟨o, e, c, d⟩ := st
    exact ⟨o, e, fun v z => by rw [d] at z; cases z⟩
  keep := fun i h h' st k => st.at fun o e => k it (by simp) o e
  item := by
    intro X hP hw hK hc i pins s σ H E I hf st hg
    subst hP hw hK
    obtain ⟨xs, x, hq, hx⟩ := hg
    obtain ⟨its, rv, p, hz⟩ := I.list hq
    obtain ⟨u, hu, ru⟩ := rv.get hx
    obtain ⟨f0, f1, f2, f3, f4, f5⟩ := hf it (by simp)
    refine wpAny_pyNext_list_item st p.isList (x := u) (by simpa using hu) fun h' st' sb => ?_
    have I1 : Inv X pins σ H { s with heap := h' } := I.turned (t' := s.toks) (fun b o hb e => (sb.2 b hb).trans e) f0 f1 f3 f4 f5
    obtain ⟨o, e, c, d⟩ := id st'
    exact ⟨u, rfl, go_of (s := { s with heap := h' }) e c d (by decide) ⟨x, H, I1, ru, ⟨rfl, fun ys hy => by rw [I.list_inj hy hq]; exact hx⟩, st', fun b hb => (hf b hb).1⟩⟩
  done := by
    intro X hP hw hK hc i pins s σ H E I hf st hg
    subst hP hw hK
    obtain ⟨xs, hq, hx⟩ := hg
    obtain ⟨its, rv, p, hz⟩ := I.list hq
    obtain ⟨f0, f1, f2, f3, f4, f5⟩ := hf it (by simp)
    have hl := rv.length
    exact wpAny_pyNext_list_end (I.ok.hd hc) st p.isList (by simp; omega) fun h' eb => ⟨rfl, I.turned (t' := s.toks) (fun b o hb e => eb b o hb e) f0 f1 f3 f4 f5⟩
  self := fun _ _ _ _ _ st h => wpAny_pyIter_listiter st h
theorem turn_tuple {P : Program} {w : World} {K : PySem.W.Frag} {tg : Expr} (a it : Addr) : Turn P w K tg (Itt K a) [it] it (fun i h => h.IsTupleIter it a i) where
  mem := by simp
  obj := fun i h st b hb => by
    have e : b = it := by simpa using hb
    subst e
    obtain ⟨o, e, c, d⟩ := st
    exact ⟨o, e, fun v z => by rw [d] at z; cases z⟩
  keep := fun i h h' st k => st.at fun o e => k it (by simp) o e
  item := by
    intro X hP hw hK hc i pins s σ H E I hf st hg
    subst hP hw hK
    obtain ⟨xs, x, hq, hx⟩ := hg
    obtain ⟨its, rv, p, hz⟩ := I.tuple hq
    obtain ⟨u, hu, ru⟩ := rv.get hx
    obtain ⟨f0, f1, f2, f3, f4, f5⟩ := hf it (by simp)
    refine wpAny_pyNext_tuple_item st (show s.heap.IsTuple a its.toArray from p) (x := u) (by simpa using hu) fun h' st' sb => ?_
    have I1 : Inv X pins σ H { s with heap := h' } := I.turned (t' := s.toks) (fun b o hb e => (sb.2 b hb).trans e) f0 f1 f3 f4 f5
    obtain ⟨o, e, c, d⟩ := id st'
    exact ⟨u, rfl, go_of (s := { s with heap := h' }) e c d (by decide) ⟨x, H, I1, ru, ⟨rfl, fun ys hy => by rw [I.tuple_inj hy hq]; exact hx⟩, st', fun b hb => (hf b hb).1⟩⟩
  done := by
    intro X hP hw hK hc i pins s σ H E I hf st hg
    subst hP hw hK
    obtain ⟨xs, hq, hx⟩ := hg
    obtain ⟨its, rv, p, hz⟩ := I.tuple hq
    obtain ⟨f0, f1, f2, f3, f4, f5⟩ := hf it (by simp)
    have hl := rv.length
    exact wpAny_pyNext_tuple_end (I.ok.hd hc) st (show s.heap.IsTuple a its.toArray from p) (by simp; omega) fun h' eb => ⟨rfl, I.turned (t' := s.toks) (fun b o hb e => eb b o hb e) f0 f1 f3 f4 f5⟩
  self := fun _ _ _ _ _ st h => wpAny_pyIter_tupleiter st h
theorem turn_range {P : Program} {w : World} {K : PySem.W.Frag} {tg : Expr} (it : Addr) (lo : Int) (n : Nat) : Turn P w K tg (Itr lo n) [it] it (fun i h => IsRangeIter h it (lo + (i : Nat) * 1) ((n : Int) - (i : Nat)) 1) where
  mem := by simp
  obj := fun i h st b hb => by
    have e : b = it := by simpa using hb
    subst e
    exact ⟨_, st, fun v z => by
      have z' : Data.fields _ = Data.cell v := z
      cases z'⟩
  keep := fun i h h' st k => k it (by simp) _ st
  item := by
    intro X hP hw hK hc i pins s σ H E I hf st hg
    subst hP hw hK
    obtain ⟨f0, f1, f2, f3, f4, f5⟩ := hf it (by simp)
    have W := Walks.range (prog := X.prog) (w := X.w) (I.ok.hd hc) it lo 1 n
    refine W.item i s _ _ hg st fun v h' tk hv st' kk => ?_
    obtain ⟨t, rfl⟩ := hv
    have I1 : Inv X pins σ H { s with heap := h', toks := tk } := I.turned (fun b o hb e => kk b o (by simpa using hb) e) f0 f1 f3 f4 f5
    refine ⟨_, rfl, go_of (s := { s with heap := h', toks := tk }) (n := "range_iterator") st' rfl rfl (by decide) ⟨.int (lo + i), H, I1, ⟨t, ?_⟩, ⟨rfl, rfl⟩, st', fun b hb => (hf b hb).1⟩⟩
    rw [Int.mul_one]
  done := by
    intro X hP hw hK hc i pins s σ H E I hf st hg
    subst hP hw hK
    obtain ⟨f0, f1, f2, f3, f4, f5⟩ := hf it (by simp)
    exact wpAny_pyNext_range_end (I.ok.hd hc) st (by have : n ≤ i := hg; omega) fun h' eb => ⟨rfl, I.turned (t' := s.toks) (fun b o hb e => eb b o hb e) f0 f1 f3 f4 f5⟩
  self := fun _ _ _ _ _ st h => wpAny_pyIter_rangeiter st h
end L2

namespace L2
open PySem PySem.Spec PyProof.Rows
section
variable {X : Cx} {tg : Expr}
def iList (K : PySem.W.Frag) (tl : TE) : TI := fun σ H R => tl σ H fun x H1 => ∃ a, x = .ref a ∧ (∃ xs, SqL K H1 a xs) ∧ R (Itl K a) H1
def iTup (K : PySem.W.Frag) (tl : TE) : TI := fun σ H R => tl σ H fun x H1 => ∃ a, x = .ref a ∧ (∃ xs, SqT K H1 a xs) ∧ R (Itt K a) H1
theorem pi_list {l : Expr} {tl : TE} (hl : PE X l tl) : PI X tg l (iList X.K tl) := by
  intro pins s σ H R I h
  refine thn (hl pins s σ H _ I h) fun v s1 ⟨x, H1, I1, r1, q1⟩ => ?_
  obtain ⟨a, e, ⟨xs, hq⟩, q⟩ := q1
  subst e
  cases r1
  obtain ⟨its, rv, p, hz⟩ := I1.list hq
  refine wpAny_pyIter_list p.isList ?_
  refine ⟨s1.heap.objs.size, [s1.heap.objs.size], _, _, H1, rfl, I1.kept (t' := s1.toks) fun b o e => Heap.get?_push_of_some _ e, turn_list a _, ⟨_, Heap.get?_push_size _ rfl, rfl, rfl⟩, fun b hb => ?_, q⟩
  have e : b = s1.heap.objs.size := by simpa using hb
  subst e
  exact I1.fpOk (Nat.le_refl _) (I1.hok.fresh (Nat.le_refl _))
theorem pi_tup {l : Expr} {tl : TE} (hl : PE X l tl) : PI X tg l (iTup X.K tl) := by
  intro pins s σ H R I h
  refine thn (hl pins s σ H _ I h) fun v s1 ⟨x, H1, I1, r1, q1⟩ => ?_
  obtain ⟨a, e, ⟨xs, hq⟩, q⟩ := q1
  subst e
  cases r1
  obtain ⟨its, rv, p, hz⟩ := I1.tuple hq
  refine wpAny_pyIter_tuple (show s1.heap.IsTuple a its.toArray from p) ?_
  refine ⟨s1.heap.objs.size, [s1.heap.objs.size], _, _, H1, rfl, I1.kept (t' := s1.toks) fun b o e => Heap.get?_push_of_some _ e, turn_tuple a _, ⟨_, Heap.get?_push_size _ rfl, rfl, rfl⟩, fun b hb => ?_, q⟩
  have e : b = s1.heap.objs.size := by simpa using hb
  subst e
  exact I1.fpOk (Nat.le_refl _) (I1.hok.fresh (Nat.le_refl _))
/-- a range object just made, walked -/
theorem range_it {pins : List (Addr × Obj)} {σ : St} {H : Hp} {s : Shared} {R : It → Hp → Prop} {E : Value → Shared → Prop} {lo hi : Int} {t u v : Tok} {tk : Nat} (I : Inv X pins σ H s) (h1 : -(2 ^ 62) ≤ lo) (h2 : lo < 2 ^ 62) (h3 : -(2 ^ 62) ≤ hi) (h4 : hi < 2 ^ 62)
    (q : R (Itr lo (hi - lo).toNat) H) : wpAny (model X.prog X.w) X.A (pyIter (.ref s.heap.objs.size)) (PIE X pins σ tg R) E { s with heap := s.heap.push { cls := .type "range", data := .fields #[.int lo t, .int hi u, .int 1 v] }, toks := tk } := by
  refine wpAny_pyIter_range (IsRange.new ..) (small_one h1 h2 h3 h4) ?_
  have I1 : Inv X pins σ H { s with heap := s.heap.push { cls := .type "range", data := .fields #[.int lo t, .int hi u, .int 1 v] }, toks := tk } := I.kept fun b o e => Heap.get?_push_of_some _ e
  refine ⟨(s.heap.push { cls := .type "range", data := .fields #[.int lo t, .int hi u, .int 1 v] }).objs.size, [(s.heap.push { cls := .type "range", data := .fields #[.int lo t, .int hi u, .int 1 v] }).objs.size], _, _, H, rfl,
    I1.kept (t' := tk) fun b o e => Heap.get?_push_of_some _ e, turn_range _ lo (hi - lo).toNat, ?_, fun b hb => ?_, q⟩
  · have e1 : lo + ((0 : Nat) : Int) * 1 = lo := by simp
    have e2 : (((hi - lo).toNat : Nat) : Int) - ((0 : Nat) : Int) = Builtin.Range.rangeSize lo hi 1 := by rw [rangeSize_one]; split <;> omega
    show IsRangeIter _ _ (lo + ((0 : Nat) : Int) * 1) ((((hi - lo).toNat : Nat) : Int) - ((0 : Nat) : Int)) 1
    rw [e1, e2]
    exact Heap.get?_push_size _ rfl
  · have e : b = (s.heap.push { cls := .type "range", data := .fields #[.int lo t, .int hi u, .int 1 v] }).objs.size := by simpa using hb
    subst e
    exact I1.fpOk (Nat.le_refl _) (I1.hok.fresh (Nat.le_refl _))
def iRng1 (ta : TA) : TI := fun σ H R => ta σ H fun vs H1 => ∃ j : Int, vs = [.int j] ∧ -(2 ^ 62) ≤ j ∧ j < 2 ^ 62 ∧ R (Itr 0 j.toNat) H1
theorem pi_range1 {a : Expr} {ta : TA} {p pos : Pos} (hg : Gl X "range") (hm : X.mg "range" = none) (ha : PA X [a] ta) (hs : starEach [a] X.env = [(false, eval a X.env)] := by rfl) : PI X tg (.Call (.Name "range" p) [a] [] pos) (iRng1 ta) := by
  intro pins s σ H R I h
  refine Call_ (ld_blt I hg hm boot_range (PyProof.Rows.callWith_type1 (thn (ha pos pins s σ H _ I h) fun us s1 ⟨vs, H1, I1, r1, q1⟩ => ?_) hs rfl))
  obtain ⟨j, e, q1, q2, q⟩ := q1
  subst e
  cases r1 with
  | cons r rr =>
    cases rr
    obtain ⟨t, rfl⟩ := r
    exact call_range_1 (range_it I1 (by omega) (by omega) q1 q2 (by simpa using q))
/-! ### for -/
/-- W: the invariant by the turn and a measure; N: what the body is to reach -/
def tFor (wi : TI) (g : TG) (tb : TS) : TS := fun D σ H => wi σ H fun J H1 => ∃ W : Nat → Nat → St → Hp → Prop, (∃ m, W 0 m σ H1) ∧ ∀ i m σ H, W i m σ H →
  (J.stop i H ∧ D.nx σ H) ∨ (J.go i H ∧ ∃ N : St → Hp → Prop, (∀ σ' H', N σ' H' → ∃ m', m' < m ∧ W (i + 1) m' σ' H') ∧ ∀ x H', J.yld i H x H' → g x σ H' fun σ2 H2 => tb { D with nx := N, ct := N, bk := D.nx } σ2 H2)
/-- the records at fp as they stand -/
def pinsAt (fp : List Addr) (h : Heap) : List (Addr × Obj) := fp.filterMap fun b => (h.get? b).map fun o => (b, o)
theorem mem_pinsAt {fp : List Addr} {h : Heap} {b : Addr} {o : Obj} (hb : b ∈ fp) (e : h.get? b = some o) : (b, o) ∈ pinsAt fp h := List.mem_filterMap.mpr ⟨b, hb, by rw [e]; rfl⟩
theorem of_pinsAt {fp : List Addr} {h : Heap} {p : Addr × Obj} (hp : p ∈ pinsAt fp h) : p.1 ∈ fp ∧ h.get? p.1 = some p.2 := by
  obtain ⟨b, hb, e⟩ := List.mem_filterMap.mp hp
  cases q : h.get? b with
  | none => rw [q] at e; cases e
  | some o =>
    rw [q] at e
    have e' : (b, o) = p := Option.some.inj e
    subst e'
    exact ⟨hb, q⟩
theorem Inv.pinned {pins : List (Addr × Obj)} {σ : St} {H : Hp} {s : Shared} {fp : List Addr} (I : Inv X pins σ H s) (hf : ∀ b ∈ fp, FpOk X pins H b) (ho : ∀ b ∈ fp, ∃ o, s.heap.get? b = some o ∧ ∀ v, o.data ≠ .cell v) : Inv X (pins ++ pinsAt fp s.heap) σ H s :=
  I.pins_of fun p hp => (List.mem_append.mp hp).elim (fun z => I.pin p (List.mem_append_right _ z)) fun z => by
    obtain ⟨hb, e⟩ := of_pinsAt z
    obtain ⟨f0, f1, f2, _⟩ := hf p.1 hb
    obtain ⟨o, e', d⟩ := ho p.1 hb
    rw [e] at e'; cases e'
    exact ⟨e, f0, f1, f2, d⟩
theorem Inv.unpinned {pins pl : List (Addr × Obj)} {σ : St} {H : Hp} {s : Shared} (I : Inv X (pins ++ pl) σ H s) : Inv X pins σ H s := I.pins_of fun p hp => I.pin p (List.mem_append_right _ (List.mem_append_left _ hp))
theorem ps_for {iter : Expr} {body : List Stmt} {wi : TI} {g : TG} {tb : TS} {pos : Pos} (hp : PassesOwn (model X.prog X.w) X.A X.env X.xe) (hc : X.calm = true) (hi : PI X tg iter wi) (hg : PG X tg g) (hb : PSs X body tb)
    (hs : ∀ x, foldedSetIterable iter X.env x = pure x := by intro _; rfl) : PS X (.For tg iter body [] pos) (tFor wi g tb) := by
  intro pins s σ H D I h
  refine wpAny_For (thn (hi pins s σ H _ I h) fun v s1 h1 => thn h1 fun itv s2 h2 => ?_) hs
  obtain ⟨it, fp, tn, J, H2, e, I2, T, st2, f2, W, ⟨m0, w0⟩, turn⟩ := h2
  subst e
  -- what stays true of the iterator's objects through the loop
  have stat : ∀ {H' : Hp}, (∀ b ∈ fp, H' b = none) → ∀ b ∈ fp, FpOk X pins H' b := fun hn b hb => ⟨hn b hb, (f2 b hb).2⟩
  refine codeAny_forLoop_any (fun n s' => ∃ i σ' H', Inv X pins σ' H' s' ∧ tn i s'.heap ∧ (∀ b ∈ fp, H' b = none) ∧ W i n σ' H') ?_ m0 ⟨0, σ, H2, I2, st2, fun b hb => (f2 b hb).1, w0⟩
  rintro n s3 ⟨i, σ3, H3, I3, st3, fr3, w3⟩
  rcases turn i n σ3 H3 w3 with ⟨stop, qn⟩ | ⟨go, N, hN, step⟩
  · refine wpAny_passesOwn hp (thn (T.done X rfl rfl rfl hc i pins s3 σ3 H3 X.xe I3 (stat fr3) st3 stop) fun r s4 ⟨hr, I4⟩ => ?_)
    subst hr
    exact wpAny_execs_nil ⟨σ3, H3, I4, qn⟩
  · refine wpAny_passesOwn hp (thn (T.item X rfl rfl rfl hc i pins s3 σ3 H3 X.xe I3 (stat fr3) st3 go) fun r s4 ⟨u, hr, h4⟩ => ?_)
    subst hr
    refine wpAny_passesOwn hp (thn h4 fun _ s5 ⟨x, H5, I5, r5, y5, st5, fr5⟩ => ?_)
    have I5' := I5.pinned (stat fr5) (T.obj _ _ st5)
    refine wpAny_passesOwn hp (thn (hg _ s5 σ3 H5 x u _ I5' r5 (step x H5 y5)) fun _ s6 ⟨σ6, H6, I6, q6⟩ => ?_)
    refine wpAny_passesOwn hp (thn (hb _ s6 σ6 H6 _ I6 q6) fun f s7 q7 => ?_)
    have again : ∀ {σ7 : St} {H7 : Hp}, Inv X (pins ++ pinsAt fp s5.heap) σ7 H7 s7 → N σ7 H7 → ∃ m, m < n ∧ ∃ i σ' H', Inv X pins σ' H' s7 ∧ tn i s7.heap ∧ (∀ b ∈ fp, H' b = none) ∧ W i m σ' H' := fun {σ7 H7} I7 n7 => by
      obtain ⟨m', hm, w7⟩ := hN σ7 H7 n7
      refine ⟨m', hm, i + 1, σ7, H7, I7.unpinned, T.keep _ _ _ st5 fun b hb o e => (I7.pin (b, o) (List.mem_append_right _ (List.mem_append_right _ (mem_pinsAt hb e)))).1, fun b hb => ?_, w7⟩
      obtain ⟨o, e, d⟩ := T.obj _ _ st5 b hb
      exact (I7.pin (b, o) (List.mem_append_right _ (List.mem_append_right _ (mem_pinsAt hb e)))).2.1
    cases f with
    | next => obtain ⟨σ7, H7, I7, n7⟩ := q7; exact again I7 n7
    | cont => obtain ⟨σ7, H7, I7, n7⟩ := q7; exact again I7 n7
    | brk => obtain ⟨σ7, H7, I7, q7⟩ := q7; exact ⟨σ7, H7, I7.unpinned, q7⟩
    | ret v => obtain ⟨x7, σ7, H7, I7, r7, q7⟩ := q7; exact ⟨x7, σ7, H7, I7.unpinned, r7, q7⟩
end

/-! ### the forms one uses -/
theorem for_range {lo : Int} {n : Nat} {g : TG} {tb : TS} {D : Ends} {σ : St} {H : Hp} (Pv : Nat → St → Hp → Prop) (h0 : Pv 0 σ H)
    (hs : ∀ i σ H, i < n → Pv i σ H → g (.int (lo + i)) σ H fun σ2 H2 => tb { D with nx := Pv (i + 1), ct := Pv (i + 1), bk := D.nx } σ2 H2) (hd : ∀ σ H, Pv n σ H → D.nx σ H) :
    ∃ W : Nat → Nat → St → Hp → Prop, (∃ m, W 0 m σ H) ∧ ∀ i m σ H, W i m σ H →
      ((Itr lo n).stop i H ∧ D.nx σ H) ∨ ((Itr lo n).go i H ∧ ∃ N : St → Hp → Prop, (∀ σ' H', N σ' H' → ∃ m', m' < m ∧ W (i + 1) m' σ' H') ∧ ∀ x H', (Itr lo n).yld i H x H' → g x σ H' fun σ2 H2 => tb { D with nx := N, ct := N, bk := D.nx } σ2 H2) := by
  refine ⟨fun i m σ H => m = n - i ∧ i ≤ n ∧ Pv i σ H, ⟨n, by simp, Nat.zero_le _, h0⟩, ?_⟩
  rintro i m σ H ⟨rfl, hi, p⟩
  by_cases hlt : i < n
  · refine .inr ⟨hlt, Pv (i + 1), fun σ' H' p' => ⟨n - (i + 1), by omega, rfl, hlt, p'⟩, fun x H' y => ?_⟩
    obtain ⟨e, y⟩ := y
    subst e y
    exact hs i σ _ hlt p
  · have e : i = n := by omega
    subst e
    exact .inl ⟨Nat.le_refl _, hd σ H p⟩
end L2

namespace L2
open PySem PySem.Spec PyProof.Rows

abbrev R2 := V → V → Hp → VK → Prop
/-- a two-place operation on values: f is binaryOp op, inplaceOp op or compareOp op -/
def OpR (X : Cx) (f : Value → Value → Sem Value) (r : R2) : Prop :=
  ∀ (pins : List (Addr × Obj)) (s : Shared) (σ : St) (H : Hp) (x y : V) (v u : Value) (Q : VK), Inv X pins σ H s → RelV x v → RelV y u → r x y H Q →
    wpAny (model X.prog X.w) X.A (f v u) (EP X pins σ Q) X.xe s
/-- a one-place operation -/
def UnR (X : Cx) (f : Value → Sem Value) (r : V → Hp → VK → Prop) : Prop :=
  ∀ (pins : List (Addr × Obj)) (s : Shared) (σ : St) (H : Hp) (x : V) (v : Value) (Q : VK), Inv X pins σ H s → RelV x v → r x H Q →
    wpAny (model X.prog X.w) X.A (f v) (EP X pins σ Q) X.xe s
/-- a call of a value that is known (a builtin, a type) with values -/
def CallR (X : Cx) (f : Value) (r : List V → Hp → VK → Prop) : Prop :=
  ∀ (pins : List (Addr × Obj)) (s : Shared) (σ : St) (H : Hp) (xs : List V) (us : List Value) (Q : VK), Inv X pins σ H s → Vals xs us → r xs H Q →
    wpAny (model X.prog X.w) X.A (call f us) (EP X pins σ Q) X.xe s
def tOp (r : R2) (ta tb : TE) : TE := fun σ H Q => ta σ H fun x H1 => tb σ H1 fun y H2 => r x y H2 Q
/-- ints in, under C, and a value out -/
def rI (C : Int → Int → Prop) (g : Int → Int → V) : R2 := fun x y H Q => ∃ i j, x = .int i ∧ y = .int j ∧ C i j ∧ Q (g i j) H
def rI0 (g : Int → Int → V) : R2 := fun x y H Q => ∃ i j, x = .int i ∧ y = .int j ∧ Q (g i j) H
section
variable {X : Cx} {a b c : Expr} {ta tb tc : TE} {pos : Pos}

theorem binT (ha : PE X a ta) (hb : PE X b tb) {pins : List (Addr × Obj)} {s : Shared} {σ : St} {H : Hp} {R : V → V → Hp → Prop} (I : Inv X pins σ H s)
    (h : ta σ H fun x H1 => tb σ H1 fun y H2 => R x y H2) {Q : Value → Shared → Prop} {f : Value → Value → Sem Value}
    (hf : ∀ v u s2 x y H2, Inv X pins σ H2 s2 → RelV x v → RelV y u → R x y H2 → wpAny (model X.prog X.w) X.A (f v u) Q X.xe s2) :
    wpAny (model X.prog X.w) X.A (eval a X.env) (fun v s₁ => wpAny (model X.prog X.w) X.A (eval b X.env) (fun u s₂ => wpAny (model X.prog X.w) X.A (f v u) Q X.xe s₂) X.xe s₁) X.xe s := by
  refine thn (ha pins s σ H _ I h) fun v s1 ⟨x, H1, I1, r1, q1⟩ => ?_
  refine thn (hb pins s1 σ H1 _ I1 q1) fun u s2 ⟨y, H2, I2, r2, q2⟩ => ?_
  exact hf v u s2 x y H2 I2 r1 r2 q2

theorem pe_op {op : Operator} {r : R2} (ho : OpR X (binaryOp op) r) (ha : PE X a ta) (hb : PE X b tb) : PE X (.BinOp a op b pos) (tOp r ta tb) := by
  intro pins s σ H Q I h
  exact wpAny_BinOp (binT ha hb I h fun v u s2 x y H2 I2 rx ry q => ho pins s2 σ H2 x y v u Q I2 rx ry q)
/-! ### ints -/
theorem opI {f : Value → Value → Sem Value} {C : Int → Int → Prop} {g : Int → Int → Int}
    (rule : ∀ (i j : Int) (t u : Tok) (s : Shared) (Q : Value → Shared → Prop) (E : Value → Shared → Prop), C i j → Q (.int (g i j) s.toks) { s with toks := s.toks + 1 } → wpAny (model X.prog X.w) X.A (f (.int i t) (.int j u)) Q E s) :
    OpR X f (rI C fun i j => .int (g i j)) := by
  intro pins s σ H x y v u Q I rx ry h
  obtain ⟨i, j, rfl, rfl, hc, q⟩ := h
  obtain ⟨t, rfl⟩ := rx
  obtain ⟨t', rfl⟩ := ry
  exact rule i j t t' s _ _ hc ⟨.int (g i j), H, I.tok _, ⟨_, rfl⟩, q⟩
theorem opI0 {f : Value → Value → Sem Value} {g : Int → Int → Int}
    (rule : ∀ (i j : Int) (t u : Tok) (s : Shared) (Q : Value → Shared → Prop) (E : Value → Shared → Prop), Q (.int (g i j) s.toks) { s with toks := s.toks + 1 } → wpAny (model X.prog X.w) X.A (f (.int i t) (.int j u)) Q E s) :
    OpR X f (rI0 fun i j => .int (g i j)) := by
  intro pins s σ H x y v u Q I rx ry h
  obtain ⟨i, j, rfl, rfl, q⟩ := h
  obtain ⟨t, rfl⟩ := rx
  obtain ⟨t', rfl⟩ := ry
  exact rule i j t t' s _ _ ⟨.int (g i j), H, I.tok _, ⟨_, rfl⟩, q⟩
theorem opB0 {f : Value → Value → Sem Value} {g : Int → Int → Bool}
    (rule : ∀ (i j : Int) (t u : Tok) (s : Shared) (Q : Value → Shared → Prop) (E : Value → Shared → Prop), Q (.bool (g i j)) s → wpAny (model X.prog X.w) X.A (f (.int i t) (.int j u)) Q E s) :
    OpR X f (rI0 fun i j => .bl (g i j)) := by
  intro pins s σ H x y v u Q I rx ry h
  obtain ⟨i, j, rfl, rfl, q⟩ := h
  obtain ⟨t, rfl⟩ := rx
  obtain ⟨t', rfl⟩ := ry
  exact rule i j t t' s _ _ ⟨.bl (g i j), H, I, rfl, q⟩

def CPow (i j : Int) : Prop := 0 ≤ j ∧ j ≤ 1000000 ∧ i.natAbs < 2 ^ 64
def CMul (i j : Int) : Prop := (-(2 ^ 64) < i ∧ i < 2 ^ 64) ∨ (-(2 ^ 64) < j ∧ j < 2 ^ 64)
theorem CMul.ok {i j : Int} (h : CMul i j) : IntMulOk i j := by
  rcases h with ⟨h1, h2⟩ | ⟨h1, h2⟩
  · exact .of_left (intBits_le_64 h1 h2)
  · exact .of_right (intBits_le_64 h1 h2)
theorem op_add : OpR X (binaryOp .Add) (rI0 fun i j => .int (i + j)) := opI0 fun _ _ _ _ _ _ _ q => add_int q
theorem op_sub : OpR X (binaryOp .Sub) (rI0 fun i j => .int (i - j)) := opI0 fun _ _ _ _ _ _ _ q => sub_int q
theorem op_modN : OpR X (binaryOp .Mod) (rI (fun _ j => j ≠ 0) fun i j => .int (i.fmod j)) := opI fun _ _ _ _ _ _ _ hc q => mod_int' hc q
theorem op_pow : OpR X (binaryOp .Pow) (rI CPow fun i j => .int (i ^ j.toNat)) := opI fun _ _ _ _ _ _ _ hc q => pow_int_small hc.1 hc.2.1 hc.2.2 q
/-! ### bools among ints: n += (a < b) -/
end

/-! ### comparisons -/
/-- the scalars that == tells apart as data does -/
def scal : V → V → Bool
  | .non, .non => true | .non, .int _ => true | .int _, .non => true | .non, .bl _ => true | .bl _, .non => true | .non, .str _ => true | .str _, .non => true
  | .int _, .int _ => true | .bl _, .bl _ => true | .str _, .str _ => true | .byt _, .byt _ => true
  | .int _, .str _ => true | .str _, .int _ => true | .bl _, .str _ => true | .str _, .bl _ => true
  | _, _ => false
def rEq : R2 := fun x y H Q => scal x y = true ∧ Q (.bl (decide (x = y))) H
def rNe : R2 := fun x y H Q => scal x y = true ∧ Q (.bl (!decide (x = y))) H

theorem dec_int {i j : Int} : decide (V.int i = V.int j) = (i == j) := by
  rw [Bool.eq_iff_iff]
  simp
theorem dec_bl {i j : Bool} : decide (V.bl i = V.bl j) = (i == j) := by
  rw [Bool.eq_iff_iff]
  simp
theorem dec_str {i j : Str} : decide (V.str i = V.str j) = (i == j) := by
  rw [Bool.eq_iff_iff]
  simp
theorem dec_byt {i j : Array UInt8} : decide (V.byt i = V.byt j) = (i.toList == j.toList) := by
  rw [Bool.eq_iff_iff]
  cases i
  cases j
  simp

section
variable {X : Cx} {a b c : Expr} {ta tb tc : TE} {pos : Pos}
theorem fin_bl {pins : List (Addr × Obj)} {σ : St} {H : Hp} {s : Shared} {Q : VK} {k k' : Bool} (I : Inv X pins σ H s) (q : Q (.bl k) H) (e : k = k') : EP X pins σ Q (.bool k') s := by
  subst e
  exact ⟨.bl k, H, I, rfl, q⟩
theorem op_eq : OpR X (compareOp .Eq) rEq := by
  intro pins s σ H x y v u Q I rx ry h
  obtain ⟨hs, q⟩ := h
  cases x with
  | non =>
    cases rx
    cases y with
    | non => cases ry; exact PySem.EqNone.eq_none_none (fin_bl I q (by simp))
    | bl j => cases ry; exact PySem.EqNone.eq_none_bool (fin_bl I q (by simp))
    | int j => obtain ⟨t', rfl⟩ := ry; exact PySem.EqNone.eq_none_int (fin_bl I q (by simp))
    | str j => obtain ⟨t', rfl⟩ := ry; exact PySem.EqNone.eq_none_str (fin_bl I q (by simp))
    | _ => exact absurd (show false = true from hs) Bool.false_ne_true
  | bl i =>
    cases rx
    cases y with
    | non => cases ry; exact PySem.EqNone.eq_bool_none (fin_bl I q (by simp))
    | bl j => cases ry; exact eq_bool (fin_bl I q dec_bl)
    | str j => obtain ⟨t', rfl⟩ := ry; exact PySem.EqMixed.eq_bool_str (fin_bl I q (by simp))
    | _ => exact absurd (show false = true from hs) Bool.false_ne_true
  | int i =>
    obtain ⟨t, rfl⟩ := rx
    cases y with
    | non => cases ry; exact PySem.EqNone.eq_int_none (fin_bl I q (by simp))
    | int j => obtain ⟨t', rfl⟩ := ry; exact eq_int (fin_bl I q dec_int)
    | str j => obtain ⟨t', rfl⟩ := ry; exact PySem.EqMixed.eq_int_str (fin_bl I q (by simp))
    | _ => exact absurd (show false = true from hs) Bool.false_ne_true
  | str i =>
    obtain ⟨t, rfl⟩ := rx
    cases y with
    | non => cases ry; exact PySem.EqNone.eq_str_none (fin_bl I q (by simp))
    | bl j => cases ry; exact PySem.EqMixed.eq_str_bool (fin_bl I q (by simp))
    | int j => obtain ⟨t', rfl⟩ := ry; exact PySem.EqMixed.eq_str_int (fin_bl I q (by simp))
    | str j => obtain ⟨t', rfl⟩ := ry; exact eq_str (fin_bl I q dec_str)
    | _ => exact absurd (show false = true from hs) Bool.false_ne_true
  | byt i =>
    obtain ⟨t, rfl⟩ := rx
    cases y with
    | byt j => obtain ⟨t', rfl⟩ := ry; exact PySem.W.eq_bytes (fin_bl I q dec_byt)
    | _ => exact absurd (show false = true from hs) Bool.false_ne_true
  | _ => cases y <;> exact absurd (show false = true from hs) Bool.false_ne_true
theorem op_ne : OpR X (compareOp .NotEq) rNe := by
  intro pins s σ H x y v u Q I rx ry h
  obtain ⟨hs, q⟩ := h
  cases x with
  | non =>
    cases rx
    cases y with
    | non => cases ry; exact PySem.EqNone.ne_none_none (fin_bl I q (by simp))
    | bl j => cases ry; exact PySem.EqNone.ne_none_bool (fin_bl I q (by simp))
    | int j => obtain ⟨t', rfl⟩ := ry; exact PySem.EqNone.ne_none_int (fin_bl I q (by simp))
    | str j => obtain ⟨t', rfl⟩ := ry; exact PySem.EqNone.ne_none_str (fin_bl I q (by simp))
    | _ => exact absurd (show false = true from hs) Bool.false_ne_true
  | bl i =>
    cases rx
    cases y with
    | non => cases ry; exact PySem.EqNone.ne_bool_none (fin_bl I q (by simp))
    | bl j => cases ry; exact ne_bool (fin_bl I q (congrArg not dec_bl))
    | str j => obtain ⟨t', rfl⟩ := ry; exact PySem.EqMixed.ne_bool_str (fin_bl I q (by simp))
    | _ => exact absurd (show false = true from hs) Bool.false_ne_true
  | int i =>
    obtain ⟨t, rfl⟩ := rx
    cases y with
    | non => cases ry; exact PySem.EqNone.ne_int_none (fin_bl I q (by simp))
    | int j => obtain ⟨t', rfl⟩ := ry; exact ne_int (fin_bl I q (congrArg not dec_int))
    | str j => obtain ⟨t', rfl⟩ := ry; exact PySem.EqMixed.ne_int_str (fin_bl I q (by simp))
    | _ => exact absurd (show false = true from hs) Bool.false_ne_true
  | str i =>
    obtain ⟨t, rfl⟩ := rx
    cases y with
    | non => cases ry; exact PySem.EqNone.ne_str_none (fin_bl I q (by simp))
    | bl j => cases ry; exact PySem.EqMixed.ne_str_bool (fin_bl I q (by simp))
    | int j => obtain ⟨t', rfl⟩ := ry; exact PySem.EqMixed.ne_str_int (fin_bl I q (by simp))
    | str j => obtain ⟨t', rfl⟩ := ry; exact ne_str (fin_bl I q (congrArg not dec_str))
    | _ => exact absurd (show false = true from hs) Bool.false_ne_true
  | byt i =>
    obtain ⟨t, rfl⟩ := rx
    cases y with
    | byt j => obtain ⟨t', rfl⟩ := ry; exact PySem.W.ne_bytes (fin_bl I q (congrArg not dec_byt))
    | _ => exact absurd (show false = true from hs) Bool.false_ne_true
  | _ => cases y <;> exact absurd (show false = true from hs) Bool.false_ne_true

theorem op_lt : OpR X (compareOp .Lt) (rI0 fun i j => .bl (decide (i < j))) := opB0 fun _ _ _ _ _ _ _ q => lt_int q
theorem op_gt : OpR X (compareOp .Gt) (rI0 fun i j => .bl (decide (j < i))) := opB0 fun _ _ _ _ _ _ _ q => gt_int q
/-- two rules for one operation: by cases -/
theorem OpR.or {f : Value → Value → Sem Value} {r r' : R2} (h : OpR X f r) (h' : OpR X f r') : OpR X f (fun x y H Q => r x y H Q ∨ r' x y H Q) := by
  intro pins s σ H x y v u Q I rx ry q
  rcases q with q | q
  · exact h pins s σ H x y v u Q I rx ry q
  · exact h' pins s σ H x y v u Q I rx ry q

theorem nomark (b : Expr) {op : CmpOp} (h : op ≠ .In := by decide) (h2 : op ≠ .NotIn := by decide) : behindInMarks op b = false := by
  have e1 : (op == CmpOp.In) = false := by cases op <;> first | rfl | exact absurd rfl h
  have e2 : (op == CmpOp.NotIn) = false := by cases op <;> first | rfl | exact absurd rfl h2
  cases b <;> simp [behindInMarks, e1, e2]
/-- a comparison as a value; hm: nomark b, or (for in, not in) by with_unfolding_all rfl -/
theorem pe_cmpR {op : CmpOp} {r : R2} (ho : OpR X (compareOp op) r) (ha : PE X a ta) (hb : PE X b tb) (hm : behindInMarks op b = false) : PE X (.Compare a [op] [b] pos) (tOp r ta tb) := by
  intro pins s σ H Q I h
  exact wpAny_Compare1 (binT ha hb I h fun v u s2 x y H2 I2 rx ry q => ho pins s2 σ H2 x y v u Q I2 rx ry q) hm
/-- a reading of a value as a test -/
def tTest (t : TE) : TT := fun σ H Q => t σ H fun x H' => ∃ k, x = .bl k ∧ Q k H'
theorem pt_cmpR {op : CmpOp} {r : R2} (ho : OpR X (compareOp op) r) (ha : PE X a ta) (hb : PE X b tb) (hm : behindInMarks op b = false) : PT X (.Compare a [op] [b] pos) (tTest (tOp r ta tb)) := by
  intro pins s σ H Q I h
  refine wpAny_isTrue_Compare1 (thn (ha pins s σ H _ I h) fun v s1 ⟨x, H1, I1, r1, q1⟩ => thn (hb pins s1 σ H1 _ I1 q1) fun u s2 ⟨y, H2, I2, r2, q2⟩ =>
    thn (ho pins s2 σ H2 x y v u _ I2 r1 r2 q2) fun c s3 ⟨z, H3, I3, r3, k, e, q3⟩ => ?_) hm
  subst e
  cases r3
  exact wpAny_truthy_bool ⟨H3, I3, q3⟩
/-! ### truth -/
theorem line63 : (sizeLine : Nat) < 2 ^ 63 := by rw [sizeLine_eq]; decide
/-! ### strs and bytes -/
/-! ### scalar builtins, by CallR -/
theorem vals1 {x : V} {us : List Value} (r : Vals [x] us) : ∃ u, us = [u] ∧ RelV x u := by
  cases r with
  | cons r1 r2 => cases r2; exact ⟨_, rfl, r1⟩
theorem vals2 {x y : V} {us : List Value} (r : Vals [x, y] us) : ∃ u w', us = [u, w'] ∧ RelV x u ∧ RelV y w' := by
  cases r with
  | cons r1 r2 =>
    cases r2 with
    | cons r3 r4 => cases r4; exact ⟨_, _, rfl, r1, r3⟩
theorem call_min2 (hc : X.calm = true) : CallR X (.builtin "min") (fun xs H Q => ∃ i j, xs = [.int i, .int j] ∧ Q (.int (if j < i then j else i)) H) := by
  intro pins s σ H xs us Q I r h
  obtain ⟨i, j, rfl, q⟩ := h
  obtain ⟨u, w', rfl, ⟨t, rfl⟩, ⟨t', rfl⟩⟩ := vals2 r
  refine min_two_ints (I.ok.hd hc) fun h' tk k => ⟨_, H, I.kept k, ?_, q⟩
  by_cases hj : j < i
  · rw [if_pos hj, if_pos hj]; exact ⟨_, rfl⟩
  · rw [if_neg hj, if_neg hj]; exact ⟨_, rfl⟩
theorem call_int1 : CallR X (.type "int") (fun xs H Q => (∃ i, xs = [.int i] ∧ Q (.int i) H) ∨ ∃ k, xs = [.bl k] ∧ Q (.int (if k then 1 else 0)) H) := by
  intro pins s σ H xs us Q I r h
  rcases h with ⟨i, rfl, q⟩ | ⟨k, rfl, q⟩
  · obtain ⟨u, rfl, t, rfl⟩ := vals1 r
    exact call_int_int ⟨.int i, H, I, ⟨_, rfl⟩, q⟩
  · obtain ⟨u, rfl, r1⟩ := vals1 r
    cases r1
    exact call_int_bool ⟨.int (if k then 1 else 0), H, I.tok _, ⟨_, rfl⟩, q⟩
end
end L2

namespace L2
open PySem PySem.Spec PyProof.Rows

/-! ### an instance, its attributes a map -/
structure ObjM (h : Heap) (x dx C : Addr) (mA : Str → Option Value) : Prop where
  obj : h.get? x = some (PySem.W.instObj C dx)
  ns : h.Ns1 dx mA
  ne : dx ≠ x

theorem lookIn_ns {h : Heap} {dx : Addr} {mA : Str → Option Value} (n : h.Ns1 dx mA) : ∃ od, h.get? dx = some od ∧ ∀ name, PySem.W.lookIn name od = some (mA name) := by
  obtain ⟨o, es, ep, ho, hd, hk, _, hm⟩ := n
  refine ⟨o, ho, fun name => ?_⟩
  have e := hm name
  unfold nsFind findBy at e
  rw [← Array.find?_toList] at e
  unfold PySem.W.lookIn
  rw [hd]
  dsimp only
  split
  · rename_i y q
    rw [q] at e
    exact congrArg some e
  · rename_i q
    rw [q] at e
    have a : es.toList.any (·.refKey) = false := by
      rw [List.any_eq_false]
      intro y hy
      obtain ⟨z, t, hkey⟩ := hk y (Array.mem_toList_iff.mp hy)
      simp [DictEntry.refKey, hkey]
    have a' : ¬ es.toList.any (·.refKey) = true := by rw [a]; exact Bool.false_ne_true
    rw [if_neg a']
    exact congrArg some e

theorem ObjM.look {h : Heap} {x dx C : Addr} {mA : Str → Option Value} (I : ObjM h x dx C mA) : ∃ od, PySem.W.InstAt h x (PySem.W.instObj C dx) C (some od) ∧ ∀ name, PySem.W.lookIn name od = some (mA name) :=
  let ⟨od, ho, hl⟩ := lookIn_ns I.ns
  ⟨od, ⟨I.obj, rfl, rfl, ho⟩, hl⟩

section
variable {prog : Program} {w : World} {A : Around} {E : Value → Shared → Prop} {s : Shared} {K : PySem.W.Frag} {x dx C f : Addr} {mA : Str → Option Value} {name : Str} {v : Value}

end

/-! ### the attributes as a list of pairs -/
theorem RelO.some_of {v : V} {o : Option Value} (r : RelO (some v) o) : ∃ u, o = some u ∧ RelV v u := by
  cases o with
  | none => exact (show False from r).elim
  | some u => exact ⟨u, rfl, r⟩
section
variable {P : Program} {w : World} {H H' : Hp} {h h' : Heap} {a C dx : Addr} {fs fs' : List (Str × V)}
theorem ins_get (hok : HOk P w H h) (e : H a = some (.ins C dx fs)) : ∃ mA, ObjM h a dx C mA ∧ (∀ f, RelO (fs.lookup f) (mA f)) ∧ PySem.Within mA (fs.map (·.1)) ∧ fs.length ≤ 1000 ∧ H dx = some (.own a) := by
  obtain ⟨d, z, ne, ob, mA, n, r, q⟩ := (show ObjOk P w H h a (.ins C dx fs) from hok a _ e)
  exact ⟨mA, ⟨ob, n, ne⟩, r, q, z, d⟩
end

/-! ### what of the text a class must have -/
structure Cls (K : PySem.W.Frag) (C : Addr) : Prop where
  pg : PySem.W.plainGet K C Str.empty = true
  hd : PySem.W.hasDictIn K C = true
  po : PySem.W.plainOver K C = true
  sa : PySem.W.findIn K (.ref C) "__setattr__" = some (some (.builtin "object.__setattr__"))
theorem Cls.get {K : PySem.W.Frag} {C : Addr} (c : Cls K C) (f : Str) : PySem.W.plainGet K C f = true := c.pg
section
variable {X : Cx} {pins : List (Addr × Obj)} {σ : St} {H : Hp} {s : Shared} {a C dx : Addr} {fs : List (Str × V)} {f : Str} {v : V} {A : Around} {E : Value → Shared → Prop}

/-- a new instance, tracked, without attributes -/
theorem Inv.made (I : Inv X pins σ H s) : Inv X pins σ (upd (upd H s.heap.objs.size (.own (s.heap.objs.size + 1))) (s.heap.objs.size + 1) (.ins C s.heap.objs.size []))
    { s with heap := (s.heap.push PySem.W.emptyDict).push (PySem.W.instObj C s.heap.objs.size) } := by
  have e1 : (s.heap.push PySem.W.emptyDict).get? s.heap.objs.size = some PySem.W.emptyDict := Heap.get?_push_size s.heap rfl
  have e2 : ((s.heap.push PySem.W.emptyDict).push (PySem.W.instObj C s.heap.objs.size)).get? (s.heap.objs.size + 1) = some (PySem.W.instObj C s.heap.objs.size) := by
    have := Heap.get?_push_size (s.heap.push PySem.W.emptyDict) (o := PySem.W.instObj C s.heap.objs.size) rfl
    rwa [Heap.size_push] at this
  have e3 : (s.heap.push PySem.W.emptyDict).Ns s.heap.objs.size (fun _ => none) := ⟨PySem.W.emptyDict, #[], _, e1, rfl, (fun e he => absurd he (by simp)), fun _ => rfl⟩
  have I1 := I.laid (a := s.heap.objs.size) (o := .own (s.heap.objs.size + 1)) (h' := s.heap.push PySem.W.emptyDict) (t' := s.toks) (fun b u q => Heap.get?_push_of_some _ q) (Nat.le_refl _) ⟨_, e1⟩
  refine I1.laid (a := s.heap.objs.size + 1) (o := .ins C s.heap.objs.size []) (t' := s.toks) (fun b u q => Heap.get?_push_of_some _ q) (Nat.le_of_eq (Heap.size_push _ _)) ?_
  have ne : s.heap.objs.size ≠ s.heap.objs.size + 1 := Nat.ne_of_lt (Nat.lt_succ_self _)
  refine ⟨by rw [upd_ne ne, upd_same], Nat.zero_le _, ne, e2, fun _ => none, (Heap.Ns1.of_empty e3).at fun o q => Heap.get?_push_of_some _ q, fun _ => True.intro, fun y hy => absurd rfl hy⟩

end

/-! ### readings and rules -/
section
variable {X : Cx} {o e value : Expr} {f : Str} {pos pos' tpos : Pos} {ta tv : TE}
end

/-! ### isinstance -/
section
variable {X : Cx} {pins : List (Addr × Obj)} {σ : St} {H : Hp} {s : Shared} {A : Around} {E : Value → Shared → Prop} {Q : Value → Shared → Prop} {c : Value} {b : Bool}
/-- the type of a value, as the fragment's deciders take it; for an instance its class -/
inductive TyOf (K : PySem.W.Frag) (H : Hp) : V → Value → Prop where
  | non : TyOf K H .non (.type "NoneType")
  | bl (x : Bool) : TyOf K H (.bl x) (.type "bool")
  | int (i : Int) : TyOf K H (.int i) (.type "int")
  | str (x : Str) : TyOf K H (.str x) (.type "str")
  | flt (x : UInt64) : TyOf K H (.flt x) (.type "float")
  | lst {a : Addr} {xs : List V} (e : H a = some (.lst xs)) : TyOf K H (.ref a) (.type "list")
  | frz {a : Addr} {o : Obj} {xs : List V} (e : H a = some (.frz o (.lst xs))) : TyOf K H (.ref a) (.type "list")
  | tup {a : Addr} {xs : List V} (e : H a = some (.tup xs)) : TyOf K H (.ref a) (.type "tuple")
  | dK {a : Addr} {kvs : List (Key × V)} (e : H a = some (.dK kvs)) : TyOf K H (.ref a) (.type "dict")
  | dT {a : Addr} {kvs : List (List Key × V)} (e : H a = some (.dT kvs)) : TyOf K H (.ref a) (.type "dict")
  | ins {a C dx : Addr} {fs : List (Str × V)} (e : H a = some (.ins C dx fs)) (cl : Cls K C) (ha : PySem.W.findIn K (.ref C) "__class__" = some (some (.builtin "object.__class__")))
      (hn : PySem.W.specialIn K (.builtin "object.__class__") "__get__" = some (some (.builtin "getset_descriptor.__get__"))) (htk : PySem.W.takesIn K (.builtin "object.__class__") = some true)
      (hm : PySem.W.mroIn K C (.type "object") = some true) : TyOf K H (.ref a) (.ref C)
/-- isinstance(x, c) for one class c, a built-in or an own one: kitOne's answer -/
theorem isinst_ok {x : V} {u t : Value} (I : Inv X pins σ H s) (rx : RelV x u) (ty : TyOf X.K H x t) (e : PySem.W.kitOne X.K t c = some b) (h : ∀ tk, Q (.bool b) { s with toks := tk }) :
    wpAny (model X.prog X.w) A (call (.builtin "isinstance") [u, c]) Q E s := by
  cases ty with
  | non => cases (show u = Value.none from rx); exact PySem.W.kia_one PySem.W.kitx_none I.kIn True.intro e (fun z => nomatch z) h
  | bl y => cases (show u = Value.bool y from rx); exact PySem.W.kia_one PySem.W.kitx_bool I.kIn True.intro e (fun z => nomatch z) h
  | int i => obtain ⟨t, q⟩ := (show ∃ t, u = Value.int i t from rx); cases q; exact PySem.W.kia_one PySem.W.kitx_int I.kIn True.intro e (fun z => nomatch z) h
  | str y => obtain ⟨t, q⟩ := (show ∃ t, u = Value.str y t from rx); cases q; exact PySem.W.kia_one PySem.W.kitx_str I.kIn True.intro e (fun z => nomatch z) h
  | flt y => obtain ⟨t, q⟩ := (show ∃ t, u = Value.float y t from rx); cases q; exact PySem.W.kia_one PySem.W.kitx_float I.kIn True.intro e (fun z => nomatch z) h
  | @lst a xs ea =>
    cases (show u = Value.ref a from rx)
    obtain ⟨_, _, n, _, h1⟩ := (show ObjOk X.prog X.w H s.heap a (.lst xs) from I.hok a _ ea)
    exact PySem.W.kia_one PySem.W.kitx_list I.kIn ⟨_, h1, rfl⟩ e (fun z => nomatch z) h
  | @frz a ob xs ea =>
    cases (show u = Value.ref a from rx)
    obtain ⟨_, _, _, n, _, h1⟩ := (show ObjOk X.prog X.w H s.heap a (.frz ob (.lst xs)) from I.hok a _ ea)
    exact PySem.W.kia_one PySem.W.kitx_list I.kIn ⟨_, h1, rfl⟩ e (fun z => nomatch z) h
  | @tup a xs ea =>
    cases (show u = Value.ref a from rx)
    obtain ⟨_, _, _, p⟩ := (show ObjOk X.prog X.w H s.heap a (.tup xs) from I.hok a _ ea)
    obtain ⟨o, h1, h2, _⟩ := p
    exact PySem.W.kia_one PySem.W.kitx_tuple I.kIn ⟨o, h1, h2⟩ e (fun z => nomatch z) h
  | @dK a kvs ea =>
    cases (show u = Value.ref a from rx)
    obtain ⟨_, _, vs, _, p⟩ := (show ObjOk X.prog X.w H s.heap a (.dK kvs) from I.hok a _ ea)
    obtain ⟨o, es, ep, h1, h2, _⟩ := p
    exact PySem.W.kia_one PySem.W.kitx_dict I.kIn ⟨o, h1, h2.1⟩ e (fun z => nomatch z) h
  | @dT a kvs ea =>
    cases (show u = Value.ref a from rx)
    obtain ⟨_, _, xs, _, o, es, ep, h1, h2, _⟩ := (show ObjOk X.prog X.w H s.heap a (.dT kvs) from I.hok a _ ea)
    exact PySem.W.kia_one PySem.W.kitx_dict I.kIn ⟨o, h1, h2.1⟩ e (fun z => nomatch z) h
  | @ins a C dx fs ea cl ha hn htk hm =>
    cases (show u = Value.ref a from rx)
    obtain ⟨mA, O, _⟩ := ins_get I.hok ea
    obtain ⟨od, J, _⟩ := O.look
    exact PySem.W.kia_one (PySem.W.kitx_own (cl.get _) cl.hd ha hn htk hm) I.kIn J e (fun z => nomatch z) h
end
end L2

namespace L2
open PySem PySem.Spec PyProof.Rows

/-! ### room -/
structure Room (k : Nat) (A : Around) : Prop where
  hd : A.handled = none
  dp : A.depth + 3 * k + 5 < recursionLimit
  un : A.units + 16 * k + 200 < cLine
theorem Room.mono {j k : Nat} {A : Around} (r : Room k A) (h : j ≤ k) : Room j A := ⟨r.hd, by have := r.dp; omega, by have := r.un; omega⟩
theorem Room.deeper {k : Nat} {A : Around} (r : Room (k + 1) A) (env : Env) : Room k (A.deeper env) :=
  ⟨r.hd, by have := r.dp; show A.depth + 1 + 3 * k + 5 < _; omega, by have := r.un; show A.units + 3 + 16 * k + 200 < _; omega⟩
theorem Room.in1 {k : Nat} {A : Around} (r : Room (k + 1) A) : Room k A.in1 :=
  ⟨r.hd, by have := r.dp; show A.depth + 3 * k + 5 < _; omega, by have := r.un; show A.units + 1 + 16 * k + 200 < _; omega⟩
theorem Room.depth {k : Nat} {A : Around} (r : Room k A) : A.depth < recursionLimit := by have := r.dp; omega
theorem Room.units {k : Nat} {A : Around} (r : Room k A) : A.units + 64 < cLine := by have := r.un; omega
/-! ### argument lists and displays -/
def tNil : TA := fun _ H Q => Q [] H
def tCons (ta : TE) (tr : TA) : TA := fun σ H Q => ta σ H fun x H1 => tr σ H1 fun xs H2 => Q (x :: xs) H2
section
variable {X : Cx} {e : Expr} {es : List Expr} {te : TE} {t : TA} {pos : Pos}
theorem pa_nil : PA X [] tNil := fun _ _ _ _ H Q I h => Calls.spliced_nil ⟨[], H, I, .nil, h⟩
theorem pa_cons (ha : PE X e te) (hr : PA X es t) (hs : starEach (e :: es) X.env = (false, eval e X.env) :: starEach es X.env := by rfl) : PA X (e :: es) (tCons te t) := by
  intro pos pins s σ H Q I h
  rw [hs]
  show wpAny _ _ (spliced ((false, eval e X.env) :: backTo pos (starEach es X.env))) _ _ s
  refine Calls.spliced_cons (thn (ha pins s σ H _ I h) fun u s1 ⟨x, H1, I1, r1, q1⟩ => ?_)
  exact thn (hr pos pins s1 σ H1 _ I1 q1) fun us s2 ⟨xs, H2, I2, r2, q2⟩ => ⟨x :: xs, H2, I2, .cons r1 r2, q2⟩

/-- a tuple, a list of written items -/
def tTup (t : TA) : TE := fun σ H Q => t σ H fun xs H1 => xs.length ≤ sizeLine ∧ ∀ p, H1 p = none → Q (.ref p) (upd H1 p (.tup xs))
def tLst (t : TA) : TE := fun σ H Q => t σ H fun xs H1 => xs.length ≤ sizeLine ∧ ∀ p, H1 p = none → Q (.ref p) (upd H1 p (.lst xs))
theorem pe_tup {x1} (h : PA X es t) : PE X (.Tuple es x1 pos) (tTup t) := by
  intro pins s σ H Q I hq
  refine wpAny_Tuple_spliced (thn (h pos pins s σ H _ I hq) fun us s1 ⟨xs, H1, I1, r, z, q⟩ => ⟨by rw [← r.length]; exact z, ?_⟩)
  have hf : H1 s1.heap.objs.size = none := I1.hok.fresh (Nat.le_refl _)
  refine ⟨.ref s1.heap.objs.size, upd H1 s1.heap.objs.size (.tup xs), I1.laid (t' := s1.toks) (fun b u e => Heap.get?_push_of_some _ e) (Nat.le_refl _) ?_, rfl, q _ hf⟩
  exact ⟨z, us, r, ⟨_, Heap.get?_push_size _ rfl, rfl, _, rfl⟩⟩
theorem pe_lst (h : PA X es t) : PE X (.List es pos) (tLst t) := by
  intro pins s σ H Q I hq
  refine wpAny_List_spliced (thn (h pos pins s σ H _ I hq) fun us s1 ⟨xs, H1, I1, r, z, q⟩ => ⟨by rw [← r.length]; exact z, ?_⟩)
  have hf : H1 s1.heap.objs.size = none := I1.hok.fresh (Nat.le_refl _)
  refine ⟨.ref s1.heap.objs.size, upd H1 s1.heap.objs.size (.lst xs), I1.laid (t' := s1.toks) (fun b u e => Heap.get?_push_of_some _ e) (Nat.le_refl _) ?_, rfl, q _ hf⟩
  exact ⟨z, us, 0, r, Heap.get?_push_size _ rfl⟩
end

/-! ### what a def promises -/
/-- a def's promise: the bound arguments in the parameters' order, the heap, the wanted end, the wanted exception -/
abbrev Sp := List V → Hp → VK → XK → Prop
/-- how an exception lies behind a call (file 08 gives it): the callers' frames, abstract heap and state ahead of the call, the wish, the exception, the state -/
abbrev CXT := List Env → Hp → Shared → XK → Value → Shared → Prop

/-- the state at a call -/
structure Env0 (P : Program) (w : World) (K : PySem.W.Frag) (mg : Str → Option Value) (base : Heap) (A : Around) (outer : List Env) (s : Shared) (H : Hp) : Prop where
  frames : A.frames = some outer
  mod : Mod K mg base
  bs : ∀ b o, base.get? b = some o → s.heap.get? b = some o ∧ H b = none
  bsz : base.objs.size ≤ s.heap.objs.size
  funs : s.heap.FunFrames base outer
  frf : ∀ b ∈ frs outer, H b = none
  hok : HOk P w H s.heap
  bare : AllBare s.gens
/-- a call's end -/
def CE (outer : List Env) (P : Program) (w : World) (H : Hp) (s : Shared) (Q : VK) (u : Value) (s' : Shared) : Prop :=
  ∃ v H', s'.os = s.os ∧ AllBare s'.gens ∧ Un (frs outer) [] H H' s.heap s'.heap ∧ HOk P w H' s'.heap ∧ RelV v u ∧ Q v H'
def CR (CX : CXT) (outer : List Env) (P : Program) (w : World) (H : Hp) (s : Shared) (Q : VK) (E : XK) (r : Result) (s' : Shared) : Prop :=
  match r with
  | .ok (.ret u) => CE outer P w H s Q u s'
  | .ok _ => False
  | .error e => CX outer H s E e s'
structure FnOk (P : Program) (w : World) (K : PySem.W.Frag) (mg : Str → Option Value) (base : Heap) (CX : CXT) (k : Nat) (f : Addr) (fd : FuncData) (ps : List Str) (sp : Sp) : Prop where
  len : ∀ vs H Q E, sp vs H Q E → vs.length = ps.length
  run : ∀ (A : Around) (outer : List Env) (s : Shared) (H : Hp) (args : Args) (us : List Value) (vs : List V) (Q : VK) (E : XK), Room k A → Env0 P w K mg base A outer s H → BindsTo s fd args (ps.zip us) → Vals vs us → sp vs H Q E →
    codeAny (model P w) A (.call (.ref f) args) (CR CX outer P w H s Q E) s
theorem FnOk.mono {P : Program} {w : World} {K : PySem.W.Frag} {mg : Str → Option Value} {base : Heap} {CX : CXT} {j k : Nat} {f : Addr} {fd : FuncData} {ps : List Str} {sp : Sp} (F : FnOk P w K mg base CX j f fd ps sp) (h : j ≤ k) :
    FnOk P w K mg base CX k f fd ps sp := ⟨F.len, fun A outer s H args us vs Q E hr => F.run A outer s H args us vs Q E (hr.mono h)⟩
/-- a weaker promise -/
theorem FnOk.imp {P : Program} {w : World} {K : PySem.W.Frag} {mg : Str → Option Value} {base : Heap} {CX : CXT} {k : Nat} {f : Addr} {fd : FuncData} {ps : List Str} {sp sp' : Sp} (F : FnOk P w K mg base CX k f fd ps sp)
    (h : ∀ vs H Q E, sp' vs H Q E → sp vs H Q E) : FnOk P w K mg base CX k f fd ps sp' :=
  ⟨fun vs H Q E q => F.len vs H Q E (h _ _ _ _ q), fun A outer s H args us vs Q E hr he hb hv hs => F.run A outer s H args us vs Q E hr he hb hv (h _ _ _ _ hs)⟩

theorem Env0.in1 {P : Program} {w : World} {K : PySem.W.Frag} {mg : Str → Option Value} {base : Heap} {A : Around} {outer : List Env} {s : Shared} {H : Hp} (e : Env0 P w K mg base A outer s H) :
    Env0 P w K mg base A.in1 outer s H := ⟨e.frames, e.mod, e.bs, e.bsz, e.funs, e.frf, e.hok, e.bare⟩

section
variable {X : Cx} {pins : List (Addr × Obj)} {σ : St} {H : Hp} {s s' : Shared}
/-- from a body: what a callee wants -/
theorem Inv.env0 (I : Inv X pins σ H s) : Env0 X.prog X.w X.K X.mg X.base X.A X.stack s H :=
  ⟨I.ok.frames, I.ok.mod, I.bs, Nat.le_trans I.ok.bsz I.sz, I.stack, I.stkFree, I.hok, I.bare⟩
/-- behind a call -/
theorem Inv.after {Q : VK} {u : Value} (I : Inv X pins σ H s) (h : CE X.stack X.prog X.w H s Q u s') : EP X pins σ Q u s' := by
  obtain ⟨v, H', os, bare, un, hok, r, q⟩ := h
  obtain ⟨hh, g, d, t, os'⟩ := s'
  obtain rfl : os' = s.os := os
  exact ⟨v, H', I.call (h' := hh) (g' := g) (d' := d) (t' := t) (ch := []) un hok bare (fun b z => absurd z (by simp)), r, q⟩
end

/-! ### calls -/
/-- f(..): the written arguments, then the defaults dvs; E: what is wanted of an exception -/
def tCall (sp : Sp) (dvs : List V) (E : XK) (t : TA) : TE := fun σ H Q => t σ H fun vs H1 => sp (vs ++ dvs) H1 Q E
/-- how the parameters are bound: us the positional arguments, kw the keywords' values by name, ds the defaults that fill up -/
def Binds (K : PySem.W.Frag) (fd : FuncData) (ps : List Str) (ds : List Value) : Prop :=
  ∀ (s : Shared) (us : List Value), K.In s.heap → (us ++ ds).length = ps.length → BindsTo s fd ⟨us, []⟩ (ps.zip (us ++ ds))
/-- every parameter is given -/
theorem Binds.all {K : PySem.W.Frag} {fd : FuncData} {ps : List Str} (h : ∀ us : List Value, us.length = ps.length → bindArgs fd ⟨us, []⟩ = pure (ps.zip us)) : Binds K fd ps [] := fun s us _ hl => by
  rw [List.append_nil] at hl ⊢
  exact .of_eq (h us hl)

/-- an exception of a callee reaches what this body wants of exceptions -/
def Passes (CX : CXT) (X : Cx) (E : XK) : Prop := ∀ (pins : List (Addr × Obj)) (σ : St) (H : Hp) (s : Shared) (e : Value) (s' : Shared), Inv X pins σ H s → CX X.stack H s E e s' → X.xe e s'

section
variable {X : Cx} {CX : CXT} {k : Nat} {f C : Addr} {fd : FuncData} {ps : List Str} {sp : Sp} {dvs : List V} {ds : List Value} {E : XK} {x m : Str} {p pos apos : Pos} {e o : Expr} {es : List Expr} {ta : TE} {t : TA}

/-- the callee runs -/
theorem run_fn {pins : List (Addr × Obj)} {σ : St} {H : Hp} {s : Shared} {Q : VK} {us : List Value} {vs : List V} (F : FnOk X.prog X.w X.K X.mg X.base CX k f fd ps sp) (hr : Room k X.A) (hb : Binds X.K fd ps ds) (hd : Vals dvs ds) (hx : Passes CX X E)
    (I : Inv X pins σ H s) (r : Vals vs us) (h : sp (vs ++ dvs) H Q E) : wpAny (model X.prog X.w) X.A (call (.ref f) us) (EP X pins σ Q) X.xe s := by
  have r2 : Vals (vs ++ dvs) (us ++ ds) := r.append hd
  have hl : (us ++ ds).length = ps.length := by rw [← r2.length]; exact F.len _ _ _ _ h
  refine wpAny_call (codeAny_mono (F.run X.A X.stack s H ⟨us, []⟩ (us ++ ds) (vs ++ dvs) Q E hr I.env0 (hb s us I.kIn hl) r2 h) fun r s' hq => ?_)
  cases r with
  | error e => exact hx pins σ H s e s' I hq
  | ok fl =>
    cases fl with
    | ret u => exact I.after hq
    | next => exact False.elim hq
    | brk => exact False.elim hq
    | cont => exact False.elim hq

theorem pe_call (F : FnOk X.prog X.w X.K X.mg X.base CX k f fd ps sp) (hr : Room k X.A) (hg : Gl X x) (hm : X.mg x = some (.ref f)) (hk : PySem.W.keepIn X.K (.ref f) = true) (hb : Binds X.K fd ps ds) (hd : Vals dvs ds) (hx : Passes CX X E)
    (ha : PA X (e :: es) t) (hdb : (x == ("__debug__" : Str)) = false := by decide) (he : starEach (e :: es) X.env = (false, eval e X.env) :: starEach es X.env := by rfl) (hpl : (backTo pos (starEach es X.env)).any (·.1) = false := by rfl) :
    PE X (.Call (.Name x p) (e :: es) [] pos) (tCall sp dvs E t) := by
  intro pins s σ H Q I h
  refine wpAny_Call_Name_kw (ld_glob I hg hm ?_ hdb)
  refine PySem.W.callWith_K (h₀ := X.base) I.ok.mod.kin hk (thn (ha pos pins s σ H _ I h) fun us s1 ⟨vs, H1, I1, r, q⟩ => ⟨I1.kIn, ?_⟩) he hpl
  exact run_fn F hr hb hd hx I1 r q
end

/-! ### keywords -/
section
variable {X : Cx} {CX : CXT} {k : Nat} {f C : Addr} {fd : FuncData} {ps ks : List Str} {sp : Sp} {E : XK} {x m : Str} {p pos apos kpos : Pos} {e o : Expr} {es : List Expr} {kws : List Keyword} {te ta : TE} {t tk : TA} {nm : Option Str}
variable {g : List Value → List Value → List Value} {gV : List V → List V → List V}
end

/-! ### a def's body keeps its promise -/
/-- names: the parameters first -/
structure FnScope (N P : List Str) (sc : Scope) : Prop where
  kind : sc.kind = .function
  co : sc.isCoroutine = false
  gen : sc.isGenerator = false
  nd : N.Nodup
  pre : N.take P.length = P
  par : ∀ x ∈ P, sc.names.lookup x = some .local ∨ sc.names.lookup x = some .cell
  nofree : ∀ y ∈ sc.names, y.2 ≠ .free

theorem bindL_out {kindOf : Str → Option NameKind} {x : Str} : ∀ {binds : List (Str × Value)} {m : Str → Option Value}, (∀ v, (x, v) ∉ binds) → bindL kindOf binds m x = m x
  | [], _, _ => rfl
  | (n, v) :: r, m, h => by
    unfold bindL
    rw [bindL_out fun w hw => h w (List.mem_cons_of_mem _ hw)]
    split
    · have : x ≠ n := by rintro rfl; exact h v List.mem_cons_self
      simp [this]
    · rfl
theorem bindC_out {kindOf : Str → Option NameKind} {x : Str} : ∀ {binds : List (Str × Value)} {m : Str → Option Value}, (∀ v, (x, v) ∉ binds) → bindC kindOf binds m x = m x
  | [], _, _ => rfl
  | (n, v) :: r, m, h => by
    unfold bindC
    rw [bindC_out fun w hw => h w (List.mem_cons_of_mem _ hw)]
    split
    · rfl
    · have : x ≠ n := by rintro rfl; exact h v List.mem_cons_self
      simp [this]
theorem bindL_get {kindOf : Str → Option NameKind} {x : Str} {v : Value} : ∀ {P : List Str} {vs : List Value} {i : Nat} {m : Str → Option Value}, P.Nodup → P[i]? = some x → vs[i]? = some v → kindOf x = some .local →
    bindL kindOf (P.zip vs) m x = some v
  | [], _, _, _, _, h, _, _ => by simp at h
  | _ :: _, [], _, _, _, _, h, _ => by simp at h
  | p :: P, w :: vs, 0, m, nd, h1, h2, hk => by
    simp at h1 h2; subst h1; subst h2
    show bindL kindOf ((p, w) :: P.zip vs) m p = _
    unfold bindL
    rw [bindL_out fun v hv => (List.nodup_cons.mp nd).1 (List.of_mem_zip hv).1, if_pos hk]
    simp
  | p :: P, w :: vs, i + 1, m, nd, h1, h2, hk => by
    show bindL kindOf ((p, w) :: P.zip vs) m x = _
    unfold bindL
    exact bindL_get (i := i) (List.nodup_cons.mp nd).2 (by simpa using h1) (by simpa using h2) hk
theorem bindC_get {kindOf : Str → Option NameKind} {x : Str} {v : Value} : ∀ {P : List Str} {vs : List Value} {i : Nat} {m : Str → Option Value}, P.Nodup → P[i]? = some x → vs[i]? = some v → kindOf x ≠ some .local →
    bindC kindOf (P.zip vs) m x = some v
  | [], _, _, _, _, h, _, _ => by simp at h
  | _ :: _, [], _, _, _, _, h, _ => by simp at h
  | p :: P, w :: vs, 0, m, nd, h1, h2, hk => by
    simp at h1 h2; subst h1; subst h2
    show bindC kindOf ((p, w) :: P.zip vs) m p = _
    unfold bindC
    rw [bindC_out fun v hv => (List.nodup_cons.mp nd).1 (List.of_mem_zip hv).1, if_neg hk]
    simp
  | p :: P, w :: vs, i + 1, m, nd, h1, h2, hk => by
    show bindC kindOf ((p, w) :: P.zip vs) m x = _
    unfold bindC
    exact bindC_get (i := i) (List.nodup_cons.mp nd).2 (by simpa using h1) (by simpa using h2) hk

/-- the names' values at the entry -/
def start (N : List Str) (vs : List V) : St := vs.map some ++ List.replicate (N.length - vs.length) none

/-- the context of a def's body, at its entry; an exception leaves the frame, then lies as CX says -/
def cxOf (CX : CXT) (P : Program) (w : World) (K : PySem.W.Frag) (mg : Str → Option Value) (base : Heap) (N : List Str) (qual : Str) (scope : Scope) (f : Addr) (cd : Value) (A : Around) (outer : List Env) (s : Shared) (H : Hp) (E : XK) : Cx where
  prog := P
  w := w
  K := K
  mg := mg
  base := base
  A := A.deeper (envOfC qual scope s.heap.objs.size f cd)
  N := N
  s₀ := s
  H₀ := H
  env := envOfC qual scope s.heap.objs.size f cd
  outer := outer
  stack := envOfC qual scope s.heap.objs.size f cd :: outer
  ex := []
  calm := true
  fn := fun _ => true
  pn := []
  xe := fun e s' => wpAny (model P w) (A.deeper (envOfC qual scope s.heap.objs.size f cd)) (leaving (envOfC qual scope s.heap.objs.size f cd) e) (fun _ s'' => CX outer H s E e s'') (fun e' s'' => CX outer H s E e' s'') s'

theorem cell_has {sc : Scope} {n : Nat} {x : Str} (h : sc.names.lookup x = some .cell) : ∃ c, (cellsFrom n sc.names []).lookup x = some c := by
  have q := PySem.W.cellsFrom_some sc.names n [] (.inl h)
  exact Option.isSome_iff_exists.mp q

theorem inv_start {CX : CXT} {P : Program} {w : World} {K : PySem.W.Frag} {mg : Str → Option Value} {base : Heap} {N ps : List Str} {qual : Str} {scope : Scope} {f : Addr} {cd : Value} {A : Around} {outer : List Env} {s s1 : Shared} {H : Hp} {E : XK} {us : List Value} {vs : List V}
    (S : FnScope N ps scope) (hd : A.handled = none) (e0 : Env0 P w K mg base A outer s H) (hl : vs.length = ps.length) (r : Vals vs us)
    (x : InCallC s s.heap.objs.size (bindL (envOfC qual scope s.heap.objs.size f cd).kindOf (ps.zip us) fun _ => none) (cellsFrom (s.heap.objs.size + 1) scope.names []) (bindC (envOfC qual scope s.heap.objs.size f cd).kindOf (ps.zip us) fun _ => none) s1) :
    Inv (cxOf CX P w K mg base N qual scope f cd A outer s H E) [] (start N vs) H s1 := by
  have hpl : ps.length ≤ N.length := by have := congrArg List.length S.pre; rw [List.length_take] at this; omega
  obtain ⟨h1, tk, rfl, hk⟩ := x.done
  have noA : ∀ b : Addr, b ∉ (cxOf CX P w K mg base N qual scope f cd A outer s H E).ex := fun b z => absurd (show b ∈ ([] : List Addr) from z) (by simp)
  refine ⟨⟨e0.mod, S.kind, rfl, rfl, Nat.le_refl _, fun y z c h1 h2 => ?_, fun y hy => ?_, fun y c _ h => ?_, fun _ => hd, Around.frames_deeper e0.frames, .inr ⟨rfl, rfl⟩, fun b z => absurd z (noA b), e0.bs, e0.bsz, fun b _ _ => noA b, fun b z => absurd z (noA b), e0.funs, e0.frf⟩,
    rfl, e0.bare, Un.kept hk, ⟨_, x.toInCall.ns, fun i y v h1 h2 h3 => ?_⟩, fun y c h => ⟨_, x.cell y c h⟩, e0.hok.fresh (Nat.le_refl _), fun y c h => ?_, fun p hp => absurd (show p ∈ ([] : List (Addr × Obj)) from hp) (by simp), e0.hok.kept hk, ?_⟩
  · exact name_of_addr x.apart (PySem.mem_of_lookup h1) (PySem.mem_of_lookup h2)
  · have hy : scope.names.lookup y = some .cell ∨ scope.names.lookup y = some .free := hy
    rcases hy with hy | hy
    · exact cell_has hy
    · exact absurd rfl (S.nofree _ (PySem.mem_of_lookup hy))
  · exact Nat.le_of_lt (x.above y c (PySem.mem_of_lookup h))
  · have hi : i < vs.length := by
      unfold start at h2
      by_cases hi : i < vs.length
      · exact hi
      · rw [List.getElem?_append_right (by simpa using hi)] at h2
        rw [List.getElem?_replicate] at h2
        split at h2 <;> cases h2
    have ha : vs[i]? = some v := by
      unfold start at h2
      rw [List.getElem?_append_left (by simpa using hi), List.getElem?_map] at h2
      cases e : vs[i]? with
      | none => rw [e] at h2; cases h2
      | some a => rw [e] at h2; cases h2; rfl
    obtain ⟨u, hu, rv⟩ := r.get ha
    have hp : ps[i]? = some y := by
      rw [← S.pre, List.getElem?_take_of_lt (by omega)]; exact h1
    have ndP : ps.Nodup := by rw [← S.pre]; exact S.nd.sublist (List.take_sublist _ _)
    refine ⟨u, rv, ?_⟩
    rcases S.par y (List.mem_of_getElem? hp) with k | k
    · exact .inl ⟨k, bindL_get ndP hp hu k⟩
    · obtain ⟨c, e⟩ := cell_has (n := s.heap.objs.size + 1) k
      refine .inr ⟨.inl k, c, e, ?_⟩
      have q := x.cell y c e
      rw [bindC_get ndP hp hu (by show scope.names.lookup y ≠ _; rw [k]; decide)] at q
      exact q
  · exact e0.hok.fresh (Nat.le_of_lt (x.above y c (PySem.mem_of_lookup h)))
  · unfold start
    show _ = N.length
    rw [List.length_append, List.length_map, List.length_replicate]
    omega

/-- THE RULE: a def (or a method) of the text, by its body. The body's reading t is chosen for each entry; it is run at the parameters' values -/
theorem fn_of {CX : CXT} {P : Program} {w : World} {K : PySem.W.Frag} {mg : Str → Option Value} {base : Heap} {k : Nat} {f : Addr} {name qual : Str} {params : Arguments} {body : List Stmt} {scope : Scope} {dV kV doc pm cdv ct oc : Value} {an od : Option Addr}
    {osl : Array (Option Value)} {N ps : List Str} {sp : Sp} (lk : K.lookup f = some ⟨oc, od, .func (PySem.W.fnOf name qual params body scope dV kV doc pm an cdv ct), osl⟩) (hcd : PySem.W.codeIn K cdv qual = true) (S : FnScope N ps scope)
    (len : ∀ vs H Q E, sp vs H Q E → vs.length = ps.length)
    (hbody : ∀ (A : Around) (outer : List Env) (s : Shared) (H : Hp) (vs : List V) (Q : VK) (E : XK), Room k (A.deeper (envOfC qual scope s.heap.objs.size f cdv)) → sp vs H Q E →
      ∃ t, PSs (cxOf CX P w K mg base N qual scope f cdv A outer s H E) body t ∧ t { nx := fun _ H' => Q .non H', rt := Q } (start N vs) H) :
    FnOk P w K mg base CX (k + 1) f (PySem.W.fnOf name qual params body scope dV kV doc pm an cdv ct) ps sp := by
  refine ⟨len, fun A outer s H args us vs Q E hr e0 hb r hsp => ?_⟩
  have hl := len _ _ _ _ hsp
  have KX : K.In s.heap := e0.mod.kin.keeps fun b o e => (e0.bs b o e).1
  have lim : s.heap.NoLimit := e0.mod.nolimit.keeps fun b o e => (e0.bs b o e).1
  have hkind : ∀ y ∈ ps.zip us, scope.names.lookup y.1 = some .local ∨ (scope.names.lookup y.1 = some .cell ∧ ((cellsFrom (s.heap.objs.size + 1) scope.names []).lookup y.1).isSome = true) := fun ⟨n, v⟩ hy => by
    rcases S.par n (List.of_mem_zip hy).1 with q | q
    · exact .inl q
    · exact .inr ⟨q, PySem.W.cellsFrom_some _ _ _ (.inl q)⟩
  refine codeAny_call_function hr.depth (KX _ _ lk) rfl S.co S.gen rfl (PySem.W.codeRec_of KX hcd) (hb _ _ _ _ ?_)
  refine wpAny_newFunctionEnv_cells S.kind hkind fun env he s1 x => ?_
  subst he
  refine ⟨lim.keeps x.toInCall.keep, codeAny_func ?_⟩
  obtain ⟨t, ht, hq⟩ := hbody A outer s H vs Q E (hr.deeper _) hsp
  have I : Inv (cxOf CX P w K mg base N qual scope f cdv A outer s H E) [] (start N vs) H s1 := inv_start S hr.hd e0 hl r x
  refine wpAny_mono (ht [] s1 (start N vs) H _ I hq) (fun fl s' hs => ?_) fun e s' hs => hs
  have fin : ∀ {σ' : St} {H' : Hp} {v : V} {u : Value}, Inv (cxOf CX P w K mg base N qual scope f cdv A outer s H E) [] σ' H' s' → RelV v u → Q v H' → CE outer P w H s Q u s' :=
    fun {σ' H' v u} J rv q => ⟨v, H', J.os, J.bare, J.base, J.hok, rv, q⟩
  cases fl with
  | ret u =>
    obtain ⟨v, σ', H', J, rv, q⟩ := hs
    exact fin J rv q
  | next =>
    obtain ⟨σ', H', J, q⟩ := hs
    exact fin (v := V.non) (u := Value.none) J rfl q
  | brk =>
    obtain ⟨_, _, _, q⟩ := hs
    exact False.elim q
  | cont =>
    obtain ⟨_, _, _, q⟩ := hs
    exact False.elim q
end L2

namespace L2
open PySem PySem.Spec PyProof.Rows
section
variable {X : Cx} {x : Str} {p pos : Pos} {e : Expr} {es : List Expr} {t : TA} {id T : String} {r : List V → Hp → VK → Prop}

def tCB (r : List V → Hp → VK → Prop) (t : TA) : TE := fun σ H Q => t σ H fun vs H1 => r vs H1 Q
/-- f(e, ..), f a built-in function -/
theorem pe_callB (hc : CallR X (.builtin id) r) (hg : Gl X x) (hm : X.mg x = none) (hv : bootBuiltins x = some (.builtin id)) (ha : PA X (e :: es) t) (hn : x ≠ "__name__" := by decide) (hdb : (x == ("__debug__" : Str)) = false := by decide)
    (he : starEach (e :: es) X.env = (false, eval e X.env) :: starEach es X.env := by rfl) (hpl : (backTo pos (starEach es X.env)).any (·.1) = false := by rfl) : PE X (.Call (.Name x p) (e :: es) [] pos) (tCB r t) := by
  intro pins s σ H Q I h
  refine wpAny_Call_Name_kw (ld_blt I hg hm hv ?_ hn hdb)
  exact PyProof.Rows.callWith_builtin1 (thn (ha pos pins s σ H _ I h) fun us s1 ⟨vs, H1, I1, r1, q1⟩ => hc pins s1 σ H1 vs us Q I1 r1 q1) he hpl
/-- T(e, ..), T a built-in type -/
theorem pe_callTy (hc : CallR X (.type T) r) (hg : Gl X x) (hm : X.mg x = none) (hv : bootBuiltins x = some (.type T)) (ha : PA X (e :: es) t) (hn : x ≠ "__name__" := by decide) (hdb : (x == ("__debug__" : Str)) = false := by decide)
    (he : starEach (e :: es) X.env = (false, eval e X.env) :: starEach es X.env := by rfl) (hpl : (backTo pos (starEach es X.env)).any (·.1) = false := by rfl) : PE X (.Call (.Name x p) (e :: es) [] pos) (tCB r t) := by
  intro pins s σ H Q I h
  refine wpAny_Call_Name_kw (ld_blt I hg hm hv ?_ hn hdb)
  exact PyProof.Rows.callWith_type1 (thn (ha pos pins s σ H _ I h) fun us s1 ⟨vs, H1, I1, r1, q1⟩ => hc pins s1 σ H1 vs us Q I1 r1 q1) he hpl
end
end L2

namespace HT
open PySem PyProof.Rows

section
open PySem.SeqAt
open PySem.AutoSeq1 (wpAny_loadPart')
open PySem.MeetsSeq PySem.MeetsSeq2 PySem.MeetsSeq3

end

section
variable {prog : Program} {w : World} {A : Around} {E : Value → Shared → Prop} {s : Shared}

/-! ### t[a:b], not the whole -/
/-- a slice's bound as a place among n (d where it is left out) -/
def sIx (n d : Nat) : Option Int → Nat
  | none => d
  | some v => if v < 0 then (v + (n : Int)).toNat else min v.toNat n
theorem sIx_none (n d : Nat) : sIx n d none = d := rfl
theorem sIx_nat (n d k : Nat) : sIx n d (some (k : Int)) = min k n := by
  show (if (k : Int) < 0 then ((k : Int) + (n : Int)).toNat else min (k : Int).toNat n) = min k n
  rw [if_neg (by omega), Int.toNat_natCast]
theorem sIx_le (n d : Nat) (hd : d ≤ n) (o : Option Int) : sIx n d o ≤ n := by
  cases o with
  | none => exact hd
  | some v =>
    show (if v < 0 then (v + (n : Int)).toNat else min v.toNat n) ≤ n
    by_cases hv : v < 0
    · rw [if_pos hv]; omega
    · rw [if_neg hv]; exact Nat.min_le_right _ _
theorem clip_eq (v : Int) (n d : Nat) : (if v < 0 then max (v + (n : Int)) 0 else min v (n : Int)) = ((sIx n d (some v) : Nat) : Int) := by
  show (if v < 0 then max (v + (n : Int)) 0 else min v (n : Int)) = (((if v < 0 then (v + (n : Int)).toNat else min v.toNat n) : Nat) : Int)
  by_cases hv : v < 0
  · simp only [if_pos hv]; omega
  · simp only [if_neg hv]; omega
theorem adjust_gen (lo hi : Option Int) (n : Nat) : Builtin.Slice.sliceAdjust lo hi 1 (n : Int) = (((sIx n 0 lo : Nat) : Int), ((sIx n n hi : Nat) : Int)) := by
  have h1 : ¬ ((1 : Int) < 0) := by omega
  unfold Builtin.Slice.sliceAdjust
  simp only [h1, if_false]
  refine Prod.ext ?_ ?_
  · cases lo with
    | none => rfl
    | some v => exact clip_eq v n 0
  · cases hi with
    | none => rfl
    | some v => exact clip_eq v n n
theorem places_gen (i j : Nat) : Builtin.Slice.slicePlaces (i : Int) (j : Int) 1 = j - i := by
  unfold Builtin.Slice.slicePlaces
  have h1 : (1 : Int) > 0 := by omega
  simp only [h1, if_true, Int.ediv_one]
  split <;> omega
theorem slicePart_ {v : Value} {o : Option Int} {Q : Option Int → Shared → Prop} (p : IsPart v o) (h : Q o s) : wpAny (model prog w) A (Builtin.Slice.slicePartIndex v) Q E s := by
  cases p with
  | none => exact slicePart_none h
  | int i t => exact slicePart_int h
theorem sliceApplied_gen {sl : Addr} {vl vu : Value} {lo hi : Option Int} {n : Nat} {Q : Int × Int × Nat → Shared → Prop} (hs : s.heap.IsSliceOf sl vl vu .none) (pl : IsPart vl lo) (pu : IsPart vu hi)
    (h : Q (((sIx n 0 lo : Nat) : Int), 1, sIx n n hi - sIx n 0 lo) s) : wpAny (model prog w) A (Builtin.Slice.sliceApplied (.ref sl) (pure (n : Int))) Q E s := by
  obtain ⟨os, hos, hcs, hds⟩ := id hs
  unfold Builtin.Slice.sliceApplied Builtin.Slice.sliceFields
  refine wpAny_bind (wpAny_bind (wpAny_field hos hds (x := vl) rfl (wpAny_bind (wpAny_field hos hds (x := vu) rfl (wpAny_bind (wpAny_field hos hds (x := .none) rfl (wpAny_pure ?_)))))))
  refine wpAny_bind (slicePart_none ?_)
  show wpAny _ _ (if ((1 : Int) == 0) = true then _ else _) _ _ s
  rw [if_neg (by decide)]
  refine wpAny_bind (slicePart_ pl (wpAny_bind (slicePart_ pu (wpAny_bind (wpAny_pure ?_)))))
  show wpAny _ _ (match Builtin.Slice.sliceAdjust lo hi 1 (n : Int) with | (lo, hi) => pure (lo, (1 : Int), Builtin.Slice.slicePlaces lo hi 1)) _ _ s
  rw [adjust_gen lo hi n]
  show wpAny _ _ (pure (((sIx n 0 lo : Nat) : Int), (1 : Int), Builtin.Slice.slicePlaces ((sIx n 0 lo : Nat) : Int) ((sIx n n hi : Nat) : Int) 1)) _ _ s
  rw [places_gen]
  exact wpAny_pure h
theorem pick_gen (xs : Array Value) (i k : Nat) : ((List.range k).filterMap fun (m : Nat) => xs[((i : Int) + (m : Int) * 1).toNat]?).toArray = ((xs.toList.drop i).take k).toArray := by
  have e : (fun (m : Nat) => xs[((i : Int) + (m : Int) * 1).toNat]?) = fun m => xs[i + m]? := by
    funext m
    have : ((i : Int) + (m : Int) * 1).toNat = i + m := by omega
    rw [this]
  rw [e]
  have := pick_run xs i k
  rw [List.filterMap_map] at this
  have e2 : ((fun x => xs[x]?) ∘ fun x => i + x) = fun m => xs[i + m]? := rfl
  rw [e2] at this
  rw [this]

theorem getItem_tuple_cut {t sl : Addr} {items : Array Value} {vl vu : Value} {lo hi : Option Int} {Q : Value → Shared → Prop} (ht : IsTup s.heap t items) (hs : s.heap.IsSliceOf sl vl vu .none) (pl : IsPart vl lo) (pu : IsPart vu hi)
    (hw : ¬ (sIx items.size 0 lo = 0 ∧ sIx items.size items.size hi = items.size))
    (h : Q (.ref s.heap.objs.size) { s with heap := s.heap.push { cls := .type "tuple", data := .seq ((items.toList.drop (sIx items.size 0 lo)).take (sIx items.size items.size hi - sIx items.size 0 lo)).toArray } })
    (hsz : items.size ≤ sizeLine) : wpAny (model prog w) A (getItem (.ref t) (.ref sl)) Q E s := by
  have htake : sizeOk (.seq ((items.toList.drop (sIx items.size 0 lo)).take (sIx items.size items.size hi - sIx items.size 0 lo)).toArray) := by
    show ((items.toList.drop (sIx items.size 0 lo)).take (sIx items.size items.size hi - sIx items.size 0 lo)).toArray.size ≤ sizeLine
    rw [List.size_toArray, List.length_take, List.length_drop, Array.length_toList]
    omega
  have hj : sIx items.size items.size hi ≤ items.size := sIx_le _ _ (Nat.le_refl _) hi
  obtain ⟨os, hos, hcs, hds⟩ := id hs
  have hTs : s.TypeIs (.ref sl) "slice" := ⟨os, hos, hcs⟩
  unfold getItem
  try with_reducible refine wpAny_holding ?_
  first | refine wpAny_bind (wpAny_pure ?_) | skip
  refine wpAny_bind (wpAny_sequenceKey ht.typeIs (by decide) ?_)
  refine wpAny_bind (wpAny_callSpecial?_slot (name := Str.ofString "__getitem__") ht.typeIs PyProof.Rows.slot_tuple_getitem
    (wpAny_call_entry PyProof.Rows.slot_tuple_getitem ht.typeIs entry_tuple_getitem ?_ (args_tuple_getitem _ _)))
  show wpAny _ _ (Builtin.Tuple.tupleItemsOf (.ref t) >>= _) _ _ s
  refine wpAny_bind (tupleItemsOf_ ht ?_)
  refine wpAny_bind (wpAny_typeOf hTs ?_)
  rw [if_pos (by decide)]
  refine wpAny_bind (sliceApplied_gen hs pl pu ?_)
  have hno : ¬ ((((sIx items.size 0 lo : Nat) : Int) == 0 && (1 : Int) == 1 && (sIx items.size items.size hi - sIx items.size 0 lo) == items.size) = true) := by
    intro q
    rw [Bool.and_eq_true, Bool.and_eq_true] at q
    have q1 : ((sIx items.size 0 lo : Nat) : Int) = 0 := eq_of_beq q.1.1
    have q2 : sIx items.size items.size hi - sIx items.size 0 lo = items.size := eq_of_beq q.2
    exact hw ⟨by omega, by omega⟩
  show wpAny _ _ (if (((sIx items.size 0 lo : Nat) : Int) == 0 && (1 : Int) == 1 && (sIx items.size items.size hi - sIx items.size 0 lo) == items.size) = true then _ else _) _ _ s
  rw [if_neg hno, pick_gen]
  first
    | exact wpAny_bind (m := Builtin.Tuple.tupleExact _) (wpAny_newObj_type (wpAny_pure ⟨_, rfl, wpAny_pure h⟩) htake)
    | exact wpAny_bind (m := Builtin.Tuple.tupleExact _) (wpAny_newObj_type (wpAny_bind (wpAny_pure (wpAny_pure ⟨_, rfl, wpAny_pure h⟩))) htake)
    | exact wpAny_bind (wpAny_bind (m := Builtin.Tuple.tupleExact _) (wpAny_newObj_type (wpAny_pure (wpAny_pure ⟨_, rfl, wpAny_pure h⟩)) htake))
    | exact wpAny_bind (wpAny_bind (m := Builtin.Tuple.tupleExact _) (wpAny_newObj_type (wpAny_pure ⟨_, rfl, wpAny_pure h⟩) htake))
end
end HT

namespace L2
open PySem PySem.Spec PyProof.Rows

/-! ### the parts of a slice -/
abbrev TO := St → Hp → (Option Int → Hp → Prop) → Prop
/-- a slice's part (left out, or an int) -/
def PO (X : Cx) (e : Option Expr) (t : TO) : Prop :=
  ∀ (pins : List (Addr × Obj)) (s : Shared) (σ : St) (H : Hp) (Q : Option Int → Hp → Prop), Inv X pins σ H s → t σ H Q →
    wpAny (model X.prog X.w) X.A (evalPart e X.env) (fun u s' => ∃ o H', Inv X pins σ H' s' ∧ IsPart u o ∧ Q o H') X.xe s
def tPart (t : TE) : TO := fun σ H Q => t σ H fun x H1 => ∃ i, x = .int i ∧ Q (some i) H1

theorem intsAre_of {ns : List Int} : ∀ {us : List Value}, Vals (ns.map V.int) us → IntsAre us ns := by
  induction ns with
  | nil => intro us r; rw [List.map_nil] at r; cases r; exact .nil
  | cons n ns ih =>
    intro us r
    rw [List.map_cons] at r
    cases r with
    | cons r1 r2 =>
      obtain ⟨t, e⟩ := r1
      subst e
      exact .cons n t (ih r2)

section
variable {X : Cx} {e : Expr} {te : TE} {lo hi : Option Expr} {tl th : TO} {pos p2 : Pos}

theorem po_some (h : PE X e te) : PO X (some e) (tPart te) := by
  intro pins s σ H Q I hw
  rw [evalPart_some]
  refine thn (h pins s σ H _ I hw) fun u s1 ⟨x, H1, I1, r1, q1⟩ => ?_
  obtain ⟨i, rfl, q⟩ := q1
  obtain ⟨t, rfl⟩ := r1
  exact ⟨some i, H1, I1, .int i t, q⟩

/-- what a slice of a value is, by values: the slice object stands at sl -/
def SlR (X : Cx) (r : V → Option Int → Option Int → Hp → VK → Prop) : Prop :=
  ∀ (pins : List (Addr × Obj)) (s : Shared) (σ : St) (H : Hp) (x : V) (v vl vu : Value) (lo hi : Option Int) (sl : Addr) (Q : VK), Inv X pins σ H s → RelV x v → s.heap.IsSliceOf sl vl vu .none → IsPart vl lo → IsPart vu hi → r x lo hi H Q →
    ∃ T id, typeLookup (.type T) "__getitem__" = pure (some (.builtin id)) ∧ s.TypeIs v T ∧ wpAny (model X.prog X.w) X.A (getItem v (.ref sl)) (EP X pins σ Q) X.xe s
theorem SlR.or {r r' : V → Option Int → Option Int → Hp → VK → Prop} (h : SlR X r) (h' : SlR X r') : SlR X (fun x lo hi H Q => r x lo hi H Q ∨ r' x lo hi H Q) := by
  intro pins s σ H x v vl vu lo hi sl Q I rx hs pl pu q
  rcases q with q | q
  · exact h pins s σ H x v vl vu lo hi sl Q I rx hs pl pu q
  · exact h' pins s σ H x v vl vu lo hi sl Q I rx hs pl pu q
def tSl (r : V → Option Int → Option Int → Hp → VK → Prop) (te : TE) (tl th : TO) : TE := fun σ H Q => te σ H fun x H1 => tl σ H1 fun l H2 => th σ H2 fun u H3 => r x l u H3 Q
/-- a[lo:hi], any a -/
theorem pe_slice {r : V → Option Int → Option Int → Hp → VK → Prop} (hr : SlR X r) (he : PE X e te) (hl : PO X lo tl) (hu : PO X hi th) : PE X (.Subscript e (.Slice lo hi none p2) pos) (tSl r te tl th) := by
  intro pins s σ H Q I h
  refine Subscript_ (thn (he pins s σ H _ I h) fun v s1 ⟨x, H1, I1, r1, q1⟩ => ?_)
  refine wpAny_Slice (thn (hl pins s1 σ H1 _ I1 q1) fun vl s2 ⟨l, H2, I2, pl, q2⟩ => thn (hu pins s2 σ H2 _ I2 q2) fun vu s3 ⟨u, H3, I3, pu, q3⟩ => ?_)
  rw [evalPart_none]
  refine wpAny_pure ?_
  have I4 : Inv X pins σ H3 { s3 with heap := s3.heap.push { cls := .type "slice", data := .fields #[vl, vu, .none] } } := I3.kept (t' := s3.toks) fun b ob q => Heap.get?_push_of_some _ q
  obtain ⟨T, id, hT, ht, hg⟩ := hr pins { s3 with heap := s3.heap.push { cls := .type "slice", data := .fields #[vl, vu, .none] } } σ H3 x v vl vu l u s3.heap.objs.size Q I4 r1 (Heap.IsSliceOf.new ..) pl pu q3
  show wpAny (model X.prog X.w) X.A (subscriptTail e (.Slice lo hi none p2) v (.ref s3.heap.objs.size)) (EP X pins σ Q) X.xe { s3 with heap := s3.heap.push { cls := .type "slice", data := .fields #[vl, vu, .none] } }
  exact tail_any (ops := [.ref s3.heap.objs.size, v]) ht hT hg (by with_unfolding_all rfl)

/-- the items of xs[lo:hi] -/
def cutV (xs : List V) (lo hi : Option Int) : List V := (xs.drop (HT.sIx xs.length 0 lo)).take (HT.sIx xs.length xs.length hi - HT.sIx xs.length 0 lo)
theorem cutV_length (xs : List V) (lo hi : Option Int) : (cutV xs lo hi).length ≤ xs.length := by
  unfold cutV
  rw [List.length_take, List.length_drop]
  omega
/-- t[lo:hi], not the whole of it (the whole would be t itself) -/
def rSlT (K : PySem.W.Frag) : V → Option Int → Option Int → Hp → VK → Prop := fun x lo hi H Q => ∃ a xs, x = .ref a ∧ SqT K H a xs ∧
  ¬ (HT.sIx xs.length 0 lo = 0 ∧ HT.sIx xs.length xs.length hi = xs.length) ∧ ∀ p, H p = none → Q (.ref p) (upd H p (.tup (cutV xs lo hi)))
theorem sl_tup : SlR X (rSlT X.K) := by
  intro pins s σ H x v vl vu lo hi sl Q I rx hs pl pu h
  obtain ⟨a, xs, rfl, hx, hw, q⟩ := h
  cases rx
  obtain ⟨its, r, ht, hz⟩ := I.tuple hx
  have hlen : its.toArray.size = xs.length := by rw [List.size_toArray]; exact r.length.symm
  refine ⟨"tuple", _, PyProof.Rows.slot_tuple_getitem.lookup, ht.typeIs, ?_⟩
  refine HT.getItem_tuple_cut ht hs pl pu (by rw [hlen]; exact hw) ?_ (by rw [hlen]; exact hz)
  rw [hlen]
  refine ⟨.ref s.heap.objs.size, _, I.laid (t' := s.toks) (o := .tup (cutV xs lo hi)) (fun b ob q => Heap.get?_push_of_some _ q) (Nat.le_refl _) ?_, rfl, q _ (I.hok.fresh (Nat.le_refl _))⟩
  exact ⟨Nat.le_trans (cutV_length xs lo hi) hz, _, (r.drop (HT.sIx xs.length 0 lo)).take (HT.sIx xs.length xs.length hi - HT.sIx xs.length 0 lo), IsTup.new _ _⟩

/-! ### t < u, t + u -/
end
end L2

namespace L2
open PySem PySem.Spec PyProof.Rows

/-! ### places -/
/-- the place that an index of any sign means -/
def ixN (n : Nat) (i : Int) : Option Nat := if 0 ≤ i then (if i < n then some i.toNat else none) else if -(n : Int) ≤ i then some (i + n).toNat else none
def atI {α : Type} (xs : List α) (i : Int) : Option α := (ixN xs.length i).bind fun j => xs[j]?
theorem ixN_seq {n : Nat} {i : Int} {j : Nat} (h : ixN n i = some j) : seqIndex? i n = some j ∧ j < n ∧ -(n : Int) ≤ i ∧ i < n := by
  unfold ixN at h
  by_cases h0 : 0 ≤ i
  · rw [if_pos h0] at h
    by_cases h1 : i < n
    · rw [if_pos h1] at h
      have e : i.toNat = j := Option.some.inj h
      exact ⟨by rw [seqIndex_of h0 h1, e], by omega, by omega, h1⟩
    · rw [if_neg h1] at h; cases h
  · rw [if_neg h0] at h
    by_cases h1 : -(n : Int) ≤ i
    · rw [if_pos h1] at h
      have e : (i + n).toNat = j := Option.some.inj h
      exact ⟨by rw [seqIndex_neg (by omega) h1, e], by omega, h1, by omega⟩
    · rw [if_neg h1] at h; cases h
theorem atI_get {α : Type} {xs : List α} {i : Int} {v : α} (h : atI xs i = some v) : ∃ j, seqIndex? i xs.length = some j ∧ xs[j]? = some v ∧ j < xs.length ∧ -(xs.length : Int) ≤ i ∧ i < xs.length := by
  unfold atI at h
  cases e : ixN xs.length i with
  | none => rw [e] at h; cases h
  | some j =>
    rw [e] at h
    obtain ⟨h1, h2, h3, h4⟩ := ixN_seq e
    exact ⟨j, h1, h, h2, h3, h4⟩
theorem atI_last {α : Type} (xs : List α) (v : α) : atI (xs ++ [v]) (-1) = some v := by
  have hl : (xs ++ [v]).length = xs.length + 1 := by simp
  have e : ixN (xs ++ [v]).length (-1) = some xs.length := by
    unfold ixN
    rw [hl, if_neg (by decide), if_pos (by omega)]
    congr 1
    omega
  unfold atI
  rw [e]
  show (xs ++ [v])[xs.length]? = some v
  simp

/-! ### what may be subscripted -/
/-- what stands as an index of a plain subscript -/
def PlainIx (b : Expr) : Prop := ∀ o i, subscripted b false o i = operate [o, i] (getItem o i)
/-- a subscript by values -/
def IxR (X : Cx) (r : R2) : Prop :=
  ∀ (value slice : Expr) (pins : List (Addr × Obj)) (s : Shared) (σ : St) (H : Hp) (x y : V) (v u : Value) (Q : VK), Inv X pins σ H s → RelV x v → RelV y u → r x y H Q →
    subscripted slice false v u = operate [v, u] (getItem v u) → wpAny (model X.prog X.w) X.A (subscriptTail value slice v u) (EP X pins σ Q) X.xe s
/-- a call of a builtin's method by values: the receiver, the arguments -/
def MtR (X : Cx) (id : String) (r : V → List V → Hp → VK → Prop) : Prop :=
  ∀ (pins : List (Addr × Obj)) (s : Shared) (σ : St) (H : Hp) (x : V) (xs : List V) (v : Value) (us : List Value) (Q : VK), Inv X pins σ H s → RelV x v → Vals xs us → r x xs H Q →
    wpAny (model X.prog X.w) X.A (call (.builtin id) (v :: us)) (EP X pins σ Q) X.xe s
section
variable {X : Cx} {a b : Expr} {ta tb : TE} {pos : Pos}
theorem IxR.or {r r' : R2} (h : IxR X r) (h' : IxR X r') : IxR X (fun x y H Q => r x y H Q ∨ r' x y H Q) := by
  intro value slice pins s σ H x y v u Q I rx ry q hs
  rcases q with q | q
  · exact h value slice pins s σ H x y v u Q I rx ry q hs
  · exact h' value slice pins s σ H x y v u Q I rx ry q hs
theorem MtR.or {id : String} {r r' : V → List V → Hp → VK → Prop} (h : MtR X id r) (h' : MtR X id r') : MtR X id (fun x xs H Q => r x xs H Q ∨ r' x xs H Q) := by
  intro pins s σ H x xs v us Q I rx rs q
  rcases q with q | q
  · exact h pins s σ H x xs v us Q I rx rs q
  · exact h' pins s σ H x xs v us Q I rx rs q
/-- a[b] -/
theorem pe_ix {r : R2} (hr : IxR X r) (ha : PE X a ta) (hb : PE X b tb) (hs : PlainIx b) : PE X (.Subscript a b pos) (tOp r ta tb) := by
  intro pins s σ H Q I h
  exact Subscript_ (binT ha hb I h fun v u s2 x y H2 I2 rx ry q => hr a b pins s2 σ H2 x y v u Q I2 rx ry q (hs _ _))

def rIxL (K : PySem.W.Frag) : R2 := fun x y H Q => ∃ p xs i v, x = .ref p ∧ y = .int i ∧ SqL K H p xs ∧ atI xs i = some v ∧ Q v H
def rIxT (K : PySem.W.Frag) : R2 := fun x y H Q => ∃ p xs i v, x = .ref p ∧ y = .int i ∧ SqT K H p xs ∧ atI xs i = some v ∧ Q v H
def rIxS : R2 := fun x y H Q => ∃ z i c, x = .str z ∧ y = .int i ∧ z.length ≤ sizeLine ∧ atI z.cps.toList i = some c ∧ Q (.str ⟨#[c]⟩) H
theorem ix_list : IxR X (rIxL X.K) := by
  intro value slice pins s σ H x y v u Q I rx ry h hs
  obtain ⟨p, xs, i, z, rfl, rfl, hq, he, q⟩ := h
  cases rx
  obtain ⟨t, rfl⟩ := ry
  obtain ⟨its, r, pl, hz⟩ := I.list hq
  obtain ⟨j, h1, h2, h3, h4, h5⟩ := atI_get he
  obtain ⟨w, ew, rw'⟩ := r.get h2
  have hl := r.length
  have hn := line63
  have fin : EP X pins σ Q w s := ⟨z, H, I, rw', q⟩
  by_cases h0 : 0 ≤ i
  · have hj : i.toNat = j := by
      rw [seqIndex_of h0 h5] at h1
      exact Option.some.inj h1
    exact item_listR pl.isList h0 (by omega) (by rw [hj]; simpa using ew) fin hs
  · have hj : (i + (its.toArray.size : Int)).toNat = j := by
      rw [seqIndex_neg (by omega) h4] at h1
      rw [List.size_toArray, ← hl]
      exact Option.some.inj h1
    exact subscriptTail_builtinR (x := w) pl.isList.typeIs slot_list_getitem.lookup
      (wpAny_getItem_list_neg (Q := fun r s' => r = w ∧ EP X pins σ Q r s') pl.isList (by omega) (by rw [List.size_toArray] <;> omega) (by omega) (by rw [hj]; simpa using ew) ⟨rfl, fin⟩) hs
theorem ix_tup : IxR X (rIxT X.K) := by
  intro value slice pins s σ H x y v u Q I rx ry h hs
  obtain ⟨p, xs, i, z, rfl, rfl, hq, he, q⟩ := h
  cases rx
  obtain ⟨t, rfl⟩ := ry
  obtain ⟨its, r, pl, hz⟩ := I.tuple hq
  obtain ⟨j, h1, h2, h3, h4, h5⟩ := atI_get he
  obtain ⟨w, ew, rw'⟩ := r.get h2
  have hl := r.length
  have hn := line63
  have fin : EP X pins σ Q w s := ⟨z, H, I, rw', q⟩
  exact subscriptTail_builtinR (x := w) pl.typeIs slot_tuple_getitem.lookup
    (getItem_tuple (j := j) (Q := fun r s' => r = w ∧ EP X pins σ Q r s') pl (by omega) (by omega) (by rw [List.size_toArray, ← hl]; exact h1) (by simpa using ew) ⟨rfl, fin⟩) hs
theorem ix_str : IxR X rIxS := by
  intro value slice pins s σ H x y v u Q I rx ry h hs
  obtain ⟨z, i, c, rfl, rfl, hz, he, q⟩ := h
  obtain ⟨t, rfl⟩ := rx
  obtain ⟨t', rfl⟩ := ry
  obtain ⟨j, h1, h2, h3, h4, h5⟩ := atI_get he
  have hl : z.cps.toList.length = z.length := by simp [Str.length]
  rw [hl] at h1 h4 h5
  have hn := line63
  exact tail_any (typeIs_str s z t) slot_str_getitem.lookup (getItem_str (c := c) (by
    have e1 : decide (i < -(2 ^ 63 : Int)) = false := decide_eq_false (by omega)
    have e2 : decide (i ≥ 2 ^ 63) = false := decide_eq_false (by omega)
    rw [e1, e2, Bool.or_false]) (by rw [h1]; simpa using h2) ⟨.str ⟨#[c]⟩, H, I.tok _, ⟨_, rfl⟩, q⟩) hs
/-- list, tuple or str -/
def rIx (K : PySem.W.Frag) : R2 := fun x y H Q => rIxL K x y H Q ∨ rIxT K x y H Q ∨ rIxS x y H Q
theorem ix_seq : IxR X (rIx X.K) := ix_list.or (ix_tup.or ix_str)

/-! ### xs[i] = v, any sign -/
theorem Inv.lst {pins : List (Addr × Obj)} {σ : St} {H : Hp} {s : Shared} {p : Addr} {xs : List V} (I : Inv X pins σ H s) (h : H p = some (.lst xs)) :
    ∃ (its : List Value) (n : Nat), Vals xs its ∧ s.heap.get? p = some { cls := .type "list", data := .seq its.toArray n } ∧ xs.length ≤ sizeLine := by
  obtain ⟨z, its, n, r, e⟩ := I.hok p _ h
  exact ⟨its, n, r, e, z⟩
/-! ### slices -/
theorem slice_bounds (lo hi : Option Int) (n : Nat) : (sliceBounds lo hi none n).1 = ((HT.sIx n 0 lo : Nat) : Int) ∧ (sliceBounds lo hi none n).2.1 = ((HT.sIx n n hi : Nat) : Int) ∧ (sliceBounds lo hi none n).2.2 = 1 := by
  refine ⟨?_, ?_, rfl⟩
  · cases lo with
    | none => simp [sliceBounds, HT.sIx]
    | some i =>
      simp only [sliceBounds, HT.sIx, Option.getD_none, show (1 : Int) > 0 by decide, if_true]
      by_cases h : i < 0
      · simp only [h, if_true] <;> omega
      · simp only [h, if_false] <;> omega
  · cases hi with
    | none => simp [sliceBounds, HT.sIx]
    | some i =>
      simp only [sliceBounds, HT.sIx, Option.getD_none, show (1 : Int) > 0 by decide, if_true]
      by_cases h : i < 0
      · simp only [h, if_true] <;> omega
      · simp only [h, if_false] <;> omega
theorem slicePick_cut (its : List Value) (lo hi : Option Int) : slicePick its.toArray lo hi none = ((its.drop (HT.sIx its.length 0 lo)).take (HT.sIx its.length its.length hi - HT.sIx its.length 0 lo)).toArray := by
  obtain ⟨h1, h2, h3⟩ := slice_bounds lo hi its.toArray.size
  unfold slicePick
  rw [h1, h2, h3]
  simp only [sliceRange_one, pick_run, List.size_toArray] <;> rfl
/-- xs[lo:hi] of a list: a new list -/
def rSlL (K : PySem.W.Frag) : V → Option Int → Option Int → Hp → VK → Prop := fun x lo hi H Q => ∃ a xs, x = .ref a ∧ SqL K H a xs ∧ ∀ p, H p = none → Q (.ref p) (upd H p (.lst (cutV xs lo hi)))
theorem sl_list : SlR X (rSlL X.K) := by
  intro pins s σ H x v vl vu lo hi sl Q I rx hs pl pu h
  obtain ⟨a, xs, rfl, hx, q⟩ := h
  cases rx
  obtain ⟨its, r, ht, hz⟩ := I.list hx
  have hlen := r.length
  refine ⟨"list", _, slot_list_getitem.lookup, ht.isList.typeIs, ?_⟩
  refine wpAny_getItem_list_slice ht.isList hs pl pu .none (by simp) ?_ (by rw [List.size_toArray] <;> omega)
  rw [slicePick_cut, ← hlen]
  refine ⟨.ref s.heap.objs.size, _, I.laid (t' := s.toks) (o := .lst (cutV xs lo hi)) (fun b ob q => Heap.get?_push_of_some _ q) (Nat.le_refl _) ?_, rfl, q _ (I.hok.fresh (Nat.le_refl _))⟩
  exact ⟨Nat.le_trans (cutV_length xs lo hi) hz, _, 0, (r.drop (HT.sIx xs.length 0 lo)).take (HT.sIx xs.length xs.length hi - HT.sIx xs.length 0 lo), Heap.get?_push_size _ rfl⟩

/-! ### in, not in: flat items -/
def flatV : V → Bool
  | .non => true
  | .bl _ => true
  | .int _ => true
  | .str _ => true
  | _ => false
/-- == of flat values -/
def eqV : V → V → Bool
  | .non, .non => true
  | .bl a, .bl b => a == b
  | .bl a, .int b => (if a then 1 else 0) == b
  | .int a, .bl b => a == (if b then 1 else 0)
  | .int a, .int b => a == b
  | .str a, .str b => a == b
  | _, _ => false
theorem eqAt_V {A : Around} {s : Shared} {y x : V} {u v : Value} (ry : RelV y u) (rx : RelV x v) (fy : flatV y = true) (fx : flatV x = true) : SeqAt.EqAt A s u v (eqV y x) := by
  cases y with
  | non =>
    cases ry
    cases x with
    | non => cases rx; exact SeqAt.EqAt.same _
    | bl b => cases rx; exact SeqAt.EqAt.none_bool b
    | int b => obtain ⟨t, rfl⟩ := rx; exact SeqAt.EqAt.none_int b t
    | str b => obtain ⟨t, rfl⟩ := rx; exact SeqAt.EqAt.none_str b t
    | _ => exact absurd (show false = true from fx) Bool.false_ne_true
  | bl a =>
    cases ry
    cases x with
    | non => cases rx; exact SeqAt.EqAt.bool_none a
    | bl b => cases rx; exact SeqAt.EqAt.bool_bool a b
    | int b => obtain ⟨t, rfl⟩ := rx; exact SeqAt.EqAt.bool_int a b t
    | str b => obtain ⟨t, rfl⟩ := rx; exact SeqAt.EqAt.bool_str a b t
    | _ => exact absurd (show false = true from fx) Bool.false_ne_true
  | int a =>
    obtain ⟨t', rfl⟩ := ry
    cases x with
    | non => cases rx; exact SeqAt.EqAt.int_none a t'
    | bl b => cases rx; exact SeqAt.EqAt.int_bool a t' b
    | int b => obtain ⟨t, rfl⟩ := rx; exact SeqAt.EqAt.int_int a t' b t
    | str b => obtain ⟨t, rfl⟩ := rx; exact SeqAt.EqAt.int_str a t' b t
    | _ => exact absurd (show false = true from fx) Bool.false_ne_true
  | str a =>
    obtain ⟨t', rfl⟩ := ry
    cases x with
    | non => cases rx; exact SeqAt.EqAt.str_none a t'
    | bl b => cases rx; exact SeqAt.EqAt.str_bool a t' b
    | int b => obtain ⟨t, rfl⟩ := rx; exact SeqAt.EqAt.str_int a t' b t
    | str b => obtain ⟨t, rfl⟩ := rx; exact SeqAt.EqAt.str_str a t' b t
    | _ => exact absurd (show false = true from fx) Bool.false_ne_true
  | _ => exact absurd (show false = true from fy) Bool.false_ne_true
/-! ### len, list(x), tuple(x) of any list or tuple that is read -/
theorem call_len_seq : CallR X (.builtin "len") (fun xs H Q => ∃ p ys, xs = [.ref p] ∧ (SqL X.K H p ys ∨ SqT X.K H p ys) ∧ Q (.int ys.length) H) := by
  intro pins s σ H xs us Q I r h
  obtain ⟨p, ys, rfl, hq, q⟩ := h
  obtain ⟨u, rfl, rx⟩ := vals1 r
  cases rx
  have hn := line63
  rcases hq with hq | hq
  · obtain ⟨its, r', pl, hz⟩ := I.list hq
    have hlen := r'.length
    exact Calls.call_len_list pl.isList (by simp only [List.size_toArray] <;> omega) ⟨.int ys.length, H, I.tok _, ⟨s.toks + 1, by rw [List.size_toArray, hlen]⟩, q⟩
  · obtain ⟨its, r', pl, hz⟩ := I.tuple hq
    have hlen := r'.length
    exact len_tuple pl (by simp only [List.size_toArray] <;> omega) ⟨.int ys.length, H, I.tok _, ⟨s.toks + 1, by rw [List.size_toArray, hlen]⟩, q⟩
theorem CallR.or {f : Value} {r r' : List V → Hp → VK → Prop} (h : CallR X f r) (h' : CallR X f r') : CallR X f (fun xs H Q => r xs H Q ∨ r' xs H Q) := by
  intro pins s σ H xs us Q I rs q
  rcases q with q | q
  · exact h pins s σ H xs us Q I rs q
  · exact h' pins s σ H xs us Q I rs q
theorem call_list_of : CallR X (.type "list") (fun xs H Q => ∃ p ys, xs = [.ref p] ∧ (SqL X.K H p ys ∨ SqT X.K H p ys) ∧ ∀ l, H l = none → Q (.ref l) (upd H l (.lst ys))) := by
  intro pins s σ H xs us Q I r h
  obtain ⟨p, ys, rfl, hq, q⟩ := h
  obtain ⟨u, rfl, rx⟩ := vals1 r
  cases rx
  have fin : ∀ (its : List Value), Vals ys its → ys.length ≤ sizeLine → ∀ (h' : Heap) (c' : Nat), (∀ b o', s.heap.get? b = some o' → h'.get? b = some o') →
      h'.get? s.heap.objs.size = some { cls := .type "list", dict := none, data := .seq its.toArray c', slots := #[] } → EP X pins σ Q (.ref s.heap.objs.size) { s with heap := h' } := fun its r' hz h' c' kp e =>
    ⟨.ref s.heap.objs.size, _, I.laid (t' := s.toks) kp (Nat.le_refl _) (show ObjOk X.prog X.w _ h' _ (.lst ys) from ⟨hz, its, c', r', e⟩), rfl, q _ (I.hok.fresh (Nat.le_refl _))⟩
  rcases hq with hq | hq
  · obtain ⟨its, r', pl, hz⟩ := I.list hq
    have hlen := r'.length
    obtain ⟨o, ho, hc, n, hd⟩ := pl.isList
    exact call_list_seq p (.inl rfl) ho hc hd (fun h' c' kp e => fin its r' hz h' c' kp e) (by simp only [List.size_toArray] <;> omega)
  · obtain ⟨its, r', pl, hz⟩ := I.tuple hq
    have hlen := r'.length
    obtain ⟨o, ho, hc, n, hd⟩ := pl
    exact call_list_seq p (.inr rfl) ho hc hd (fun h' c' kp e => fin its r' hz h' c' kp e) (by simp only [List.size_toArray] <;> omega)
theorem call_tuple_of : CallR X (.type "tuple") (fun xs H Q => ∃ p ys, xs = [.ref p] ∧ ((SqL X.K H p ys ∧ ∀ l, H l = none → Q (.ref l) (upd H l (.tup ys))) ∨ (SqT X.K H p ys ∧ Q (.ref p) H))) := by
  intro pins s σ H xs us Q I r h
  obtain ⟨p, ys, rfl, h⟩ := h
  obtain ⟨u, rfl, rx⟩ := vals1 r
  cases rx
  rcases h with ⟨hq, q⟩ | ⟨hq, q⟩
  · obtain ⟨its, r', pl, hz⟩ := I.list hq
    have hlen := r'.length
    refine call_tuple_list pl.isList (fun h' kp => ?_) (by simp only [List.size_toArray] <;> omega)
    have I1 : Inv X pins σ H { s with heap := h' } := I.kept (t' := s.toks) kp
    have I2 : Inv X pins σ (upd H h'.objs.size (.tup ys)) { s with heap := h'.push { cls := .type "tuple", data := .seq its.toArray } } :=
      I1.laid (t' := s.toks) (fun b o e => Heap.get?_push_of_some _ e) (Nat.le_refl _) (show ObjOk X.prog X.w _ _ _ (.tup ys) from ⟨hz, its, r', IsTup.new _ _⟩)
    exact ⟨.ref h'.objs.size, _, I2, rfl, q _ (I1.hok.fresh (Nat.le_refl _))⟩
  · obtain ⟨its, r', pl, hz⟩ := I.tuple hq
    exact call_tuple_same pl ⟨.ref p, H, I, rfl, q⟩

/-! ### the call of a builtin's method: o.m(..) -/
/-- the value is of that builtin type -/
def tyV (K : PySem.W.Frag) (T : String) (x : V) (H : Hp) : Prop := match x with
  | .str _ => T = "str"
  | .int _ => T = "int"
  | .ref p => (T = "list" ∧ ∃ xs, SqL K H p xs) ∨ (T = "tuple" ∧ ∃ o, K.lookup p = some o ∧ o.cls = .type "tuple" ∧ o.dict = none) ∨
      (T = "dict" ∧ ((∃ kvs, H p = some (.dK kvs)) ∨ ∃ kvs, H p = some (.dT kvs))) ∨ (T = "set" ∧ ∃ S n, H p = some (.set S n))
  | _ => False
theorem tyV_is {pins : List (Addr × Obj)} {σ : St} {H : Hp} {s : Shared} {T : String} {x : V} {v : Value} (I : Inv X pins σ H s) (r : RelV x v) (ty : tyV X.K T x H) :
    s.TypeIs v T ∧ ∀ a, v = .ref a → ∃ ob, s.heap.get? a = some ob ∧ ob.dict = none := by
  cases x with
  | str z =>
    obtain ⟨t, rfl⟩ := r
    cases (show T = "str" from ty)
    exact ⟨typeIs_str s z t, fun _ e => nomatch e⟩
  | int i =>
    obtain ⟨t, rfl⟩ := r
    cases (show T = "int" from ty)
    exact ⟨typeIs_int s i t, fun _ e => nomatch e⟩
  | ref p =>
    cases r
    rcases ty with ⟨rfl, xs, hq⟩ | ⟨rfl, o, hk, hc, hd⟩ | ⟨rfl, hk⟩ | ⟨rfl, S, n, hk⟩
    · obtain ⟨its, _, pl, _⟩ := I.list hq
      refine ⟨pl.isList.typeIs, fun a e => ?_⟩
      cases e
      obtain ⟨o, n, e, c, hd, _⟩ := pl
      exact ⟨o, e, hd⟩
    · refine ⟨⟨o, I.kIn p o hk, hc⟩, fun a e => ?_⟩
      cases e
      exact ⟨o, I.kIn _ o hk, hd⟩
    · have z : ∃ o, s.heap.get? p = some o ∧ o.ExactDict := by
        rcases hk with ⟨kvs, hk⟩ | ⟨kvs, hk⟩
        · obtain ⟨_, _, _, _, o, _, _, e, ex, _⟩ := I.hok p _ hk
          exact ⟨o, e, ex⟩
        · obtain ⟨_, _, _, _, o, _, _, e, ex, _⟩ := I.hok p _ hk
          exact ⟨o, e, ex⟩
      obtain ⟨o, e, ex⟩ := z
      refine ⟨⟨o, e, ex.1⟩, fun a e2 => ?_⟩
      cases e2
      exact ⟨o, e, ex.2.1⟩
    · obtain ⟨o, _, _, _, e, ex, _⟩ := I.hok p _ hk
      refine ⟨⟨o, e, ex.1⟩, fun a e2 => ?_⟩
      cases e2
      exact ⟨o, e, ex.2.1⟩
  | _ => exact False.elim ty
def tBM (K : PySem.W.Frag) (T : String) (r : V → List V → Hp → VK → Prop) (to : TE) (t : TA) : TE := fun σ H Q => to σ H fun x H1 => tyV K T x H1 ∧ t σ H1 fun xs H2 => r x xs H2 Q
variable {o e : Expr} {es : List Expr} {to : TE} {t : TA} {name : Str} {apos cpos : Pos} {T id : String} {r : V → List V → Hp → VK → Prop}
theorem pe_bm (pa : PlainAttrs T) (slot : Slot T name id) (hty : typeOf (.builtin id) = pure (.type "method_descriptor")) (hm : MtR X id r) (ho : PE X o to) (ha : PA X (e :: es) t)
    (hbase : attributeBase o name X.env (eval o X.env) = eval o X.env := by rfl)
    (hfew : ((backTo cpos (starEach (e :: es) X.env)).all (fun x => !x.1) && (backToKw cpos (keywordEach [] X.env)).all (fun x => x.1.isSome)
      && decide ((e :: es).length + ([] : List Keyword).length + (if ([] : List Keyword).isEmpty then 0 else 1) < 30)) = true := by rfl)
    (hline : (apos.endLine == cpos.line) = true := by rfl) (hs : starEach (e :: es) X.env = (false, eval e X.env) :: starEach es X.env := by rfl) (hplain : (backTo cpos (starEach es X.env)).any (·.1) = false := by rfl) :
    PE X (.Call (.Attribute o name apos) (e :: es) [] cpos) (tBM X.K T r to t) := by
  intro pins s σ H Q I h
  refine wpAny_Call_method_late hbase hfew hline rfl (thn (ho pins s σ H _ I h) fun v s1 ⟨x, H1, I1, r1, ty, q1⟩ => ?_)
  obtain ⟨h1, h2⟩ := tyV_is I1 r1 ty
  refine ⟨T, id, pa, slot, hty, h1, h2, ?_⟩
  have hA := ha cpos pins s1 σ H1 _ I1 q1
  rw [hs] at hA ⊢
  refine Calls.callWith_builtin (by show (false || (backTo cpos (starEach es X.env)).any (·.1)) = false; rw [hplain] <;> rfl) (Calls.evalArgs_plain ?_)
  exact thn hA fun us s2 ⟨vs, H2, I2, r2, q2⟩ => hm pins s2 σ H2 x vs v us Q I2 r1 r2 q2
/- xs.append(e), list.index on a module's tuple .. are MtR facts of 06m -/
end
end L2

namespace L2
open PySem PySem.Spec PyProof.Rows

def MtM (X : Cx) (id : String) (r : V → List V → Hp → VK → Prop) : Prop :=
  ∀ (pins : List (Addr × Obj)) (s : Shared) (σ : St) (H : Hp) (x : V) (xs : List V) (v : Value) (us : List Value) (Q : VK), Inv X pins σ H s → RelV x v → Vals xs us → r x xs H Q →
    wpAny (model X.prog X.w) X.A (call (.builtin id) (v :: us)) (EP X pins σ Q) X.xe s

/-! ### lists of values -/
theorem Vals.one : ∀ {x : V} {us : List Value}, Vals [x] us → ∃ u, us = [u] ∧ RelV x u
  | _, _, .cons r .nil => ⟨_, rfl, r⟩
theorem Vals.two : ∀ {x y : V} {us : List Value}, Vals [x, y] us → ∃ u v, us = [u, v] ∧ RelV x u ∧ RelV y v
  | _, _, _, .cons r (.cons q .nil) => ⟨_, _, rfl, r, q⟩
theorem Vals.zero : ∀ {us : List Value}, Vals [] us → us = []
  | _, .nil => rfl
theorem Vals.rep {xs : List V} {us : List Value} (h : Vals xs us) : ∀ k : Nat, Vals (List.replicate k xs).flatten (List.replicate k us).flatten
  | 0 => .nil
  | k + 1 => by
    rw [List.replicate_succ, List.replicate_succ, List.flatten_cons, List.flatten_cons]
    exact Vals.append h (Vals.rep h k)
section
variable {X : Cx} {pins : List (Addr × Obj)} {σ : St} {H : Hp} {s : Shared} {l b : Addr} {xs ys zs : List V}

/-! ### the two steps: a tracked list is rewritten, a new list is laid -/
theorem Inv.lset {its its' : List Value} {n : Nat} {f : Array Value → Array Value} {t' : Nat} (I : Inv X pins σ H s) (hH : H l = some (.lst xs))
    (e : s.heap.get? l = some { cls := .type "list", data := .seq its.toArray n }) (hf : f its.toArray = its'.toArray) (hv : Vals ys its') (hz : ys.length ≤ sizeLine) :
    Inv X pins σ (upd H l (.lst ys)) { s with heap := s.heap.update l (Obj.mapSeq f), toks := t' } := by
  have q := PySem.IsL.update e f
  rw [hf] at q
  refine I.write (x := l) (e := l) (by rw [hH]; exact trivial) (.inl rfl) (fun b' u hb hu => (Heap.get?_update_other s.heap (Obj.mapSeq f) (Ne.symm hb)).trans hu) ⟨_, q⟩ ?_
  exact ⟨hz, its', _, hv, q⟩
theorem Inv.lnew {its : List Value} {t' : Nat} (I : Inv X pins σ H s) (hv : Vals ys its) (hz : ys.length ≤ sizeLine) :
    Inv X pins σ (upd H s.heap.objs.size (.lst ys)) { s with heap := s.heap.push { cls := .type "list", data := .seq its.toArray }, toks := t' } :=
  I.laid (fun _ _ q => Heap.get?_push_of_some _ q) (Nat.le_refl _) ⟨hz, its, 0, hv, Heap.get?_push_size _ rfl⟩
theorem Inv.fresh (I : Inv X pins σ H s) : H s.heap.objs.size = none := I.hok.fresh (Nat.le_refl _)
theorem Inv.lstM (I : Inv X pins σ H s) (hH : H l = some (.lst xs)) : xs.length ≤ sizeLine ∧ ∃ (its : List Value) (n : Nat), Vals xs its ∧ xs.length = its.length ∧ s.heap.get? l = some { cls := .type "list", data := .seq its.toArray n } := by
  obtain ⟨z, its, n, r, e⟩ := I.hok l _ hH
  exact ⟨z, its, n, r, r.length, e⟩

end

section
variable {X : Cx}

/-! ### methods -/
def rAppend : V → List V → Hp → VK → Prop := fun x vs H Q => ∃ l xs y, x = .ref l ∧ vs = [y] ∧ H l = some (.lst xs) ∧ xs.length < sizeLine ∧ Q .non (upd H l (.lst (xs ++ [y])))
theorem mt_append : MtM X "list.append" rAppend := by
  intro pins s σ H x vs v us Q I rx rv h
  obtain ⟨l, xs, y, rfl, rfl, hH, hz, q⟩ := h
  cases rx
  obtain ⟨u, rfl, ru⟩ := rv.one
  obtain ⟨z, its, n, r, hl, e⟩ := I.lstM hH
  refine call_meets F.slot_list_append ⟨_, e, rfl⟩ F.entry_list_append (F.args_list_append_2 _ _) (PySem.list_append l its.toArray n u (by rw [List.size_toArray]; omega)) ⟨e, ?_⟩
  refine ⟨.non, _, I.lset (its' := its ++ [u]) hH e (by simp) (r.append (.cons ru .nil)) ?_, rfl, q⟩
  rw [List.length_append, List.length_singleton]
  omega

/-! ### list + list, list += list, list * int -/
def rCat : R2 := fun x y H Q => ∃ l b xs zs, x = .ref l ∧ y = .ref b ∧ H l = some (.lst xs) ∧ H b = some (.lst zs) ∧ xs.length + zs.length ≤ sizeLine ∧ ∀ p, H p = none → Q (.ref p) (upd H p (.lst (xs ++ zs)))
theorem op_cat : OpR X (binaryOp .Add) rCat := by
  intro pins s σ H x y v u Q I rx ry h
  obtain ⟨l, b, xs, zs, rfl, rfl, hH, hB, hz, q⟩ := h
  cases rx
  cases ry
  obtain ⟨z, its, n, r, hl, e⟩ := I.lstM hH
  obtain ⟨z2, its2, n2, r2, hl2, e2⟩ := I.lstM hB
  refine PySem.P.add_list e e2 ?_ (by rw [List.size_toArray, List.size_toArray]; omega)
  have ea : its.toArray ++ its2.toArray = (its ++ its2).toArray := by simp
  rw [ea]
  exact ⟨.ref _, _, I.lnew (t' := s.toks) (r.append r2) (by rw [List.length_append]; omega), rfl, q _ I.fresh⟩
/-! ### del xs[i] -/
end

/-! ### xs[a:b] = ys -/
section
variable {prog : Program} {w : World} {A : Around} {E : Value → Shared → Prop} {s : Shared}
set_option maxRecDepth 100000 in
end

section
variable {X : Cx}
end
end L2


namespace L2
open PySem PySem.Spec PyProof.Rows

/-! ### lists of pairs as tables -/
section
variable {κ : Type} [DecidableEq κ]
def valV (kvs : List (κ × V)) (k : κ) : Option V := (kvs.find? fun kv => decide (kv.1 = k)).map (·.2)
/-- in its place, or at the end -/
def putK (kvs : List (κ × V)) (k : κ) (v : V) : List (κ × V) :=
  if (kvs.any fun kv => decide (kv.1 = k)) = true then kvs.map (fun kv => if kv.1 = k then (kv.1, v) else kv) else kvs ++ [(k, v)]
def dropK (kvs : List (κ × V)) (k : κ) : List (κ × V) := kvs.filter fun kv => decide (kv.1 ≠ k)

theorem valV_pos {p : κ × V} {r : List (κ × V)} {k : κ} (e : p.1 = k) : valV (p :: r) k = some p.2 := by simp [valV, List.find?_cons, e]
theorem valV_neg {p : κ × V} {r : List (κ × V)} {k : κ} (e : ¬ p.1 = k) : valV (p :: r) k = valV r k := by simp [valV, List.find?_cons, e]
theorem valV_any (k : κ) : ∀ kvs : List (κ × V), (kvs.any fun kv => decide (kv.1 = k)) = (valV kvs k).isSome
  | [] => rfl
  | p :: r => by
    rw [List.any_cons]
    by_cases e : p.1 = k
    · simp only [valV_pos e, decide_eq_true e, Bool.true_or, Option.isSome_some]
    · rw [valV_neg e, decide_eq_false e, Bool.false_or]; exact valV_any k r
theorem length_putK (kvs : List (κ × V)) (k : κ) (v : V) : (putK kvs k v).length ≤ kvs.length + 1 := by
  unfold putK
  split
  · rw [List.length_map]; omega
  · rw [List.length_append, List.length_cons, List.length_nil]; omega
theorem RelO.isSome_eq {o : Option V} {u : Option Value} (r : RelO o u) : o.isSome = u.isSome := by
  cases o with
  | none => cases u with
    | none => rfl
    | some _ => exact (show False from r).elim
  | some _ => cases u with
    | none => exact (show False from r).elim
    | some _ => rfl
theorem RelO.getD {o : Option V} {u : Option Value} {d : V} {d' : Value} (r : RelO o u) (rd : RelV d d') : RelV (o.getD d) (u.getD d') := by
  cases o with
  | none => cases u with
    | none => exact rd
    | some _ => exact (show False from r).elim
  | some _ => cases u with
    | none => exact (show False from r).elim
    | some _ => exact r

/-- raw tables of the same keys -/
theorem KV.val {kvs : List (κ × V)} {vs : List (κ × Value)} (r : KV kvs vs) (k : κ) : RelO (valV kvs k) (valueAt vs k) := by
  unfold KV at r
  induction r with
  | nil => exact True.intro
  | @cons p q ps qs h t ih =>
    obtain ⟨h1, h2⟩ := h
    by_cases e : p.1 = k
    · have e' : q.1 = k := h1.symm.trans e
      have b : valueAt (q :: qs) k = some q.2 := by simp [valueAt, List.find?_cons, e']
      rw [valV_pos e, b]; exact h2
    · have e' : ¬ q.1 = k := fun z => e (h1.trans z)
      have b : valueAt (q :: qs) k = valueAt qs k := by simp [valueAt, List.find?_cons, e']
      rw [valV_neg e, b]; exact ih
theorem KV.any {kvs : List (κ × V)} {vs : List (κ × Value)} (r : KV kvs vs) (k : κ) : (kvs.any fun kv => decide (kv.1 = k)) = vs.any fun kv => decide (kv.1 = k) := by
  unfold KV at r
  induction r with
  | nil => rfl
  | cons h t ih => rw [List.any_cons, List.any_cons, ih, h.1]
theorem KV.repl {kvs : List (κ × V)} {vs : List (κ × Value)} (r : KV kvs vs) (k : κ) {y : V} {u : Value} (ry : RelV y u) :
    KV (kvs.map fun kv => if kv.1 = k then (kv.1, y) else kv) (vs.map fun kv => if kv.1 = k then (kv.1, u) else kv) := by
  unfold KV at r ⊢
  induction r with
  | nil => exact .nil
  | @cons p q ps qs h t ih =>
    rw [List.map_cons, List.map_cons]
    refine .cons ?_ ih
    obtain ⟨h1, h2⟩ := h
    by_cases e : p.1 = k
    · rw [if_pos e, if_pos (h1.symm.trans e)]; exact ⟨h1, ry⟩
    · rw [if_neg e, if_neg (fun z => e (h1.trans z))]; exact ⟨h1, h2⟩
theorem KV.put {kvs : List (κ × V)} {vs : List (κ × Value)} (r : KV kvs vs) (k : κ) {y : V} {u : Value} (ry : RelV y u) : KV (putK kvs k y) (stored vs k u) := by
  unfold putK stored
  rw [r.any k]
  by_cases e : (vs.any fun kv => decide (kv.1 = k)) = true
  · rw [if_pos e, if_pos e]; exact r.repl k ry
  · rw [if_neg e, if_neg e]; exact Paired.snoc r ⟨rfl, ry⟩
theorem KV.drop {kvs : List (κ × V)} {vs : List (κ × Value)} (r : KV kvs vs) (k : κ) : KV (dropK kvs k) (without vs k) := by
  unfold KV at r ⊢
  unfold dropK without
  induction r with
  | nil => exact .nil
  | @cons p q ps qs h t ih =>
    obtain ⟨h1, h2⟩ := h
    rw [List.filter_cons, List.filter_cons]
    by_cases e : p.1 = k
    · have a : ¬ decide (p.1 ≠ k) = true := by simp [e]
      have b : ¬ decide (q.1 ≠ k) = true := by simp [h1.symm.trans e]
      rw [if_neg a, if_neg b]; exact ih
    · have e' : ¬ q.1 = k := fun z => e (h1.trans z)
      have a : decide (p.1 ≠ k) = true := by simp [e]
      have b : decide (q.1 ≠ k) = true := by simp [e']
      rw [if_pos a, if_pos b]; exact .cons ⟨h1, h2⟩ ih
theorem KV.keys {kvs : List (κ × V)} {vs : List (κ × Value)} (r : KV kvs vs) : kvs.map (·.1) = vs.map (·.1) := by
  unfold KV at r
  induction r with
  | nil => rfl
  | cons h t ih => rw [List.map_cons, List.map_cons, ih, h.1]
theorem KV.length {kvs : List (κ × V)} {vs : List (κ × Value)} (r : KV kvs vs) : kvs.length = vs.length := Paired.length r
end


/-! ### a tracked dict, its keys ints and texts or tuples of these -/
theorem kV_is {P : Program} {w : World} {k : Key} {u : Value} (r : RelV (kV k) u) : (mixKind P w).is k u = true := by
  cases k with
  | inl i => obtain ⟨t, e⟩ := (show ∃ t, u = Value.int i t from r); subst e; exact mixKind_int P w i t
  | inr x => obtain ⟨t, e⟩ := (show ∃ t, u = Value.str x t from r); subst e; exact mixKind_str P w x t
theorem items_are {P : Program} {w : World} : ∀ {ks : List Key} {us : List Value}, Vals (ks.map kV) us → ItemsAre (mixKind P w) ks us
  | [], _, r => by rw [List.map_nil] at r; cases r; exact .nil
  | k :: ks, _, r => by
    rw [List.map_cons] at r
    cases r with
    | cons h t => exact .cons (kV_is h) (items_are t)

/-- raw entries of a dict with tuple keys -/
abbrev KT (H : Hp) : List (List Key × V) → List (List Key × Addr × Value) → Prop := Paired fun p q => p.1 = q.1 ∧ H q.2.1 = some (.tup (p.1.map kV)) ∧ RelV p.2 q.2.2
theorem KT.val {H : Hp} {kvs : List (List Key × V)} {xs : List (List Key × Addr × Value)} (r : KT H kvs xs) (k : List Key) : RelO (valV kvs k) ((atKey xs k).map (·.2)) := by
  induction r with
  | nil => exact True.intro
  | @cons p q ps qs h t ih =>
    obtain ⟨h1, _, h2⟩ := h
    by_cases e : p.1 = k
    · have e' : q.1 = k := h1.symm.trans e
      have b : atKey (q :: qs) k = some q.2 := by simp [atKey, List.find?_cons, e']
      rw [valV_pos e, b]; exact h2
    · have e' : ¬ q.1 = k := fun z => e (h1.trans z)
      have b : atKey (q :: qs) k = atKey qs k := by simp [atKey, List.find?_cons, e']
      rw [valV_neg e, b]; exact ih
theorem KT.repl {H : Hp} {kvs : List (List Key × V)} {xs : List (List Key × Addr × Value)} (r : KT H kvs xs) (k : List Key) {y : V} {u : Value} (ry : RelV y u) :
    KT H (kvs.map fun kv => if kv.1 = k then (kv.1, y) else kv) (xs.map (putAt k u)) := by
  induction r with
  | nil => exact .nil
  | @cons p q ps qs h t ih =>
    rw [List.map_cons, List.map_cons]
    refine .cons ?_ ih
    obtain ⟨h1, h2, h3⟩ := h
    unfold putAt
    by_cases e : p.1 = k
    · rw [if_pos e, if_pos (h1.symm.trans e)]; exact ⟨h1, h2, ry⟩
    · rw [if_neg e, if_neg (fun z => e (h1.trans z))]; exact ⟨h1, h2, h3⟩
theorem KT.put {H : Hp} {kvs : List (List Key × V)} {xs : List (List Key × Addr × Value)} (r : KT H kvs xs) (k : List Key) {b : Addr} {y : V} {u : Value} (hb : H b = some (.tup (k.map kV))) (ry : RelV y u) :
    KT H (putK kvs k y) (storedH xs k b u) := by
  have e : (kvs.any fun kv => decide (kv.1 = k)) = (atKey xs k).isSome := by
    rw [valV_any, (r.val k).isSome_eq, Option.isSome_map]
  unfold putK storedH
  rw [e]
  by_cases q : (atKey xs k).isSome = true
  · rw [if_pos q, if_pos q]; exact r.repl k ry
  · rw [if_neg q, if_neg q]; exact Paired.snoc r ⟨rfl, hb, ry⟩
theorem KT.keeps {H H' : Hp} {kvs : List (List Key × V)} {xs : List (List Key × Addr × Value)} (r : KT H kvs xs) (ht : ∀ b ys, H b = some (.tup ys) → H' b = some (.tup ys)) : KT H' kvs xs :=
  Paired.mapP r fun _ _ z => ⟨z.1, ht _ _ z.2.1, z.2.2⟩

section
variable {P : Program} {w : World} {H : Hp} {h : Heap} {a : Addr}
theorem rd_of {u : HO} (ok : HOk P w H h) (e : Rd H a u) : ObjOk P w H h a u := e.ok ok
theorem dk_rd {kvs : List (Key × V)} (ok : HOk P w H h) (e : Rd H a (.dK kvs)) : kvs.length ≤ sizeLine ∧ (a == sysModules) = false ∧ ∃ vs, KV kvs vs ∧ h.DictOf (mixKind P w) a vs :=
  show ObjOk P w H h a (.dK kvs) from rd_of ok e
theorem dk_of {kvs : List (Key × V)} (ok : HOk P w H h) (e : H a = some (.dK kvs)) : kvs.length ≤ sizeLine ∧ (a == sysModules) = false ∧ ∃ vs, KV kvs vs ∧ h.DictOf (mixKind P w) a vs := dk_rd ok (.inl e)
/-- a tracked tuple of ints and texts is a key -/
theorem key_of {ks : List Key} (ok : HOk P w H h) (e : H a = some (.tup (ks.map kV))) : (tupleKind (mixKind P w)).is h ks a := by
  obtain ⟨_, its, r, o, h1, h2, n, h3⟩ := (show ObjOk P w H h a (.tup (ks.map kV)) from ok a _ e)
  exact ⟨o, its.toArray, n, h1, h2, h3, by simpa using items_are r⟩
theorem dt_rd {kvs : List (List Key × V)} (ok : HOk P w H h) (e : Rd H a (.dT kvs)) : kvs.length ≤ sizeLine ∧ (a == sysModules) = false ∧
    ∃ xs, KT H kvs xs ∧ h.DictOfH (tupleKind (mixKind P w)) a xs := by
  obtain ⟨z, y, xs, r, o, es, ep, h1, h2, h3, h4, h5⟩ := (show ObjOk P w H h a (.dT kvs) from rd_of ok e)
  refine ⟨z, y, xs, r, o, es, ep, h1, h2, h3, h4, fun x hx => ?_, h5⟩
  have all : ∀ {l : List (List Key × V)} {m : List (List Key × Addr × Value)}, KT H l m → ∀ x ∈ m, (tupleKind (mixKind P w)).is h x.1 x.2.1 := by
    intro l m q
    induction q with
    | nil => intro x hx; exact nomatch hx
    | @cons p q ps qs hq t ih =>
      intro x hx
      rcases List.mem_cons.mp hx with e | hx
      · subst e
        exact key_of ok (by rw [← hq.1]; exact hq.2.1)
      · exact ih x hx
  exact all r x hx
theorem dt_of {kvs : List (List Key × V)} (ok : HOk P w H h) (e : H a = some (.dT kvs)) : kvs.length ≤ sizeLine ∧ (a == sysModules) = false ∧
    ∃ xs, KT H kvs xs ∧ h.DictOfH (tupleKind (mixKind P w)) a xs := dt_rd ok (.inl e)
end

/-- what the dict at a holds at the key y -/
def DGet (H : Hp) (a : Addr) (y : V) (r : Option V) : Prop :=
  (∃ kvs k, Rd H a (.dK kvs) ∧ y = kV k ∧ r = valV kvs k) ∨ ∃ kvs k b, Rd H a (.dT kvs) ∧ y = .ref b ∧ H b = some (.tup (k.map kV)) ∧ r = valV kvs k
/-- the heap behind a[y] = v -/
def DPut (H : Hp) (a : Addr) (y v : V) (H' : Hp) : Prop :=
  (∃ kvs k, H a = some (.dK kvs) ∧ y = kV k ∧ kvs.length < sizeLine ∧ H' = upd H a (.dK (putK kvs k v))) ∨
  ∃ kvs k b, H a = some (.dT kvs) ∧ y = .ref b ∧ H b = some (.tup (k.map kV)) ∧ kvs.length < sizeLine ∧ H' = upd H a (.dT (putK kvs k v))
theorem DGet.k {H : Hp} {a : Addr} {kvs : List (Key × V)} {k : Key} (e : H a = some (.dK kvs)) : DGet H a (kV k) (valV kvs k) := .inl ⟨kvs, k, .inl e, rfl, rfl⟩
theorem DGet.t {H : Hp} {a b : Addr} {kvs : List (List Key × V)} {k : List Key} (e : H a = some (.dT kvs)) (eb : H b = some (.tup (k.map kV))) : DGet H a (.ref b) (valV kvs k) := .inr ⟨kvs, k, b, .inl e, rfl, eb, rfl⟩
theorem DPut.k {H : Hp} {a : Addr} {kvs : List (Key × V)} {k : Key} {v : V} (e : H a = some (.dK kvs)) (hl : kvs.length < sizeLine) : DPut H a (kV k) v (upd H a (.dK (putK kvs k v))) := .inl ⟨kvs, k, e, rfl, hl, rfl⟩
theorem DPut.t {H : Hp} {a b : Addr} {kvs : List (List Key × V)} {k : List Key} {v : V} (e : H a = some (.dT kvs)) (eb : H b = some (.tup (k.map kV))) (hl : kvs.length < sizeLine) :
    DPut H a (.ref b) v (upd H a (.dT (putK kvs k v))) := .inr ⟨kvs, k, b, e, rfl, eb, hl, rfl⟩


section
variable {X : Cx} {pins : List (Addr × Obj)} {σ : St} {H : Hp} {s : Shared} {a : Addr} {y v : V} {u r : Value} {o : Option V} {A : Around} {E : Value → Shared → Prop}

theorem Inv.big (I : Inv X pins σ H s) : sysModules < s.heap.objs.size := by
  have h : mainGlobals < s.heap.objs.size := (I.mod.glob.keeps I.bk).lt
  exact Nat.lt_trans (by decide) h

/-- d[y], there -/
theorem d_getItem {Q : Value → Shared → Prop} (hu : A.units + 1 < cLine) (I : Inv X pins σ H s) (g : DGet H a y (some v)) (ry : RelV y u) (h : ∀ w' s', Inv X pins σ H s' → RelV v w' → Q w' s') :
    wpAny (model X.prog X.w) A (getItem (.ref a) u) Q E s := by
  rcases g with ⟨kvs, k, e, ey, l⟩ | ⟨kvs, k, b, e, ey, eb, l⟩
  · subst ey
    obtain ⟨z, hd, vs, rel, dd⟩ := dk_rd I.hok e
    obtain ⟨w', hw, rw'⟩ := RelO.some_of (v := v) (o := valueAt vs k) (by rw [l]; exact rel.val k)
    exact wpAny_getItem_of (kV_is ry) dd.mapOf hw (h w' _ (I.tok _) rw')
  · subst ey
    cases (show u = Value.ref b from ry)
    obtain ⟨z, hd, xs, rel, dd⟩ := dt_rd I.hok e
    obtain ⟨w', hw, rw'⟩ := RelO.some_of (v := v) (o := (atKey xs k).map (·.2)) (by rw [l]; exact rel.val k)
    obtain ⟨p, hp, hp2⟩ := Option.map_eq_some_iff.mp hw
    refine wpAny_getItem_heap (tupleKind_room_in1 hu) (key_of I.hok eb) dd hp ?_
    rw [hp2]
    exact h w' _ (I.tok _) rw'
/-- a dict's object is replaced -/
theorem d_write {h' : Heap} {t' : Nat} {ob : HO} (I : Inv X pins σ H s) (mu : Mut (H a)) (hs : Heap.SameBut a s.heap h') (he : ∃ q, h'.get? a = some q) (new : ObjOk X.prog X.w (upd H a ob) h' a ob) :
    Inv X pins σ (upd H a ob) { s with heap := h', toks := t' } :=
  I.write (x := a) (e := a) mu (.inl rfl) (fun b q hb z => (hs.2 b hb).trans z) he new
theorem dk_new {P : Program} {w : World} {H' : Hp} {h' : Heap} {kvs : List (Key × V)} {vs : List (Key × Value)} (z : kvs.length ≤ sizeLine) (hd : (a == sysModules) = false) (rel : KV kvs vs) (dd : h'.DictOf (mixKind P w) a vs) :
    ObjOk P w H' h' a (.dK kvs) := ⟨z, hd, vs, rel, dd⟩
/-- d[y] = v -/
theorem d_setItem {H' : Hp} {Q : Unit → Shared → Prop} (hu : A.units + 1 < cLine) (I : Inv X pins σ H s) (g : DPut H a y v H') (ry : RelV y u) (rv : RelV v r) (h : ∀ s', Inv X pins σ H' s' → Q () s') :
    wpAny (model X.prog X.w) A (setItem (.ref a) u r) Q E s := by
  rcases g with ⟨kvs, k, e, ey, l, eH⟩ | ⟨kvs, k, b, e, ey, eb, l, eH⟩
  · subst ey eH
    obtain ⟨z, hd, vs, rel, dd⟩ := dk_of I.hok e
    have hz : vs.length ≤ sizeLine := by rw [← rel.length]; exact z
    have hl : (putK kvs k v).length ≤ sizeLine := by have := length_putK kvs k v; omega
    refine wpAny_setItem_pairs (hsz := hz) (kV_is ry) dd fun h' dd' hs => h _ ?_
    have he : ∃ q, h'.get? a = some q := let ⟨q, _, _, hq, _⟩ := dd'; ⟨q, hq⟩
    exact d_write I (by rw [e]; exact True.intro) hs he (dk_new hl hd (rel.put k rv) dd')
  · subst ey eH
    cases (show u = Value.ref b from ry)
    obtain ⟨z, hd, xs, rel, dd⟩ := dt_of I.hok e
    have hz : xs.length ≤ sizeLine := by rw [← Paired.length rel]; exact z
    have hl : (putK kvs k v).length ≤ sizeLine := by have := length_putK kvs k v; omega
    refine wpAny_setItem_heap (hsz := hz) (tupleKind_room_in1 hu) (key_of I.hok eb) dd fun h' dd' hs => h _ ?_
    obtain ⟨q, es, ep, hq, h2, h3, h4, _, h5⟩ := dd'
    refine d_write I (by rw [e]; exact True.intro) hs ⟨q, hq⟩ ⟨hl, hd, _, (rel.put k eb rv).keeps fun c ys ec => ?_, q, es, ep, hq, h2, h3, h4, h5⟩
    rw [upd_ne (ne_of ec e (fun z => nomatch z))]
    exact ec
end

section
variable {X : Cx} {pins : List (Addr × Obj)} {σ : St} {H : Hp} {s : Shared} {a : Addr} {kvs : List (Key × V)} {k : Key} {u : Value} {A : Around} {E : Value → Shared → Prop}
end


/-! ### readings and rules -/
/-- the element of a subscription, not a slice -/
def NoSl (i : Expr) : Prop := ∀ ov iv, subscripted i false ov iv = operate [ov, iv] (getItem ov iv)
theorem subD_of {prog : Program} {w : World} {A : Around} {E : Value → Shared → Prop} {s : Shared} {env : Env} {value slice : Expr} {pos : Pos} {T id : String} {Q : Value → Shared → Prop}
    (hl : typeLookup (.type T) "__getitem__" = pure (some (.builtin id))) (hs : NoSl slice)
    (h : wpAny (model prog w) A (eval value env) (fun o s₁ => wpAny (model prog w) A (eval slice env) (fun i s₂ => s₂.TypeIs o T ∧ wpAny (model prog w) A (getItem o i) Q E s₂) E s₁) E s) :
    wpAny (model prog w) A (eval (.Subscript value slice pos) env) Q E s := by
  refine Subscript_ (wpAny_mono h (fun o s₁ h₁ => wpAny_mono h₁ (fun i s₂ h₂ => ?_) fun _ _ x => x) fun _ _ x => x)
  obtain ⟨hT, h₂⟩ := h₂
  unfold subscriptTail
  refine wpAny_bind ?_
  rw [getitemInPython_of_ne hT.not_modules]
  refine wpAny_bind (wpAny_specialOf hT hl ?_)
  have fin : wpAny (model prog w) A (subscripted slice false o i) (fun r s₃ => wpAny (model prog w) A (letTemporaryGo value o r >>= fun _ => pure r) Q E s₃) E s₂ := by
    rw [hs o i]
    exact wpAny_operating (wpAny_mono h₂ (fun r s₃ h₃ => wpAny_bind (wpAny_letTemporaryGo (wpAny_pure h₃))) fun _ _ x => x)
  first
    | exact wpAny_pure (wpAny_bind fin)
    | exact wpAny_bind (wpAny_pure (wpAny_bind fin))
    | exact wpAny_bind fin

theorem dict_typeIs {X : Cx} {pins : List (Addr × Obj)} {σ : St} {H : Hp} {s : Shared} {a : Addr} {y : V} {o : Option V} (I : Inv X pins σ H s) (g : DGet H a y o) : s.TypeIs (.ref a) "dict" := by
  rcases g with ⟨kvs, k, e, _, _⟩ | ⟨kvs, k, b, e, _, _, _⟩
  · obtain ⟨_, _, vs, _, dd⟩ := dk_rd I.hok e
    exact dd.typeIs
  · obtain ⟨_, _, xs, _, dd⟩ := dt_rd I.hok e
    exact dd.typeIs
/-- d[y] -/
def tDGet (td ty : TE) : TE := fun σ H Q => td σ H fun x H1 => ty σ H1 fun y H2 => ∃ a v, x = .ref a ∧ DGet H2 a y (some v) ∧ Q v H2
/-- d[y] = v -/
def sDPut (td ty tv : TE) : TS := fun D σ H => tv σ H fun v H1 => td σ H1 fun x H2 => ty σ H2 fun y H3 => ∃ a H4, x = .ref a ∧ DPut H3 a y v H4 ∧ D.nx σ H4
section
variable {X : Cx} {o i e value : Expr} {pos pos' tpos : Pos} {td ty tv : TE}
theorem pe_dget (hu : X.A.units + 1 < cLine) (ho : PE X o td) (hi : PE X i ty) (hs : NoSl i) : PE X (.Subscript o i pos) (tDGet td ty) := by
  intro pins s σ H Q I h
  refine subD_of PySem.F.slot_dict_getitem.lookup hs (thn (ho pins s σ H _ I h) fun u s1 ⟨x, H1, I1, rx, q1⟩ => thn (hi pins s1 σ H1 _ I1 q1) fun iv s2 ⟨y, H2, I2, ry, a, v, ex, g, q2⟩ => ?_)
  subst ex
  obtain rfl : u = Value.ref a := rx
  exact ⟨dict_typeIs I2 g, d_getItem hu I2 g ry fun w' s3 I3 rw' => ⟨v, H2, I3, rw', q2⟩⟩
theorem ps_dput (hu : X.A.units + 1 < cLine) (ho : PE X o td) (hi : PE X i ty) (hv : PE X value tv) (hs : swapsWith value (some (.Subscript o i pos')) pos.line X.env = pure false) :
    PS X (.Assign [.Subscript o i pos'] value pos) (sDPut td ty tv) := by
  intro pins s σ H D I h
  refine wpAny_Assign_Subscript (thn (hv pins s σ H _ I h) fun r s1 ⟨v, H1, I1, rv, q1⟩ => thn (ho pins s1 σ H1 _ I1 q1) fun u s2 ⟨x, H2, I2, rx, q2⟩ => thn (hi pins s2 σ H2 _ I2 q2) fun iv s3 ⟨y, H3, I3, ry, a, H4, ex, g, q3⟩ => ?_) hs
  subst ex
  obtain rfl : u = Value.ref a := rx
  exact d_setItem hu I3 g ry rv fun s4 I4 => ⟨σ, H4, I4, q3⟩
end


/-! ### displays -/
theorem dk_empty {P : Program} {w : World} {H : Hp} (h : Heap) (hb : sysModules < h.objs.size) : ObjOk P w H (h.push { cls := .type "dict", data := .dict #[] }) h.objs.size (.dK []) :=
  ⟨Nat.zero_le _, beq_eq_false_iff_ne.mpr (Ne.symm (Nat.ne_of_lt hb)), [], .nil, Heap.DictOf.new h⟩
/-- {}, to be a dict of the kind that is wanted -/
def tDNewK : TE := fun _ H Q => ∀ p, H p = none → Q (.ref p) (upd H p (.dK []))
section
variable {X : Cx} {pos : Pos}
theorem pe_dnewK : PE X (.Dict [] [] pos) tDNewK := fun pins s σ H Q I h =>
  wpAny_Dict_empty ⟨.ref s.heap.objs.size, _, I.laid (a := s.heap.objs.size) (o := .dK []) (t' := s.toks) (fun _ _ q => Heap.get?_push_of_some _ q) (Nat.le_refl _) (dk_empty s.heap I.big), rfl, h _ (I.hok.fresh (Nat.le_refl _))⟩
end

/-! ### methods -/
structure M2 (X : Cx) (o : Expr) (m : Str) (apos : Pos) (e f : Expr) (cpos : Pos) : Prop where
  base : attributeBase o m X.env (eval o X.env) = eval o X.env
  few : ((backTo cpos (starEach [e, f] X.env)).all (fun x => !x.1) && (backToKw cpos (keywordEach [] X.env)).all (fun x => x.1.isSome)
    && decide (([e, f] : List Expr).length + ([] : List Keyword).length + (if ([] : List Keyword).isEmpty then 0 else 1) < 30)) = true
  line : (apos.endLine == cpos.line) = true
  trees : backTo cpos (starEach [e, f] X.env) = [(false, eval e X.env), (false, eval f X.env)]

/-- a is a dict, whatever its keys -/
def IsD (H : Hp) (a : Addr) : Prop := (∃ kvs, Rd H a (.dK kvs)) ∨ ∃ kvs, Rd H a (.dT kvs)
theorem isD_at {X : Cx} {pins : List (Addr × Obj)} {σ : St} {H : Hp} {s : Shared} {a : Addr} (I : Inv X pins σ H s) (d : IsD H a) :
    s.TypeIs (.ref a) "dict" ∧ (∀ b, Value.ref a = .ref b → ∃ ob, s.heap.get? b = some ob ∧ ob.dict = none) ∧ (a == sysModules) = false := by
  rcases d with ⟨kvs, e⟩ | ⟨kvs, e⟩
  · obtain ⟨_, hd, vs, _, dd⟩ := dk_rd I.hok e
    refine ⟨dd.typeIs, fun b q => ?_, hd⟩
    cases q
    obtain ⟨ob, _, _, h1, h2, _⟩ := dd
    exact ⟨ob, h1, h2.2.1⟩
  · obtain ⟨_, hd, xs, _, dd⟩ := dt_rd I.hok e
    refine ⟨dd.typeIs, fun b q => ?_, hd⟩
    cases q
    obtain ⟨ob, _, _, h1, h2, _⟩ := dd
    exact ⟨ob, h1, h2.2.1⟩

section
variable {X : Cx} {pins : List (Addr × Obj)} {σ : St} {H : Hp} {s : Shared} {a : Addr} {y d : V} {u r : Value} {o : Option V} {A : Around} {E : Value → Shared → Prop}
/-- d.get(y, x) -/
theorem d_get2 {Q : Value → Shared → Prop} (hu : A.units + 1 < cLine) (I : Inv X pins σ H s) (g : DGet H a y o) (ry : RelV y u) (rd : RelV d r) (h : ∀ w' s', Inv X pins σ H s' → RelV (o.getD d) w' → Q w' s') :
    wpAny (model X.prog X.w) A (call (.builtin "dict.get") [.ref a, u, r]) Q E s := by
  rcases g with ⟨kvs, k, e, ey, l⟩ | ⟨kvs, k, b, e, ey, eb, l⟩
  · subst ey
    obtain ⟨z, hd, vs, rel, dd⟩ := dk_rd I.hok e
    refine call_meetsIn PySem.F.slot_dict_get dd.typeIs PySem.F.entry_dict_get (PySem.F.args_dict_get_3 _ _ _) (meets_dict_get_default (mixKind X.prog X.w) a (kV_is ry) hd r) ⟨_, dd.mapOf, h _ _ (I.tok _) ?_⟩
    rw [l]
    exact (rel.val k).getD rd
  · subst ey
    cases (show u = Value.ref b from ry)
    obtain ⟨z, hd, xs, rel, dd⟩ := dt_rd I.hok e
    refine call_meetsIn PySem.F.slot_dict_get dd.typeIs PySem.F.entry_dict_get (PySem.F.args_dict_get_3 _ _ _) (meetsH_dict_get_default (tupleKind (mixKind X.prog X.w)) a b hd r) ⟨tupleKind_room_in1 hu, k, xs, key_of I.hok eb, dd, h _ _ (I.tok _) ?_⟩
    rw [l]
    exact (rel.val k).getD rd
end

def tDGet2 (td ty tx : TE) : TE := fun σ H Q => td σ H fun x H1 => ∃ a, x = .ref a ∧ IsD H1 a ∧ ty σ H1 fun y H2 => tx σ H2 fun z H3 => ∃ o, DGet H3 a y o ∧ Q (o.getD z) H3
section
variable {X : Cx} {o e f : Expr} {apos cpos : Pos} {td ty tx : TE}
theorem pe_dget2 (hu : X.A.units + 1 < cLine) (ho : PE X o td) (he : PE X e ty) (hf : PE X f tx) (m : M2 X o "get" apos e f cpos) : PE X (.Call (.Attribute o "get" apos) [e, f] [] cpos) (tDGet2 td ty tx) := by
  intro pins s σ H Q I h
  refine wpAny_Call_method m.base m.few m.line PySem.F.plainAttrs_dict PySem.F.slot_dict_get PySem.F.type_dict_get (thn (ho pins s σ H _ I h) fun u s1 ⟨x, H1, I1, rx, a, ex, d, q1⟩ => ?_)
  subst ex
  obtain rfl : u = Value.ref a := rx
  obtain ⟨t1, t2, _⟩ := isD_at I1 d
  refine ⟨t1, t2, ?_⟩
  rw [m.trees]
  refine Calls.callWith_builtin rfl (Calls.evalArgs_plain (Calls.spliced_cons (thn (he pins s1 σ H1 _ I1 q1) fun iv s2 ⟨y, H2, I2, ry, q2⟩ =>
    Calls.spliced_cons (thn (hf pins s2 σ H2 _ I2 q2) fun fv s3 ⟨z, H3, I3, rz, ov, g, q3⟩ => Calls.spliced_nil ?_))))
  exact d_get2 hu I3 g ry rz fun w' s4 I4 rw' => ⟨_, H3, I4, rw', q3⟩
end

/-! ### dict(d): a copy -/
section
variable {X : Cx} {pins : List (Addr × Obj)} {σ : St} {H : Hp} {s : Shared} {a : Addr} {kvs : List (Key × V)} {A : Around} {E : Value → Shared → Prop}
end


section
variable {X : Cx} {pins : List (Addr × Obj)} {σ : St} {H : Hp} {s : Shared} {a : Addr} {y : V} {u : Value} {A : Around} {E : Value → Shared → Prop}
end
end L2

namespace Att
open PySem PySem.W PySem.Calls PyProof.Rows

/-! ### the script -/
theorem ints_of_wellAll {P : Params} {h : Heap} : ∀ (ns : List Int) (vs : List Value), WellAll P h vs (ns.map WData.int) → IntsAre vs ns := by
  intro ns
  induction ns with
  | nil =>
    intro vs w
    rw [List.map_nil] at w
    cases w
    exact .nil
  | cons n ns ih =>
    intro vs w
    rw [List.map_cons] at w
    cases w with
    | cons a b =>
      cases a
      exact .cons _ _ (ih _ b)

theorem script_of {l : OpenLaw} {n : Nat} (hn : l.most = some n) {P : Params} {h : Heap} {args : List WData} {vals : List Value}
    (hpre : l.row.toRowW.claim.pre args = true) (hwl : WellAll P h vals args) :
    ∃ a vs ns, vals = [Value.ref a] ∧ args = [WData.list (ns.map WData.int)] ∧ h.get? a = some { cls := .type "list", data := .seq vs.toArray } ∧ IntsAre vs ns ∧ ns.length ≤ n := by
  have hsh : WShape.hasAll [] args [.list .int] = true := (pre_splitW hpre).1
  have hc : l.pre.holds [] { args := args } = true := (pre_splitW hpre).2
  obtain ⟨d, r, rfl, h1, h2⟩ := hasAllW_cons hsh
  obtain rfl := hasAllW_nil h2
  obtain ⟨xs, rfl, h3⟩ := hasW_list h1
  obtain ⟨ns, rfl⟩ := items_int h3
  have hlen : ns.length ≤ n := by
    unfold OpenLaw.pre at hc
    have h4 : (WTm.not (.lt (.lit (.int (n : Int))) (.len (.arg 0)))).holds [] { args := [.list (ns.map .int)] } = true := by
      have h4 := (holds_andW hc).1
      rw [hn] at h4
      exact h4
    have h5 := condW_of h4 (w_not (w_lt w_lit (w_len_list (w_arg rfl))))
    rw [List.length_map] at h5
    refine Nat.le_of_not_lt fun q => ?_
    have q' : (n : Int) < ((ns.length : Nat) : Int) := by omega
    first
      | (rw [decide_eq_true q'] at h5; exact absurd h5 (by decide))
      | (simp at h5; omega)
  cases hwl with
  | cons w1 w2 =>
    cases w2
    cases w1 with
    | list ho hall => exact ⟨_, _, ns, rfl, rfl, ho, ints_of_wellAll ns _ hall, hlen⟩

theorem post_true (l : OpenLaw) (args : List WData) : l.row.toRowW.claim.post args (.bool true) args = true :=
  postW_of (r := l.row.toRowW) (X := (true == true))
    (show WShape.has [] (.bool true) .bool = true by first | rfl | decide | simp [WShape.has, WShape.arms, WShape.armsAll])
    (show (WTm.eq .res (.lit (.bool true))).value [] { args := args, res := some (.bool true), after := args } = some (.bool (true == true)) from w_eq_bool (w_res rfl) w_lit) rfl

/-! ### the attachment: holds_open's last premise (the goal 'hc' behind k_head) from a wpAny of the law's body -/
/-- the same from a codeAny of the CALL (for a layer whose function contracts speak of calls) -/
theorem attach_call {l : OpenLaw} {n : Nat} {q : Program} {loose : List Str} {XP : (Str → Option Value) → Heap → Prop} {YP : World → Heap → Prop} {d : DefRec}
    (hn : l.most = some n) (hdf : d.params.defaults = [])
    (call : ∀ (w : World) (s₀ s₁ : Shared) (mg mb : Str → Option Value) (fa : Addr) (o : Obj) (pm cd doc : Value) (a : Addr) (vs : List Value) (ns : List Int),
      Ground q loose [] XP w s₀ mg mb s₁.heap → YP w s₁.heap →
      s₁.heap.get? fa = some o → o.data = .func (docDef d.name d.params d.body d.scope pm cd doc) → s₁.heap.CodeRec cd d.name → mg d.name = some (.ref fa) →
      s₁.heap.get? a = some { cls := .type "list", data := .seq vs.toArray } → IntsAre vs ns → ns.length ≤ n → s₁.gens = #[] →
      codeAny (model l.prog w) callerA (.call (.ref fa) ⟨[.ref a], []⟩) (fun r s' => r = .ok (.ret (.bool true)) ∧ OldK s₁.heap s'.heap ∧ s'.os = s₁.os ∧ AllBare s'.gens) s₁) :
    WalkO q loose XP YP l.row.toRowW d [] (fun f vs => PySem.call f vs) := by
  intro w s₀ s₁ mg mb G Y fa o pm cd doc dV kV ho hd hcd hD hmg hg args vals as hpre hlay hrd hwl hlo
  obtain rfl : dV = .none := Dflts.none hD hdf
  obtain rfl : kV = .none := Dflts.noKw hD
  obtain ⟨a, vs, ns, rfl, rfl, hobj, hints, hlen⟩ := script_of hn hpre hwl
  refine enter_call (codeAny_mono (call w s₀ s₁ mg mb fa o pm cd doc a vs ns G Y ho (fd_plain hd) hcd hmg hobj hints hlen hg) fun r s' hq => ?_)
  obtain ⟨rfl, h2, h3, h4⟩ := hq
  exact ⟨.inl ⟨.bool true, .bool true, [], rfl, fun _ => rfl, .bool true, post_true l _, fun _ => ⟨List.Pairwise.nil, fun _ hm => (nomatch hm)⟩⟩, h2, h3, h4⟩

/-! ### rules over ANY heap (no ledger) from facts about the written part K: the library's own take a ledger (News) for what they write -/
section
variable {prog : Program} {w : World} {A : Around} {E : Value → Shared → Prop} {s : Shared} {K : Frag}

/-! the whole heap as the ledger: makes every rule that writes through a ledger a rule over any heap -/
def ledger (h : Heap) (L d : Addr) : List (Addr × Obj) := (List.range h.objs.size).filterMap fun a => if a = L ∨ a = d then none else (h.get? a).map fun o => (a, o)
end
end Att

namespace L2
open PySem PySem.Spec PyProof.Rows

theorem vals_ints : ∀ {vs : List Value} {ns : List Int}, IntsAre vs ns → Vals (ns.map V.int) vs
  | _, _, .nil => .nil
  | _, _, .cons n t h => .cons ⟨t, rfl⟩ (vals_ints h)

/-- nothing is tracked but the script, known to the object (or it is an object of the module) -/
def Only (H : Hp) : Prop := ∀ b, H b = none ∨ ∃ o xs, H b = some (.frz o (.lst xs))

/-- THE HEAD: the law's promise, at the heap behind the top. F, the promise of the law's def, may use that base is part of the heap (so K.In base, base.Ns mainGlobals mg stand in Mod) -/
theorem law_call {P : Program} {w : World} {K : PySem.W.Frag} {mg mb : Str → Option Value} {CX : CXT} {k : Nat} {fa a : Addr} {fd : FuncData} {x : Str} {sp : Sp} {s₁ : Shared} {vs : List Value} {ns : List Int}
    (KX : K.In s₁.heap) (hns : s₁.heap.Ns mainGlobals mg) (hb : s₁.heap.Ns builtinsNs mb) (hbb : ∀ x : Str, x ≠ "__name__" → mb x = bootBuiltins x) (hlim : s₁.heap.NoLimit) (hg : s₁.gens = #[])
    (ha : s₁.heap.get? a = some { cls := .type "list", data := .seq vs.toArray }) (hi : IntsAre vs ns) (hl : ns.length ≤ sizeLine) (hr : Room k callerA)
    (F : ∀ base : Heap, K.In base → base.Ns mainGlobals mg → FnOk P w K mg base CX k fa fd [x] sp) (hbind : ∀ (s : Shared) (u : Value), BindsTo s fd ⟨[u], []⟩ [(x, u)])
    (hsp : ∀ H : Hp, Only H → SqL K H a (ns.map V.int) → sp [.ref a] H (fun v _ => v = .bl true) fun _ _ _ => False)
    (hCX : ∀ H e s', CX [] H s₁ (fun _ _ _ => False) e s' → False) :
    codeAny (model P w) callerA (.call (.ref fa) ⟨[.ref a], []⟩) (fun r s' => r = .ok (.ret (.bool true)) ∧ OldK s₁.heap s'.heap ∧ s'.os = s₁.os ∧ AllBare s'.gens) s₁ := by
  have rv := vals_ints hi
  have lenV := hi.length
  -- from an abstract heap in which nothing but the script may be tracked
  have core : ∀ H : Hp, Only H → SqL K H a (ns.map V.int) → HOk P w H s₁.heap → (∀ b, H b ≠ none → b = a) → (H a ≠ none → K.lookup a = none) →
      codeAny (model P w) callerA (.call (.ref fa) ⟨[.ref a], []⟩) (fun r s' => r = .ok (.ret (.bool true)) ∧ OldK s₁.heap s'.heap ∧ s'.os = s₁.os ∧ AllBare s'.gens) s₁ := by
    intro H hO hS hok hA hK
    have base_of : ∀ {b : Addr} {o : Obj}, s₁.heap.get? b = some o → H b = none → (hidT s₁.heap H).get? b = some o := fun e n => hidT_get e n
    have noA : ∀ {b : Addr} {o : Obj} {es : Array DictEntry} {ep : Nat}, s₁.heap.get? b = some o → o.data = .dict es ep → H b = none := fun {b o es ep} e d => by
      cases q : H b with
      | none => rfl
      | some u =>
        have e' : b = a := hA b (by rw [q]; simp)
        subst e'
        rw [ha] at e; cases e
        have d' : Data.seq vs.toArray _ = Data.dict es ep := d
        cases d'
    have nsK : ∀ {b : Addr} {m : Str → Option Value}, s₁.heap.Ns b m → (hidT s₁.heap H).Ns b m := fun {b m} ⟨o, es, ep, e, d, r⟩ => ⟨o, es, ep, base_of e (noA e d), d, r⟩
    have hKb : K.In (hidT s₁.heap H) := fun b o e => base_of (KX b o e) (by
      cases q : H b with
      | none => rfl
      | some u =>
        have e' : b = a := hA b (by rw [q]; simp)
        subst e'
        rw [hK (by rw [q]; simp)] at e; cases e)
    have hM : Mod K mg (hidT s₁.heap H) := ⟨hKb, nsK hns, ⟨mb, nsK hb, hbb⟩, let ⟨mc, h1, h2⟩ := hlim; ⟨mc, nsK h1, h2⟩⟩
    have e0 : Env0 P w K mg (hidT s₁.heap H) callerA [] s₁ H := ⟨rfl, hM, fun b o e => of_hidT e, Nat.le_of_eq (hidT_size _ _), trivial, fun b hb => absurd (show b ∈ ([] : List Addr) from hb) (by simp), hok, .of_eq hg⟩
    refine codeAny_mono ((F _ hKb (nsK hns)).run callerA [] s₁ H ⟨[.ref a], []⟩ [.ref a] [.ref a] _ _ hr e0 (hbind s₁ (.ref a)) (.cons rfl .nil) (hsp H hO hS)) fun r s' h => ?_
    cases r with
    | error e => exact (hCX H e s' h).elim
    | ok fl =>
      cases fl with
      | next => exact False.elim h
      | brk => exact False.elim h
      | cont => exact False.elim h
      | ret u =>
        obtain ⟨v, H', os, bare, un, hok', r', q⟩ := h
        have q' : v = .bl true := q
        subst q'
        obtain rfl : u = Value.bool true := r'
        refine ⟨rfl, OldK.of_keep fun b o e => ?_, os, bare⟩
        cases q : H b with
        | none => exact un.keep b o e q (by intro z; exact absurd (show b ∈ ([] : List Addr) from z) (by simp)) (by simp)
        | some u =>
          rcases hO b with z | ⟨ob, xs, z⟩
          · rw [q] at z; cases z
          · have z2 := un.frzs b ob _ z
            obtain ⟨e1, _⟩ := hok b _ z
            obtain ⟨e2, _⟩ := hok' b _ z2
            rw [e] at e1; cases e1
            exact e2
  cases hk : K.lookup a with
  | some o =>
    -- the script is one of the module's own objects
    have e := KX a o hk
    rw [ha] at e
    cases e
    refine core (fun _ => none) (fun _ => .inl rfl) (.inr ⟨_, vs.toArray, _, hk, rfl, rfl, rfl, by rw [List.size_toArray, lenV]; exact hl, by simpa using rv⟩) (fun b u z => by have z' : (none : Option HO) = some u := z; cases z') (fun b z => absurd rfl z) fun z => absurd rfl z
  | none =>
    refine core (fun b => if b = a then some (.frz { cls := .type "list", data := .seq vs.toArray } (.lst (ns.map V.int))) else none) (fun b => ?_) (.inl (.inr ⟨{ cls := .type "list", data := .seq vs.toArray }, if_pos rfl⟩)) (fun b u z => ?_) (fun b z => ?_) fun _ => hk
    · by_cases hb : b = a
      · exact .inr ⟨_, _, if_pos hb⟩
      · exact .inl (if_neg hb)
    · by_cases hb : b = a
      · have z' := (if_pos hb).symm.trans z
        cases z'
        subst hb
        exact ⟨ha, by rw [List.length_map]; exact hl, vs, _, rv, ha⟩
      · have z' := (if_neg hb).symm.trans z
        cases z'
    · by_cases hb : b = a
      · exact hb
      · exact absurd (if_neg hb) z
end L2

namespace L2
open PySem PySem.Spec PyProof.Rows

abbrev KOf {K : PySem.W.Frag} {h : Heap} (_ : K.In h) : PySem.W.Frag := K

/-- the goal that k_head leaves (case hc), from the law's promise. F gives the function object fd (K's own) once, then the promise over every base -/
theorem walk_of {l : PySem.W.OpenLaw} {n k : Nat} {q : Program} {loose : List Str} {XP : (Str → Option Value) → Heap → Prop} {YP : World → Heap → Prop} {d : DefRec} {K : Params → PySem.W.Frag} {CX : World → CXT} {sp : World → Sp} {x : Str}
    (hn : l.most = some n) (hn2 : n ≤ sizeLine) (hdf : d.params.defaults = []) (hr : Room k callerA)
    (hY : ∀ (w : World) (h : Heap), YP w h → (K w.params).In h)
    (F : ∀ (w : World) (mg : Str → Option Value) (fa : Addr) (h : Heap), (K w.params).In h → h.Ns mainGlobals mg → mg d.name = some (.ref fa) →
      ∃ fd : FuncData, (∀ (s : Shared) (u : Value), BindsTo s fd ⟨[u], []⟩ [(x, u)]) ∧
        ∀ base : Heap, (K w.params).In base → base.Ns mainGlobals mg → FnOk l.prog w (K w.params) mg base (CX w) k fa fd [x] (sp w))
    (hsp : ∀ (w : World) (H : Hp) (a : Addr) (ns : List Int), ns.length ≤ n → Only H → SqL (K w.params) H a (ns.map V.int) → sp w [.ref a] H (fun v _ => v = .bl true) fun _ _ _ => False)
    (hCX : ∀ (w : World) (H : Hp) (s : Shared) (e : Value) (s' : Shared), CX w [] H s (fun _ _ _ => False) e s' → False) :
    PySem.W.WalkO q loose XP YP l.row.toRowW d [] (fun f vs => PySem.call f vs) := by
  refine Att.attach_call hn hdf fun w s₀ s₁ mg mb fa o pm cd doc a vs ns G Y ho hd hcd hmg hobj hints hlen hg => ?_
  have KX := hY w _ Y
  obtain ⟨fd, hb, hF⟩ := F w mg fa _ KX G.T.g hmg
  exact law_call KX G.T.g G.T.b G.T.builtins G.T.nolimit hg hobj hints (Nat.le_trans hlen hn2) hr hF hb (fun H hO hS => hsp w H a ns hlen hO hS) fun H e s' => hCX w H s₁ e s'
end L2

/- THE LAST THEOREM (shape; LID, My.* are yours):
   My.Adr: a structure of the addresses that your layer names (classes, functions); My.Txt K t: a structure (Prop) of the equations over K;
   My.txt_mk : {K} {implicit addresses ..} (e1 : nsIn K mainGlobals "law" = some (some (.ref f))) (e2 : K.lookup f = some ⟨oc, od, .func (fnOf "law" "law" params body scope dV kV doc pm an cdv ct), sl⟩) (e3 : codeIn K cdv "law" = true) .. : ∃ t, My.Txt K t

set_option maxRecDepth 100000 in
set_option maxHeartbeats 0 in
theorem PySem.Challenge.cw_LID_holds : PySem.Challenge.rw_LID.Holds := by
  w_on; o_law; k_head; (case hw => w_witness2)
  k_fill
  refine L2.walk_of (l := PySem.Challenge.rw_LID) (n := 63) (k := 40) (x := "script") (CX := fun w => ..) (sp := fun _ => My.sp_law) rfl (by decide) rfl ⟨rfl, by decide, by decide⟩ (fun w h Y => PySem.W.kIn_of Y) ?F ?S ?C
  case F =>
    intro w mg fa h KX G hmg
    have T : ∃ t, My.Txt (L2.KOf KX) t := by
      dsimp only [L2.KOf]                          -- K must stand as «<heap const> w.params» for k_is
      refine' My.txt_mk ?e1 ?e2 ?e3 ..
      (case e1 => PySem.W.k_is)                    -- in the order: a name -> its address -> its object -> its parts
      (case e2 => PySem.W.k_is)
      ..
    obtain ⟨t, T⟩ := T
    have e0 := hmg.symm.trans (PySem.W.mg_of KX G T.law)
    cases e0                                       -- fa is the law's own address
    exact ⟨_, fun s u => .of_eq rfl, fun base kb nb => My.law_fn T kb nb⟩     -- if «.of_eq rfl» comes too early: refine' ⟨_, ?b, fun base kb nb => My.law_fn T kb nb⟩; exact fun s u => .of_eq rfl
  case S => exact fun w H a ns hl hO hS => ..
  case C => exact ..
(the tactic k_is has no namespace: write k_is) -/

/-! SHORT WORDS over the layer: a def of the text, its body, what a loop and a test want. -/
namespace L2
open PySem PySem.Spec PyProof.Rows

/-! ### the text by places -/
def defArgs (s : Stmt) : Arguments := match s with
  | .FunctionDef _ a _ _ _ _ _ _ _ _ => a
  | _ => { posonlyargs := [], args := [], vararg := none, kwonlyargs := [], kw_defaults := [], kwarg := none, defaults := [] }
def defBody (s : Stmt) : List Stmt := match s with
  | .FunctionDef _ _ b _ _ _ _ _ _ _ => b
  | _ => []
def defScope (s : Stmt) : Scope := match s with
  | .FunctionDef _ _ _ _ _ _ sc _ _ _ => sc
  | _ => { kind := .function, names := [], isGenerator := false, isCoroutine := false }

/-! ### no exception leaves a def -/
abbrev CX0 : CXT := fun _ _ _ _ _ _ => False
abbrev E0 : XK := fun _ _ _ => False
theorem pass0 {X : Cx} : Passes CX0 X E0 := fun _ _ _ _ _ _ _ h => h.elim

/-! ### a def (or method) of the text as it stands behind the top -/
structure Fun (K : PySem.W.Frag) (x qual : Str) (st : Stmt) (f : Addr) (fd : FuncData) : Prop where
  ex : ∃ (oc : Value) (od : Option Addr) (kV doc pm : Value) (an : Option Addr) (cdv ct : Value) (osl : Array (Option Value)),
    fd = PySem.W.fnOf x qual (defArgs st) (defBody st) (defScope st) .none kV doc pm an cdv ct ∧ K.lookup f = some ⟨oc, od, .func fd, osl⟩ ∧ PySem.W.codeIn K cdv qual = true
  kp : PySem.W.keepIn K (.ref f) = true
section
variable {P : Program} {w : World} {K : PySem.W.Frag} {mg : Str → Option Value} {base : Heap}
/-- THE RULE for a def: its body as a term of rules, and the reading of that term -/
theorem Fun.ok {x qual : Str} {st : Stmt} {f : Addr} {fd : FuncData} {N ps : List Str} {k : Nat} {sp : Sp} (F : Fun K x qual st f fd) (S : FnScope N ps (defScope st)) (len : ∀ vs H Q E, sp vs H Q E → vs.length = ps.length)
    (hbody : ∀ (cdv : Value) (A : Around) (outer : List Env) (s : Shared) (H : Hp) (vs : List V) (Q : VK) (E : XK), Room k (A.deeper (envOfC qual (defScope st) s.heap.objs.size f cdv)) → sp vs H Q E →
      ∃ t, PSs (cxOf CX0 P w K mg base N qual (defScope st) f cdv A outer s H E).nox (defBody st) t ∧ t { nx := fun _ H' => Q .non H', rt := Q } (start N vs) H) : FnOk P w K mg base CX0 (k + 1) f fd ps sp := by
  obtain ⟨oc, od, kV, doc, pm, an, cdv, ct, osl, rfl, lk, hcd⟩ := F.ex
  refine fn_of lk hcd S len fun A outer s H vs Q E hr hsp => ?_
  obtain ⟨t, h, q⟩ := hbody cdv A outer s H vs Q E hr hsp
  exact ⟨t, h.nox, q⟩
/-- how its arguments bind (no defaults): h is «fun _ _ _ _ _ _ us hl => match us, hl with | [_, _], _ => rfl», one _ a parameter -/
theorem Fun.binds {x qual : Str} {st : Stmt} {f : Addr} {fd : FuncData} {ps : List Str} (F : Fun K x qual st f fd)
    (h : ∀ (kV doc pm : Value) (an : Option Addr) (cdv ct : Value) (us : List Value), us.length = ps.length → bindArgs (PySem.W.fnOf x qual (defArgs st) (defBody st) (defScope st) .none kV doc pm an cdv ct) ⟨us, []⟩ = pure (ps.zip us)) : Binds K fd ps [] := by
  obtain ⟨oc, od, kV, doc, pm, an, cdv, ct, osl, rfl, lk, hcd⟩ := F.ex
  exact .all (h kV doc pm an cdv ct)
theorem fun_mk {x qual : Str} {st : Stmt} {f : Addr} {oc : Value} {od an : Option Addr} {osl : Array (Option Value)} {kV doc pm cdv ct : Value} (l : K.lookup f = some ⟨oc, od, .func (PySem.W.fnOf x qual (defArgs st) (defBody st) (defScope st) .none kV doc pm an cdv ct), osl⟩)
    (c : PySem.W.codeIn K cdv qual = true) (k : PySem.W.keepIn K (.ref f) = true) : Fun K x qual st f (PySem.W.fnOf x qual (defArgs st) (defBody st) (defScope st) .none kV doc pm an cdv ct) := ⟨⟨oc, od, kV, doc, pm, an, cdv, ct, osl, rfl, l, c⟩, k⟩
end
theorem small1000 {n : Nat} (h : n ≤ 1000) : n < sizeLine := Nat.lt_of_le_of_lt h (by decide)

/-! ### expressions in short: the name that stands in the i-th slot -/
section
variable {X : Cx}
end

/-! ### tests -/
theorem ite2 {c A B : Prop} [Decidable c] (h1 : c → A) (h2 : ¬ c → B) : if c then A else B := by
  by_cases h : c
  · rw [if_pos h]
    exact h1 h
  · rw [if_neg h]
    exact h2 h
/-! ### heaps -/
/-- all that was tracked is as it was -/
def Same (H H' : Hp) : Prop := ∀ b o, H b = some o → H' b = some o
theorem Same.refl (H : Hp) : Same H H := fun _ _ h => h
theorem Same.trans {H H1 H2 : Hp} (a : Same H H1) (b : Same H1 H2) : Same H H2 := fun c o h => b c o (a c o h)
theorem Same.free {H H' : Hp} (e : Same H H') {l : Addr} (h : H' l = Option.none) : H l = Option.none := by
  cases q : H l with
  | none => rfl
  | some o =>
    rw [e l o q] at h
    cases h
theorem Same.seq {K : PySem.W.Frag} {H H' : Hp} {a : Addr} {xs : List V} (e : Same H H') (h : SqL K H a xs) : SqL K H' a xs := by
  rcases h with (h | ⟨o, h⟩) | h
  · exact .inl (.inl (e _ _ h))
  · exact .inl (.inr ⟨o, e _ _ h⟩)
  · exact .inr h
/-! ### a dict's pairs: keys that differ -/
section
variable {κ : Type} [DecidableEq κ]
end
end L2


namespace DL
open PySem L2

/-- a value without its place: what a name stands for, as a whole -/
inductive D where
  | non | bl (b : Bool) | int (i : Int) | str (x : Str)
  | tup (xs : List D) | lst (xs : List D) | fz (xs : List D) | dct (ks : List Str) (vs : List D)


def kvsOf (ks : List Str) (vs : List V) : List (Key × V) := (ks.map Sum.inr).zip vs
def H0 : Hp := fun _ => none
/-- a list that nobody may change: the script, a list of the text's top -/
def FzAt (K : PySem.W.Frag) (H : Hp) (a : Addr) (vs : List V) : Prop := (∃ o, H a = some (.frz o (.lst vs))) ∨ SqL K H0 a vs

mutual
def Rep (K : PySem.W.Frag) (M : Addr → Prop) (H : Hp) : D → V → Prop
  | .non, v => v = .non
  | .bl b, v => v = .bl b
  | .int i, v => v = .int i
  | .str x, v => v = .str x
  | .tup ds, v => ∃ a vs, v = .ref a ∧ SqT K H a vs ∧ Reps K M H ds vs
  | .lst ds, v => ∃ a vs, v = .ref a ∧ ¬ M a ∧ H a = some (.lst vs) ∧ Reps K M H ds vs
  | .fz ds, v => ∃ a vs, v = .ref a ∧ FzAt K H a vs ∧ Reps K M H ds vs
  | .dct ks ds, v => ∃ a vs, v = .ref a ∧ ¬ M a ∧ H a = some (.dK (kvsOf ks vs)) ∧ ks.length = ds.length ∧ Reps K M H ds vs
def Reps (K : PySem.W.Frag) (M : Addr → Prop) (H : Hp) : List D → List V → Prop
  | [], vs => vs = []
  | d :: ds, vs => ∃ v r, vs = v :: r ∧ Rep K M H d v ∧ Reps K M H ds r
end

/-- kept: what nobody at M owns, the tuples, and what is frozen -/
structure Kp (M : Addr → Prop) (H H' : Hp) : Prop where
  un : ∀ b o, H b = some o → ¬ M b → H' b = some o
  tu : ∀ b xs, H b = some (.tup xs) → H' b = some (.tup xs)
  fr : ∀ b o u, H b = some (.frz o u) → H' b = some (.frz o u)
theorem Kp.of_same {M : Addr → Prop} {H H' : Hp} (h : Same H H') : Kp M H H' := ⟨fun b o e _ => h b o e, fun b xs e => h b _ e, fun b o u e => h b _ e⟩
theorem Kp.refl {M : Addr → Prop} {H : Hp} : Kp M H H := Kp.of_same (Same.refl H)

section
variable {K : PySem.W.Frag} {M M' : Addr → Prop} {H H' : Hp}
theorem SqT.kp {a : Addr} {vs : List V} (k : Kp M H H') (h : SqT K H a vs) : SqT K H' a vs := by
  rcases h with (h | ⟨o, h⟩) | h
  · exact .inl (.inl (k.tu _ _ h))
  · exact .inl (.inr ⟨o, k.fr _ _ _ h⟩)
  · exact .inr h
theorem FzAt.kp {a : Addr} {vs : List V} (k : Kp M H H') (h : FzAt K H a vs) : FzAt K H' a vs := by
  rcases h with ⟨o, h⟩ | h
  · exact .inl ⟨o, k.fr _ _ _ h⟩
  · exact .inr h
theorem FzAt.seq {a : Addr} {vs : List V} (h : FzAt K H a vs) : SqL K H a vs := by
  rcases h with ⟨o, h⟩ | (h | ⟨o, h⟩) | h
  · exact .inl (.inr ⟨o, h⟩)
  · cases h
  · cases h
  · exact .inr h

mutual
theorem Rep.kp (k : Kp M H H') : ∀ (d : D) (v : V), Rep K M H d v → Rep K M H' d v
  | .non, v, h => by unfold Rep at h ⊢; exact h
  | .bl b, v, h => by unfold Rep at h ⊢; exact h
  | .int i, v, h => by unfold Rep at h ⊢; exact h
  | .str x, v, h => by unfold Rep at h ⊢; exact h
  | .tup ds, v, h => by
    unfold Rep at h ⊢
    obtain ⟨a, vs, e, q, r⟩ := h
    exact ⟨a, vs, e, SqT.kp k q, Reps.kp k ds vs r⟩
  | .lst ds, v, h => by
    unfold Rep at h ⊢
    obtain ⟨a, vs, e, n, q, r⟩ := h
    exact ⟨a, vs, e, n, k.un _ _ q n, Reps.kp k ds vs r⟩
  | .fz ds, v, h => by
    unfold Rep at h ⊢
    obtain ⟨a, vs, e, q, r⟩ := h
    exact ⟨a, vs, e, q.kp k, Reps.kp k ds vs r⟩
  | .dct ks ds, v, h => by
    unfold Rep at h ⊢
    obtain ⟨a, vs, e, n, q, l, r⟩ := h
    exact ⟨a, vs, e, n, k.un _ _ q n, l, Reps.kp k ds vs r⟩
theorem Reps.kp (k : Kp M H H') : ∀ (ds : List D) (vs : List V), Reps K M H ds vs → Reps K M H' ds vs
  | [], vs, h => by unfold Reps at h ⊢; exact h
  | d :: ds, vs, h => by
    unfold Reps at h ⊢
    obtain ⟨v, r, e, q, s⟩ := h
    exact ⟨v, r, e, Rep.kp k d v q, Reps.kp k ds r s⟩
end
mutual
/-- fewer owners, or owners of what wasn't there -/
theorem Rep.more (hM : ∀ b, M' b → M b ∨ H b = none) : ∀ (d : D) (v : V), Rep K M H d v → Rep K M' H d v
  | .non, v, h => by unfold Rep at h ⊢; exact h
  | .bl b, v, h => by unfold Rep at h ⊢; exact h
  | .int i, v, h => by unfold Rep at h ⊢; exact h
  | .str x, v, h => by unfold Rep at h ⊢; exact h
  | .tup ds, v, h => by
    unfold Rep at h ⊢
    obtain ⟨a, vs, e, q, r⟩ := h
    exact ⟨a, vs, e, q, Reps.more hM ds vs r⟩
  | .lst ds, v, h => by
    unfold Rep at h ⊢
    obtain ⟨a, vs, e, n, q, r⟩ := h
    exact ⟨a, vs, e, fun z => (hM _ z).elim n (fun e => by rw [q] at e; cases e), q, Reps.more hM ds vs r⟩
  | .fz ds, v, h => by
    unfold Rep at h ⊢
    obtain ⟨a, vs, e, q, r⟩ := h
    exact ⟨a, vs, e, q, Reps.more hM ds vs r⟩
  | .dct ks ds, v, h => by
    unfold Rep at h ⊢
    obtain ⟨a, vs, e, n, q, l, r⟩ := h
    exact ⟨a, vs, e, fun z => (hM _ z).elim n (fun e => by rw [q] at e; cases e), q, l, Reps.more hM ds vs r⟩
theorem Reps.more (hM : ∀ b, M' b → M b ∨ H b = none) : ∀ (ds : List D) (vs : List V), Reps K M H ds vs → Reps K M' H ds vs
  | [], vs, h => by unfold Reps at h ⊢; exact h
  | d :: ds, vs, h => by
    unfold Reps at h ⊢
    obtain ⟨v, r, e, q, s⟩ := h
    exact ⟨v, r, e, Rep.more hM d v q, Reps.more hM ds r s⟩
end
theorem Reps.length : ∀ (ds : List D) (vs : List V), Reps K M H ds vs → ds.length = vs.length
  | [], vs, h => by unfold Reps at h; subst h; rfl
  | d :: ds, vs, h => by
    unfold Reps at h
    obtain ⟨v, r, rfl, q, s⟩ := h
    rw [List.length_cons, List.length_cons, Reps.length ds r s]
theorem Reps.get : ∀ (ds : List D) (vs : List V), Reps K M H ds vs → ∀ (i : Nat) (d : D), ds[i]? = some d → ∃ v, vs[i]? = some v ∧ Rep K M H d v
  | [], vs, h, i, d, e => by simp at e
  | d :: ds, vs, h, i, d', e => by
    unfold Reps at h
    obtain ⟨v, r, rfl, q, s⟩ := h
    cases i with
    | zero => simp at e; subst e; exact ⟨v, rfl, q⟩
    | succ i => exact Reps.get ds r s i d' (by simpa using e)
theorem Reps.of : ∀ (ds : List D) (vs : List V), ds.length = vs.length → (∀ (i : Nat) d v, ds[i]? = some d → vs[i]? = some v → Rep K M H d v) → Reps K M H ds vs
  | [], vs, l, _ => by unfold Reps; exact List.length_eq_zero_iff.mp l.symm
  | d :: ds, [], l, _ => by cases l
  | d :: ds, v :: vs, l, h => by
    unfold Reps
    exact ⟨v, vs, rfl, h 0 d v rfl rfl, Reps.of ds vs (Nat.succ.inj l) fun i d' v' e e' => h (i + 1) d' v' (by simpa using e) (by simpa using e')⟩
theorem Reps.append : ∀ (ds es : List D) (vs ws : List V), Reps K M H ds vs → Reps K M H es ws → Reps K M H (ds ++ es) (vs ++ ws)
  | [], es, vs, ws, h, k => by unfold Reps at h; subst h; exact k
  | d :: ds, es, vs, ws, h, k => by
    unfold Reps at h
    obtain ⟨v, r, rfl, q, s⟩ := h
    show Reps K M H (d :: (ds ++ es)) (v :: (r ++ ws))
    unfold Reps
    exact ⟨v, r ++ ws, rfl, q, Reps.append ds es r ws s k⟩
theorem Reps.one {d : D} {v : V} (h : Rep K M H d v) : Reps K M H [d] [v] := by
  unfold Reps
  exact ⟨v, [], rfl, h, by unfold Reps; rfl⟩
theorem Reps.nil : Reps K M H [] [] := by unfold Reps; rfl
theorem Reps.cons {d : D} {v : V} {ds : List D} {vs : List V} (h : Rep K M H d v) (r : Reps K M H ds vs) : Reps K M H (d :: ds) (v :: vs) := by
  unfold Reps
  exact ⟨v, vs, rfl, h, r⟩
theorem Reps.take : ∀ (n : Nat) (ds : List D) (vs : List V), Reps K M H ds vs → Reps K M H (ds.take n) (vs.take n)
  | 0, ds, vs, h => by simpa using Reps.nil
  | n + 1, [], vs, h => by unfold Reps at h; subst h; simpa using Reps.nil
  | n + 1, d :: ds, vs, h => by
    unfold Reps at h
    obtain ⟨v, r, rfl, q, s⟩ := h
    exact Reps.cons q (Reps.take n ds r s)
theorem Reps.drop : ∀ (n : Nat) (ds : List D) (vs : List V), Reps K M H ds vs → Reps K M H (ds.drop n) (vs.drop n)
  | 0, ds, vs, h => h
  | n + 1, [], vs, h => by unfold Reps at h; subst h; simpa using Reps.nil
  | n + 1, d :: ds, vs, h => by
    unfold Reps at h
    obtain ⟨v, r, rfl, q, s⟩ := h
    exact Reps.drop n ds r s
theorem Reps.set {d : D} {v : V} (h : Rep K M H d v) : ∀ (i : Nat) (ds : List D) (vs : List V), Reps K M H ds vs → Reps K M H (ds.set i d) (vs.set i v)
  | _, [], vs, r => by unfold Reps at r; subst r; exact Reps.nil
  | 0, x :: ds, vs, r => by
    unfold Reps at r
    obtain ⟨w, r, rfl, q, s⟩ := r
    exact Reps.cons h s
  | i + 1, x :: ds, vs, r => by
    unfold Reps at r
    obtain ⟨w, r, rfl, q, s⟩ := r
    exact Reps.cons q (Reps.set h i ds r s)
theorem Reps.ints (ns : List Int) : Reps K M H (ns.map D.int) (ns.map V.int) := by
  induction ns with
  | nil => exact Reps.nil
  | cons n r ih => exact Reps.cons (by unfold Rep; rfl) ih
end

/-! ### the state of a def's frame -/
inductive Sl where
  | no | dat (d : D) | own (a : Addr) (d : D)

structure Gf where
  M0 : Addr → Prop
  H0 : Hp
  Pm : Addr → Prop

def OwnAt (K : PySem.W.Frag) (M : Addr → Prop) (H : Hp) (a : Addr) : D → Prop
  | .lst ds => ∃ vs, H a = some (.lst vs) ∧ Reps K M H ds vs
  | .dct ks ds => ∃ vs, H a = some (.dK (kvsOf ks vs)) ∧ ks.length = ds.length ∧ Reps K M H ds vs
  | _ => False

structure Sx (K : PySem.W.Frag) (G : Gf) (A : Addr → Prop) (δ : List Sl) (P : List (D × V)) (σ : St) (H : Hp) : Prop where
  old : ∀ b o, G.H0 b = some o → ¬ G.Pm b → H b = some o
  stay : ∀ b, G.H0 b ≠ none → H b ≠ none
  m0 : ∀ b, G.M0 b → G.H0 b ≠ none
  pm : ∀ b, G.Pm b → G.H0 b ≠ none ∧ ¬ G.M0 b
  new : ∀ b, A b → G.H0 b = none ∨ G.Pm b
  thr : ∀ b, A b → H b ≠ none
  len : δ.length = σ.length
  dat : ∀ (i : Nat) d, δ[i]? = some (.dat d) → ∃ v, σ[i]? = some (some v) ∧ Rep K (fun b => G.M0 b ∨ A b) H d v
  own : ∀ (i : Nat) a d, δ[i]? = some (.own a d) → σ[i]? = some (some (.ref a)) ∧ A a ∧ OwnAt K (fun b => G.M0 b ∨ A b) H a d
  inj : ∀ (i j : Nat) a d e, δ[i]? = some (.own a d) → δ[j]? = some (.own a e) → i = j
  pnd : ∀ p ∈ P, Rep K (fun b => G.M0 b ∨ A b) H p.1 p.2
def S (K : PySem.W.Frag) (G : Gf) (δ : List Sl) (P : List (D × V)) (σ : St) (H : Hp) : Prop := ∃ A, Sx K G A δ P σ H

/-- a pure answer: M the owned, ds what is handed in, R what comes -/
def pureR (K : PySem.W.Frag) (f : List D → (D → Prop) → Prop) (vs : List V) (H : Hp) (Q : VK) : Prop :=
  ∃ (M : Addr → Prop) (ds : List D) (R : D → Prop), (∀ b, M b → H b ≠ none) ∧ Reps K M H ds vs ∧ f ds R ∧ ∀ d, R d → ∀ v H', Same H H' → Rep K M H' d v → Q v H'

section
variable {K : PySem.W.Frag} {G : Gf} {A : Addr → Prop} {δ : List Sl} {P P' : List (D × V)} {σ : St} {H H' : Hp}
theorem OwnAt.kp {M : Addr → Prop} {a : Addr} {d : D} (k : Kp M H H') (e : H' a = H a) (h : OwnAt K M H a d) : OwnAt K M H' a d := by
  cases d with
  | lst ds =>
    obtain ⟨vs, q, r⟩ := h
    exact ⟨vs, e.trans q, Reps.kp k _ _ r⟩
  | dct ks ds =>
    obtain ⟨vs, q, l, r⟩ := h
    exact ⟨vs, e.trans q, l, Reps.kp k _ _ r⟩
  | _ => exact h.elim
theorem OwnAt.more {M M' : Addr → Prop} {a : Addr} {d : D} (hM : ∀ b, M' b → M b ∨ H b = none) (h : OwnAt K M H a d) : OwnAt K M' H a d := by
  cases d with
  | lst ds =>
    obtain ⟨vs, q, r⟩ := h
    exact ⟨vs, q, Reps.more hM _ _ r⟩
  | dct ks ds =>
    obtain ⟨vs, q, l, r⟩ := h
    exact ⟨vs, q, l, Reps.more hM _ _ r⟩
  | _ => exact h.elim
theorem Sx.sub (s : Sx K G A δ P σ H) (h : ∀ p ∈ P', p ∈ P) : Sx K G A δ P' σ H :=
  ⟨s.old, s.stay, s.m0, s.pm, s.new, s.thr, s.len, s.dat, s.own, s.inj, fun p hp => s.pnd p (h p hp)⟩
theorem S.sub (s : S K G δ P σ H) (h : ∀ p ∈ P', p ∈ P) : S K G δ P' σ H := let ⟨A, x⟩ := s; ⟨A, x.sub h⟩
/-- nothing was changed; more stands there -/
theorem Sx.same (s : Sx K G A δ P σ H) (h : Same H H') : Sx K G A δ P σ H' where
  old := fun b o e n => h b o (s.old b o e n)
  stay := fun b e => by
    cases q : H b with
    | none => exact absurd q (s.stay b e)
    | some o => rw [h b o q]; exact fun z => nomatch z
  m0 := s.m0
  pm := s.pm
  new := s.new
  thr := fun b e => by
    cases q : H b with
    | none => exact absurd q (s.thr b e)
    | some o => rw [h b o q]; exact fun z => nomatch z
  len := s.len
  dat := fun i d e => let ⟨v, q, r⟩ := s.dat i d e; ⟨v, q, Rep.kp (Kp.of_same h) _ _ r⟩
  own := fun i a d e => by
    obtain ⟨q, a1, o⟩ := s.own i a d e
    refine ⟨q, a1, OwnAt.kp (Kp.of_same h) ?_ o⟩
    cases z : H a with
    | none => exact absurd z (s.thr a a1)
    | some o => exact h a o z
  inj := s.inj
  pnd := fun p hp => Rep.kp (Kp.of_same h) _ _ (s.pnd p hp)
theorem Sx.push (s : Sx K G A δ P σ H) {d : D} {v : V} (h : Rep K (fun b => G.M0 b ∨ A b) H d v) : Sx K G A δ ((d, v) :: P) σ H :=
  ⟨s.old, s.stay, s.m0, s.pm, s.new, s.thr, s.len, s.dat, s.own, s.inj, fun p hp => by
    rcases List.mem_cons.mp hp with rfl | hp
    · exact h
    · exact s.pnd p hp⟩
theorem Sx.mem (s : Sx K G A δ P σ H) : ∀ b, (G.M0 b ∨ A b) → H b ≠ none := fun b h => h.elim (fun z => s.stay b (s.m0 b z)) fun z => s.thr b z
theorem Sx.reps (s : Sx K G A δ P σ H) : ∀ (ds : List D) (vs : List V), ds.length = vs.length → (∀ p ∈ ds.zip vs, p ∈ P) → Reps K (fun b => G.M0 b ∨ A b) H ds vs
  | [], [], _, _ => Reps.nil
  | d :: ds, v :: vs, l, h => Reps.cons (s.pnd (d, v) (h _ (List.mem_cons_self ..))) (Sx.reps s ds vs (Nat.succ.inj l) fun p hp => h p (List.mem_cons_of_mem _ hp))
/-- the move behind every pure step -/
theorem S.pure {f : List D → (D → Prop) → Prop} {ds : List D} {vs : List V} {R : D → Prop} {Q : VK} (s : S K G δ P σ H) (hl : ds.length = vs.length) (hp : ∀ p ∈ ds.zip vs, p ∈ P) (hs : ∀ p ∈ P', p ∈ P) (hf : f ds R)
    (h : ∀ d, R d → ∀ v H', S K G δ ((d, v) :: P') σ H' → Q v H') : pureR K f vs H Q := by
  obtain ⟨A, x⟩ := s
  refine ⟨fun b => G.M0 b ∨ A b, ds, R, x.mem, x.reps ds vs hl hp, hf, fun d r v H' sm rp => h d r v H' ⟨A, ?_⟩⟩
  exact ((x.same sm).sub hs).push rp
/-- a name is given what was reckoned -/
theorem Sx.set {i : Nat} {d : D} {v : V} (s : Sx K G A δ P σ H) (hp : (d, v) ∈ P) (hs : ∀ p ∈ P', p ∈ P) : Sx K G A (δ.set i (.dat d)) P' (σ.set i (some v)) H where
  old := s.old
  stay := s.stay
  m0 := s.m0
  pm := s.pm
  new := s.new
  thr := s.thr
  len := by rw [List.length_set, List.length_set, s.len]
  dat := fun j d' e => by
    by_cases hij : i = j
    · subst hij
      by_cases hl : i < δ.length
      · rw [List.getElem?_set_self hl] at e
        cases e
        exact ⟨v, by rw [List.getElem?_set_self (by rw [← s.len]; exact hl)], s.pnd _ hp⟩
      · rw [List.getElem?_eq_none (by rw [List.length_set]; omega)] at e
        cases e
    · rw [List.getElem?_set_ne hij] at e
      obtain ⟨v', q, r⟩ := s.dat j d' e
      exact ⟨v', by rw [List.getElem?_set_ne hij]; exact q, r⟩
  own := fun j a d' e => by
    by_cases hij : i = j
    · subst hij
      by_cases hl : i < δ.length
      · rw [List.getElem?_set_self hl] at e
        cases e
      · rw [List.getElem?_eq_none (by rw [List.length_set]; omega)] at e
        cases e
    · rw [List.getElem?_set_ne hij] at e
      obtain ⟨q, r⟩ := s.own j a d' e
      exact ⟨by rw [List.getElem?_set_ne hij]; exact q, r⟩
  inj := fun j k a d' e' h1 h2 => by
    have hj : δ[j]? = some (.own a d') := by
      by_cases hij : i = j
      · subst hij
        by_cases hl : i < δ.length
        · rw [List.getElem?_set_self hl] at h1; cases h1
        · rw [List.getElem?_eq_none (by rw [List.length_set]; omega)] at h1; cases h1
      · rw [List.getElem?_set_ne hij] at h1; exact h1
    have hk : δ[k]? = some (.own a e') := by
      by_cases hij : i = k
      · subst hij
        by_cases hl : i < δ.length
        · rw [List.getElem?_set_self hl] at h2; cases h2
        · rw [List.getElem?_eq_none (by rw [List.length_set]; omega)] at h2; cases h2
      · rw [List.getElem?_set_ne hij] at h2; exact h2
    exact s.inj j k a d' e' hj hk
  pnd := fun p h => s.pnd p (hs p h)
theorem S.set {i : Nat} {d : D} {v : V} (s : S K G δ P σ H) (hp : (d, v) ∈ P) (hs : ∀ p ∈ P', p ∈ P) : S K G (δ.set i (.dat d)) P' (σ.set i (some v)) H := let ⟨A, x⟩ := s; ⟨A, x.set hp hs⟩
end
end DL

namespace DL
open PySem L2
section
variable {K : PySem.W.Frag} {G : Gf} {A : Addr → Prop} {δ : List Sl} {P P' : List (D × V)} {σ : St} {H H' : Hp}
theorem set_get {α : Type} {l : List α} {i j : Nat} {x y : α} (h : (l.set i x)[j]? = some y) : (i = j ∧ x = y ∧ i < l.length) ∨ (i ≠ j ∧ l[j]? = some y) := by
  by_cases e : i = j
  · subst e
    by_cases hl : i < l.length
    · rw [List.getElem?_set_self hl] at h
      exact .inl ⟨rfl, Option.some.inj h, hl⟩
    · rw [List.getElem?_eq_none (by rw [List.length_set]; omega)] at h
      cases h
  · rw [List.getElem?_set_ne e] at h
    exact .inr ⟨e, h⟩
/-- a new thing becomes the frame's own -/
theorem Sx.claim {i : Nat} {a : Addr} {d : D} (s : Sx K G A δ P σ H) (hn : H a = none) (hs : Same H H') (ho : OwnAt K (fun b => (G.M0 b ∨ A b) ∨ b = a) H' a d) (hP : ∀ p ∈ P', p ∈ P) :
    Sx K G (fun b => A b ∨ b = a) (δ.set i (.own a d)) P' (σ.set i (some (.ref a))) H' := by
  have x := s.same hs
  have hM : ∀ b, (G.M0 b ∨ (A b ∨ b = a)) → (G.M0 b ∨ A b) ∨ H b = none := fun b h => by
    rcases h with h | h | h
    · exact .inl (.inl h)
    · exact .inl (.inr h)
    · subst h; exact .inr hn
  have hM2 : ∀ b, (G.M0 b ∨ (A b ∨ b = a)) → ((G.M0 b ∨ A b) ∨ b = a) ∨ H' b = none := fun b h => by
    rcases h with h | h | h
    · exact .inl (.inl (.inl h))
    · exact .inl (.inl (.inr h))
    · exact .inl (.inr h)
  have up : ∀ d v, Rep K (fun b => G.M0 b ∨ A b) H d v → Rep K (fun b => G.M0 b ∨ (A b ∨ b = a)) H' d v := fun d v r => Rep.kp (Kp.of_same hs) _ _ (Rep.more hM _ _ r)
  have na : ∀ b, A b → b ≠ a := fun b h e => s.thr b h (by rw [e]; exact hn)
  have h0 : G.H0 a = none := by
    cases q : G.H0 a with
    | none => rfl
    | some o => exact absurd hn (s.stay a (by rw [q]; exact fun z => nomatch z))
  have hne : H' a ≠ none := by
    cases d with
    | lst ds => obtain ⟨vs, q, _⟩ := ho; rw [q]; exact fun z => nomatch z
    | dct ks ds => obtain ⟨vs, q, _⟩ := ho; rw [q]; exact fun z => nomatch z
    | _ => exact ho.elim
  refine ⟨x.old, x.stay, x.m0, x.pm, fun b h => h.elim (s.new b) fun e => .inl (by rw [e]; exact h0), fun b h => h.elim (x.thr b) fun e => by rw [e]; exact hne, by rw [List.length_set, List.length_set, s.len], fun j d' e => ?_, fun j b d' e => ?_,
    fun j k b d' e' h1 h2 => ?_, fun p hp => up _ _ (s.pnd p (hP p hp))⟩
  · rcases set_get e with ⟨_, z, _⟩ | ⟨hij, e⟩
    · cases z
    · obtain ⟨v, q, r⟩ := s.dat j d' e
      exact ⟨v, by rw [List.getElem?_set_ne hij]; exact q, up _ _ r⟩
  · rcases set_get e with ⟨hij, z, hl⟩ | ⟨hij, e⟩
    · cases z
      subst hij
      exact ⟨by rw [List.getElem?_set_self (by rw [← s.len]; exact hl)], .inr rfl, OwnAt.more hM2 ho⟩
    · obtain ⟨q, r, o⟩ := s.own j b d' e
      refine ⟨by rw [List.getElem?_set_ne hij]; exact q, .inl r, OwnAt.kp (Kp.of_same hs) ?_ (OwnAt.more hM o)⟩
      cases z : H b with
      | none => exact absurd z (s.thr b r)
      | some o' => exact hs b o' z
  · rcases set_get h1 with ⟨hij, z, hl⟩ | ⟨hij, e⟩
    · cases z
      rcases set_get h2 with ⟨hik, _, _⟩ | ⟨hik, e2⟩
      · rw [← hij, ← hik]
      · exact absurd rfl (na _ (s.own k _ _ e2).2.1)
    · rcases set_get h2 with ⟨hik, z, _⟩ | ⟨hik, e2⟩
      · cases z
        exact absurd rfl (na _ (s.own j _ _ e).2.1)
      · exact s.inj j k b d' e' e e2
/-- an own thing is changed -/
theorem Sx.change {i : Nat} {a : Addr} {d d' : D} (s : Sx K G A δ P σ H) (hi : δ[i]? = some (.own a d)) (hk : ∀ b o, b ≠ a → H b = some o → H' b = some o) (ho : OwnAt K (fun b => G.M0 b ∨ A b) H' a d') :
    Sx K G A (δ.set i (.own a d')) P σ H' := by
  obtain ⟨si, ai, oi⟩ := s.own i a d hi
  have hmu : (∀ xs, H a ≠ some (.tup xs)) ∧ ∀ o u, H a ≠ some (.frz o u) := by
    cases d with
    | lst ds => obtain ⟨vs, q, _⟩ := oi; rw [q]; exact ⟨fun _ z => (nomatch z), fun _ _ z => (nomatch z)⟩
    | dct ks ds => obtain ⟨vs, q, _⟩ := oi; rw [q]; exact ⟨fun _ z => (nomatch z), fun _ _ z => (nomatch z)⟩
    | _ => exact oi.elim
  have hne : H' a ≠ none := by
    cases d' with
    | lst ds => obtain ⟨vs, q, _⟩ := ho; rw [q]; exact fun z => nomatch z
    | dct ks ds => obtain ⟨vs, q, _⟩ := ho; rw [q]; exact fun z => nomatch z
    | _ => exact ho.elim
  have kp : Kp (fun b => G.M0 b ∨ A b) H H' := ⟨fun b o e n => hk b o (fun z => n (.inr (by rw [z]; exact ai))) e, fun b xs e => hk b _ (fun z => hmu.1 xs (by rw [← z]; exact e)) e,
    fun b o u e => hk b _ (fun z => hmu.2 o u (by rw [← z]; exact e)) e⟩
  have stay : ∀ b, H b ≠ none → H' b ≠ none := fun b e => by
    by_cases z : b = a
    · rw [z]; exact hne
    · cases q : H b with
      | none => exact absurd q e
      | some o => rw [hk b o z q]; exact fun z => nomatch z
  have na : ∀ b o, G.H0 b = some o → ¬ G.Pm b → b ≠ a := fun b o e n z => (s.new a ai).elim (fun q => by rw [z] at e; rw [e] at q; cases q) fun q => n (by rw [z]; exact q)
  refine ⟨fun b o e n => hk b o (na b o e n) (s.old b o e n), fun b e => stay b (s.stay b e), s.m0, s.pm, s.new, fun b e => stay b (s.thr b e), by rw [List.length_set, s.len], fun j x e => ?_, fun j b x e => ?_, fun j k b x y h1 h2 => ?_,
    fun p hp => Rep.kp kp _ _ (s.pnd p hp)⟩
  · rcases set_get e with ⟨_, z, _⟩ | ⟨hij, e⟩
    · cases z
    · obtain ⟨v, q, r⟩ := s.dat j x e
      exact ⟨v, q, Rep.kp kp _ _ r⟩
  · rcases set_get e with ⟨hij, z, hl⟩ | ⟨hij, e9⟩
    · cases z
      subst hij
      exact ⟨si, ai, ho⟩
    · clear e
      obtain ⟨q, r, o⟩ := s.own j b x e9
      have hb : b ≠ a := fun z => by rw [z] at e9; exact hij (s.inj _ _ _ _ _ hi e9)
      refine ⟨q, r, OwnAt.kp kp ?_ o⟩
      cases z : H b with
      | none => exact absurd z (s.thr b r)
      | some o' => exact hk b o' hb z
  · have hj : ∃ x', δ[j]? = some (.own b x') := by
      rcases set_get h1 with ⟨hij, z, hl⟩ | ⟨hij, e⟩
      · cases z; subst hij; exact ⟨_, hi⟩
      · exact ⟨_, e⟩
    have hk' : ∃ x', δ[k]? = some (.own b x') := by
      rcases set_get h2 with ⟨hij, z, hl⟩ | ⟨hij, e⟩
      · cases z; subst hij; exact ⟨_, hi⟩
      · exact ⟨_, e⟩
    obtain ⟨x1, e1⟩ := hj
    obtain ⟨x2, e2⟩ := hk'
    exact s.inj j k b x1 x2 e1 e2
/-- an own thing is only read from now on -/
theorem OwnAt.rep {M M' : Addr → Prop} {a : Addr} {d : D} (h : OwnAt K M H a d) (n : ¬ M' a) (hM : ∀ b, M' b → M b) : Rep K M' H d (.ref a) := by
  cases d with
  | lst ds =>
    obtain ⟨vs, q, r⟩ := h
    unfold Rep
    exact ⟨a, vs, rfl, n, q, Reps.more (fun b z => .inl (hM b z)) _ _ r⟩
  | dct ks ds =>
    obtain ⟨vs, q, l, r⟩ := h
    unfold Rep
    exact ⟨a, vs, rfl, n, q, l, Reps.more (fun b z => .inl (hM b z)) _ _ r⟩
  | _ => exact h.elim
theorem Sx.freeze {i : Nat} {a : Addr} {d : D} (s : Sx K G A δ P σ H) (hi : δ[i]? = some (.own a d)) (hp : ¬ G.M0 a) : Sx K G (fun b => A b ∧ b ≠ a) (δ.set i (.dat d)) P σ H := by
  obtain ⟨si, ai, oi⟩ := s.own i a d hi
  have hM : ∀ b, (G.M0 b ∨ (A b ∧ b ≠ a)) → (G.M0 b ∨ A b) := fun b h => h.elim .inl fun z => .inr z.1
  have dn : ∀ d v, Rep K (fun b => G.M0 b ∨ A b) H d v → Rep K (fun b => G.M0 b ∨ (A b ∧ b ≠ a)) H d v := fun d v r => Rep.more (fun b z => .inl (hM b z)) _ _ r
  refine ⟨s.old, s.stay, s.m0, s.pm, fun b h => s.new b h.1, fun b h => s.thr b h.1, by rw [List.length_set, s.len], fun j x e => ?_, fun j b x e => ?_, fun j k b x y h1 h2 => ?_, fun p hp => dn _ _ (s.pnd p hp)⟩
  · rcases set_get e with ⟨hij, z, _⟩ | ⟨hij, e⟩
    · cases z; subst hij
      exact ⟨.ref a, si, oi.rep (fun z => z.elim hp fun q => q.2 rfl) hM⟩
    · obtain ⟨v, q, r⟩ := s.dat j x e
      exact ⟨v, q, dn _ _ r⟩
  · rcases set_get e with ⟨_, z, _⟩ | ⟨hij, e9⟩
    · cases z
    · clear e
      obtain ⟨q, r, o⟩ := s.own j b x e9
      have hb : b ≠ a := fun z => by rw [z] at e9; exact hij (s.inj _ _ _ _ _ hi e9)
      exact ⟨q, ⟨r, hb⟩, OwnAt.more (fun b z => .inl (hM b z)) o⟩
  · rcases set_get h1 with ⟨_, z, _⟩ | ⟨_, e1⟩
    · cases z
    · rcases set_get h2 with ⟨_, z, _⟩ | ⟨_, e2⟩
      · cases z
      · exact s.inj j k b x y e1 e2
end
end DL

namespace DL
open PySem PySem.Spec PyProof.Rows L2

inductive W where
  | d (x : D) | o (i : Nat)
abbrev En := List Sl
abbrev TDE := En → (W → En → Prop) → Prop
abbrev TDA := En → (List D → En → Prop) → Prop
abbrev TDT := En → (Bool → En → Prop) → Prop
structure DEnds where
  nx : En → Prop
  rt : D → En → Prop
  bk : En → Prop := fun _ => False
  ct : En → Prop := fun _ => False
  ro : D → Prop := fun _ => False
abbrev TDS := DEnds → En → Prop
abbrev TDG := D → En → (En → Prop) → Prop
abbrev TDGs := List D → En → (En → Prop) → Prop

def wd (R : D → En → Prop) : W → En → Prop
  | .d x, δ => R x δ
  | .o _, _ => False

def up (K : PySem.W.Frag) (t : TDE) : TE := fun σ H Q => ∃ (G : Gf) (δ : En) (P : List (D × V)) (R : W → En → Prop), S K G δ P σ H ∧ t δ R ∧
  (∀ x δ', R (.d x) δ' → ∀ v H', S K G δ' ((x, v) :: P) σ H' → Q v H') ∧ (∀ i δ', R (.o i) δ' → ∀ a d H', S K G δ' P σ H' → δ'[i]? = some (.own a d) → Q (.ref a) H')
def upA (K : PySem.W.Frag) (t : TDA) : TA := fun σ H Q => ∃ (G : Gf) (δ : En) (P : List (D × V)) (R : List D → En → Prop), S K G δ P σ H ∧ t δ R ∧
  ∀ ds δ', R ds δ' → ∀ vs H', ds.length = vs.length → S K G δ' (ds.zip vs ++ P) σ H' → Q vs H'
def upT (K : PySem.W.Frag) (t : TDT) : TT := fun σ H Q => ∃ (G : Gf) (δ : En) (P : List (D × V)) (R : Bool → En → Prop), S K G δ P σ H ∧ t δ R ∧
  ∀ b δ', R b δ' → ∀ H', S K G δ' P σ H' → Q b H'
def upG (K : PySem.W.Frag) (t : TDG) : TG := fun v σ H Q => ∃ (G : Gf) (δ : En) (P : List (D × V)) (d : D) (R : En → Prop), S K G δ ((d, v) :: P) σ H ∧ t d δ R ∧
  ∀ δ', R δ' → ∀ σ' H', S K G δ' P σ' H' → Q σ' H'
def upGs (K : PySem.W.Frag) (t : TDGs) : TGs := fun vs σ H Q => ∃ (G : Gf) (δ : En) (P : List (D × V)) (ds : List D) (R : En → Prop), ds.length = vs.length ∧ S K G δ (ds.zip vs ++ P) σ H ∧ t ds δ R ∧
  ∀ δ', R δ' → ∀ σ' H', S K G δ' P σ' H' → Q σ' H'
/-- a thing of the frame's own is handed back -/
def OwnRet (K : PySem.W.Frag) (G : Gf) (H' : Hp) (a : Addr) (d : D) : Prop := (∀ b o, G.H0 b = some o → ¬ G.Pm b → H' b = some o) ∧ (G.H0 a = none ∨ G.Pm a) ∧ ¬ G.M0 a ∧ OwnAt K (fun b => G.M0 b ∨ b = a) H' a d
def upS (K : PySem.W.Frag) (t : TDS) : TS := fun E σ H => ∃ (G : Gf) (δ : En) (P : List (D × V)) (R : DEnds), S K G δ P σ H ∧ t R δ ∧
  (∀ δ', R.nx δ' → ∀ σ' H', S K G δ' P σ' H' → E.nx σ' H') ∧ ((∀ d δ', R.rt d δ' → ∀ v σ' H', S K G δ' ((d, v) :: P) σ' H' → E.rt v H') ∧ ∀ d, R.ro d → ∀ a H', OwnRet K G H' a d → E.rt (.ref a) H') ∧
  (∀ δ', R.bk δ' → ∀ σ' H', S K G δ' P σ' H' → E.bk σ' H') ∧ (∀ δ', R.ct δ' → ∀ σ' H', S K G δ' P σ' H' → E.ct σ' H')

def DE (X : Cx) (e : Expr) (t : TDE) : Prop := PE X e (up X.K t)
def DA (X : Cx) (es : List Expr) (t : TDA) : Prop := PA X es (upA X.K t)
def DT (X : Cx) (e : Expr) (t : TDT) : Prop := PT X e (upT X.K t)
def DW (X : Cx) (e : Expr) (t : TDT) : Prop := PW X e (upT X.K t)
def DG (X : Cx) (e : Expr) (t : TDG) : Prop := PG X e (upG X.K t)
def DGs (X : Cx) (e : List Expr) (t : TDGs) : Prop := PGs X e (upGs X.K t)
def DS (X : Cx) (st : Stmt) (t : TDS) : Prop := PS X st (upS X.K t)
def DSs (X : Cx) (st : List Stmt) (t : TDS) : Prop := PSs X st (upS X.K t)

section
variable {X : Cx} {e : Expr} {pos : Pos}
theorem PE.imp {t t' : TE} (h : PE X e t) (i : ∀ σ H Q, t' σ H Q → t σ H Q) : PE X e t' := fun pins s σ H Q I q => h pins s σ H Q I (i σ H Q q)
theorem PT.imp {t t' : TT} (h : PT X e t) (i : ∀ σ H Q, t' σ H Q → t σ H Q) : PT X e t' := fun pins s σ H Q I q => h pins s σ H Q I (i σ H Q q)
theorem PW.imp {t t' : TT} (h : PW X e t) (i : ∀ σ H Q, t' σ H Q → t σ H Q) : PW X e t' := fun wh pins s σ H Q I q => h wh pins s σ H Q I (i σ H Q q)
theorem PA.imp {es : List Expr} {t t' : TA} (h : PA X es t) (i : ∀ σ H Q, t' σ H Q → t σ H Q) : PA X es t' := fun p pins s σ H Q I q => h p pins s σ H Q I (i σ H Q q)
theorem PS.imp {st : Stmt} {t t' : TS} (h : PS X st t) (i : ∀ E σ H, t' E σ H → t E σ H) : PS X st t' := fun pins s σ H D I q => h pins s σ H D I (i D σ H q)
theorem PSs.imp {st : List Stmt} {t t' : TS} (h : PSs X st t) (i : ∀ E σ H, t' E σ H → t E σ H) : PSs X st t' := fun pins s σ H D I q => h pins s σ H D I (i D σ H q)
theorem PG.imp {t t' : TG} (h : PG X e t) (i : ∀ v σ H Q, t' v σ H Q → t v σ H Q) : PG X e t' := fun pins s σ H v u Q I r q => h pins s σ H v u Q I r (i v σ H Q q)
theorem PGs.imp {es : List Expr} {t t' : TGs} (h : PGs X es t) (i : ∀ v σ H Q, t' v σ H Q → t v σ H Q) : PGs X es t' := fun pins s σ H v u Q I r q => h pins s σ H v u Q I r (i v σ H Q q)
theorem OpR.imp {f : Value → Value → Sem Value} {r r' : R2} (h : OpR X f r) (i : ∀ x y H Q, r' x y H Q → r x y H Q) : OpR X f r' := fun pins s σ H x y v u Q I rx ry q => h pins s σ H x y v u Q I rx ry (i x y H Q q)
theorem UnR.imp {f : Value → Sem Value} {r r' : V → Hp → VK → Prop} (h : UnR X f r) (i : ∀ x H Q, r' x H Q → r x H Q) : UnR X f r' := fun pins s σ H x v Q I rx q => h pins s σ H x v Q I rx (i x H Q q)
theorem CallR.imp {f : Value} {r r' : List V → Hp → VK → Prop} (h : CallR X f r) (i : ∀ xs H Q, r' xs H Q → r xs H Q) : CallR X f r' := fun pins s σ H x v Q I rx q => h pins s σ H x v Q I rx (i x H Q q)
theorem IxR.imp {r r' : R2} (h : IxR X r) (i : ∀ x y H Q, r' x y H Q → r x y H Q) : IxR X r' := fun value slice pins s σ H x y v u Q I rx ry q hs => h value slice pins s σ H x y v u Q I rx ry (i x y H Q q) hs
end

section
variable {K : PySem.W.Frag} {G : Gf} {δ : En} {P : List (D × V)} {σ : L2.St} {H : Hp}
theorem up.mk {t : TDE} {R : D → En → Prop} {Q : VK} (s : S K G δ P σ H) (h : t δ (wd R)) (k : ∀ x δ', R x δ' → ∀ v H', S K G δ' ((x, v) :: P) σ H' → Q v H') : up K t σ H Q := ⟨G, δ, P, wd R, s, h, k, fun _ _ z => z.elim⟩
theorem S.dat {i : Nat} {d : D} (s : S K G δ P σ H) (e : δ[i]? = some (.dat d)) : ∃ v, σ[i]? = some (some v) ∧ S K G δ ((d, v) :: P) σ H := by
  obtain ⟨A, x⟩ := s
  obtain ⟨v, q, r⟩ := x.dat i d e
  exact ⟨v, q, A, x.push r⟩
theorem S.own {i : Nat} {a : Addr} {d : D} (s : S K G δ P σ H) (e : δ[i]? = some (.own a d)) : σ[i]? = some (some (.ref a)) := let ⟨_, x⟩ := s; (x.own i a d e).1
/-- a scalar -/
def sc : D → Option V
  | .non => some .non
  | .bl b => some (.bl b)
  | .int i => some (.int i)
  | .str x => some (.str x)
  | _ => none
theorem Rep.sc {M : Addr → Prop} {d : D} {v : V} (h : sc d = some v) : Rep K M H d v := by
  cases d <;> simp only [DL.sc, Option.some.injEq, reduceCtorEq] at h <;> subst h <;> unfold Rep <;> rfl
theorem S.sc {d : D} {v : V} (s : S K G δ P σ H) (h : sc d = some v) : S K G δ ((d, v) :: P) σ H := let ⟨A, x⟩ := s; ⟨A, x.push (Rep.sc h)⟩
end

/-! ### expressions -/
def dV (i : Nat) : TDE := fun δ R => ∃ d, δ[i]? = some (.dat d) ∧ R (.d d) δ
def dO (i : Nat) : TDE := fun δ R => ∃ a d, δ[i]? = some (.own a d) ∧ R (.o i) δ
def dC (d : D) : TDE := fun δ R => R (.d d) δ
def dOp (f : List D → (D → Prop) → Prop) (ta tb : TDE) : TDE := fun δ R => ta δ (wd fun x δ1 => tb δ1 (wd fun y δ2 => f [x, y] fun d => R (.d d) δ2))
def dUn (f : List D → (D → Prop) → Prop) (ta : TDE) : TDE := fun δ R => ta δ (wd fun x δ1 => f [x] fun d => R (.d d) δ1)
def dANil : TDA := fun δ R => R [] δ
def dACons (te : TDE) (t : TDA) : TDA := fun δ R => te δ (wd fun x δ1 => t δ1 fun ds δ2 => R (x :: ds) δ2)
def dCall (f : List D → (D → Prop) → Prop) (t : TDA) : TDE := fun δ R => t δ fun ds δ1 => f ds fun d => R (.d d) δ1
def dTup (t : TDA) : TDE := fun δ R => t δ fun ds δ1 => ds.length ≤ 1000 ∧ R (.d (.tup ds)) δ1
def dLst (t : TDA) : TDE := fun δ R => t δ fun ds δ1 => ds.length ≤ 1000 ∧ R (.d (.lst ds)) δ1
def dTst (t : TDE) : TDT := fun δ R => t δ (wd fun x δ1 => ∃ b, x = .bl b ∧ R b δ1)
def dAnd (t u : TDT) : TDT := fun δ R => t δ fun b δ1 => if b = true then u δ1 R else R false δ1
def dOr (t u : TDT) : TDT := fun δ R => t δ fun b δ1 => if b = true then R true δ1 else u δ1 R
def dNot (t : TDT) : TDT := fun δ R => t δ fun b δ1 => R (!b) δ1
def dAndV (t u : TDE) : TDE := fun δ R => t δ (wd fun x δ1 => ∃ b, x = .bl b ∧ if b = true then u δ1 R else R (.d (.bl false)) δ1)
def dOrV (t u : TDE) : TDE := fun δ R => t δ (wd fun x δ1 => ∃ b, x = .bl b ∧ if b = true then R (.d (.bl true)) δ1 else u δ1 R)
def dNotV (t : TDE) : TDE := fun δ R => t δ (wd fun x δ1 => ∃ b, x = .bl b ∧ R (.d (.bl (!b))) δ1)
def dIfE (c : TDT) (t u : TDE) : TDE := fun δ R => c δ fun b δ1 => if b = true then t δ1 R else u δ1 R

section
variable {X : Cx} {pos : Pos} {a b c : Expr} {ta tb : TDE} {t : TDA} {f : List D → (D → Prop) → Prop} {es : List Expr}
theorem de_v (i : Nat) {x : Str} (hN : X.N[i]? = some x := by rfl) (hv : Vis X.env.scope x := by first | exact Or.inl rfl | exact Or.inr (Or.inl rfl) | exact Or.inr (Or.inr rfl)) (hd : (x == ("__debug__" : Str)) = false := by decide)
    (hcd : (x == ("__classdict__" : Str)) = false := by decide) : DE X (.Name x pos) (dV i) := PE.imp (pe_var hN hv hd hcd) fun σ H Q ⟨G, δ, P, R, s, ⟨d, e, r⟩, k, _⟩ => by
  obtain ⟨v, q, s'⟩ := s.dat e
  exact ⟨v, q, k d δ r v H s'⟩
theorem de_c {v : V} {d : D} (h : PE X a (tC v)) (hs : sc d = some v) : DE X a (dC d) := PE.imp h fun σ H Q ⟨G, δ, P, R, s, r, k, _⟩ => k d δ r v H (s.sc hs)
theorem de_int {i j pos} : DE X (.Constant (.int i) j pos) (dC (.int i)) := de_c pe_int rfl
theorem de_bl {i j pos} : DE X (.Constant (.bool i) j pos) (dC (.bl i)) := de_c pe_bl rfl
theorem de_str {x j pos} : DE X (.Constant (.str x) j pos) (dC (.str x)) := de_c pe_str rfl
theorem de_op {op : Operator} (ho : OpR X (binaryOp op) fun x y => pureR X.K f [x, y]) (ha : DE X a ta) (hb : DE X b tb) : DE X (.BinOp a op b pos) (dOp f ta tb) :=
  PE.imp (pe_op ho ha hb) fun σ H Q ⟨G, δ, P, R, s, h, k, _⟩ => up.mk s h fun x δ1 h1 v H1 s1 => up.mk s1 h1 fun y δ2 h2 u H2 s2 =>
    S.pure (P' := P) (ds := [x, y]) (vs := [v, u]) s2 rfl (by simp) (fun p hp => by simp [hp]) h2 fun d r v' H' s' => k d δ2 r v' H' s'
theorem de_cmp {op : CmpOp} (ho : OpR X (compareOp op) fun x y => pureR X.K f [x, y]) (ha : DE X a ta) (hb : DE X b tb) (hm : behindInMarks op b = false) : DE X (.Compare a [op] [b] pos) (dOp f ta tb) :=
  PE.imp (pe_cmpR ho ha hb hm) fun σ H Q ⟨G, δ, P, R, s, h, k, _⟩ => up.mk s h fun x δ1 h1 v H1 s1 => up.mk s1 h1 fun y δ2 h2 u H2 s2 =>
    S.pure (P' := P) (ds := [x, y]) (vs := [v, u]) s2 rfl (by simp) (fun p hp => by simp [hp]) h2 fun d r v' H' s' => k d δ2 r v' H' s'
theorem dt_cmp {op : CmpOp} (ho : OpR X (compareOp op) fun x y => pureR X.K f [x, y]) (ha : DE X a ta) (hb : DE X b tb) (hm : behindInMarks op b = false) : DT X (.Compare a [op] [b] pos) (dTst (dOp f ta tb)) :=
  PT.imp (pt_cmpR ho ha hb hm) fun σ H Q ⟨G, δ, P, R, s, h, k⟩ => up.mk s h fun x δ1 h1 v H1 s1 => up.mk s1 h1 fun y δ2 h2 u H2 s2 =>
    S.pure (P' := P) (ds := [x, y]) (vs := [v, u]) s2 rfl (by simp) (fun p hp => by simp [hp]) h2 fun d r v' H' s' => by
      obtain ⟨b, e, r⟩ := r
      subst e
      have q := s'
      obtain ⟨A, q⟩ := q
      have q2 := q.pnd (.bl b, v') (by simp)
      simp only [Rep] at q2
      exact ⟨b, q2, k b δ2 r H' (s'.sub fun p hp => by simp [hp])⟩
/-- any expression of a truth as a test -/
theorem dt_val (h : DE X a ta) (he : ∀ whole, isTrue a X.env whole = (do let v ← whole; standAt a.pos; holding [v] (truthy v)) := by intro _; rfl) : DT X a (dTst ta) :=
  PT.imp (pt_val h he) fun σ H Q ⟨G, δ, P, R, s, h, k⟩ => up.mk s h fun x δ1 h1 v H1 s1 => by
    obtain ⟨b, e, r⟩ := h1
    subst e
    obtain ⟨A, q⟩ := id s1
    have q2 := q.pnd (.bl b, v) (by simp)
    simp only [Rep] at q2
    exact ⟨b, q2, k b δ1 r H1 (s1.sub fun p hp => by simp [hp])⟩
variable {tA tB' : TDT} {rest : List Expr}
theorem DW.dt (h : DW X a tA) : DT X a tA := PW.pt h
theorem dw_and1 (ha : DT X a tA) : DW X (.BoolOp .And [a] pos) tA := pw_and1 ha
theorem dw_or1 (ha : DT X a tA) : DW X (.BoolOp .Or [a] pos) tA := pw_or1 ha
theorem dw_and (ha : DT X a tA) (hb : DW X (.BoolOp .And (b :: rest) pos) tB') : DW X (.BoolOp .And (a :: b :: rest) pos) (dAnd tA tB') :=
  PW.imp (pw_and ha hb) fun σ H Q ⟨G, δ, P, R, s, h, k⟩ => ⟨G, δ, P, _, s, h, fun b δ1 h1 H1 s1 => by
    cases b with
    | true => exact ⟨G, δ1, P, R, s1, h1, k⟩
    | false => exact k false δ1 h1 H1 s1⟩
theorem dw_or (ha : DT X a tA) (hb : DW X (.BoolOp .Or (b :: rest) pos) tB') : DW X (.BoolOp .Or (a :: b :: rest) pos) (dOr tA tB') :=
  PW.imp (pw_or ha hb) fun σ H Q ⟨G, δ, P, R, s, h, k⟩ => ⟨G, δ, P, _, s, h, fun b δ1 h1 H1 s1 => by
    cases b with
    | true => exact k true δ1 h1 H1 s1
    | false => exact ⟨G, δ1, P, R, s1, h1, k⟩⟩
theorem dt_not (ha : DT X a tA) : DT X (.UnaryOp .Not a pos) (dNot tA) :=
  PT.imp (pt_not ha) fun σ H Q ⟨G, δ, P, R, s, h, k⟩ => ⟨G, δ, P, _, s, h, fun b δ1 h1 H1 s1 => k _ δ1 h1 H1 s1⟩
theorem da_nil : DA X [] dANil := PA.imp pa_nil fun σ H Q ⟨G, δ, P, R, s, h, k⟩ => k [] δ h [] H rfl s
theorem da_cons (ha : DE X a ta) (hr : DA X es t) (hs : starEach (a :: es) X.env = (false, eval a X.env) :: starEach es X.env := by rfl) : DA X (a :: es) (dACons ta t) :=
  PA.imp (pa_cons ha hr hs) fun σ H Q ⟨G, δ, P, R, s, h, k⟩ => up.mk s h fun x δ1 h1 v H1 s1 => ⟨G, δ1, (x, v) :: P, _, s1, h1, fun ds δ2 h2 vs H2 hl s2 =>
    k (x :: ds) δ2 h2 (v :: vs) H2 (by simp [hl]) (s2.sub fun p hp => by
      simp only [List.zip_cons_cons, List.cons_append, List.mem_cons, List.mem_append] at hp ⊢
      rcases hp with h | h | h
      · exact .inr (.inl h)
      · exact .inl h
      · exact .inr (.inr h))⟩
theorem same_new {H : Hp} {p : Addr} (h : H p = none) (o : HO) : Same H (upd H p o) := fun b u q => by rw [upd_ne (ne_of_none q h)]; exact q
theorem small {n : Nat} (h : n ≤ 1000) : n ≤ sizeLine := Nat.le_of_lt (small1000 h)
theorem de_tup {x1} (h : DA X es t) : DE X (.Tuple es x1 pos) (dTup t) :=
  PE.imp (pe_tup h) fun σ H Q ⟨G, δ, P, R, s, h, k, _⟩ => ⟨G, δ, P, _, s, h, fun ds δ1 ⟨hz, h1⟩ vs H1 hl s1 => ⟨by rw [← hl]; exact small hz, fun p hp => by
    obtain ⟨A, x⟩ := s1
    have r := x.reps ds vs hl (fun q hq => List.mem_append_left _ hq)
    have x2 := x.same (same_new hp (.tup vs))
    refine k (.tup ds) δ1 h1 (.ref p) _ ⟨A, (x2.sub fun q hq => List.mem_append_right _ hq).push ?_⟩
    unfold Rep
    exact ⟨p, vs, rfl, SqT.of upd_same, Reps.kp (Kp.of_same (same_new hp _)) _ _ r⟩⟩⟩
theorem de_lst (h : DA X es t) : DE X (.List es pos) (dLst t) :=
  PE.imp (pe_lst h) fun σ H Q ⟨G, δ, P, R, s, h, k, _⟩ => ⟨G, δ, P, _, s, h, fun ds δ1 ⟨hz, h1⟩ vs H1 hl s1 => ⟨by rw [← hl]; exact small hz, fun p hp => by
    obtain ⟨A, x⟩ := s1
    have r := x.reps ds vs hl (fun q hq => List.mem_append_left _ hq)
    have x2 := x.same (same_new hp (.lst vs))
    refine k (.lst ds) δ1 h1 (.ref p) _ ⟨A, (x2.sub fun q hq => List.mem_append_right _ hq).push ?_⟩
    unfold Rep
    exact ⟨p, vs, rfl, fun z => x.mem p z hp, upd_same, Reps.kp (Kp.of_same (same_new hp _)) _ _ r⟩⟩⟩
theorem de_ix (hr : IxR X fun x y => pureR X.K f [x, y]) (ha : DE X a ta) (hb : DE X b tb) (hs : PlainIx b) : DE X (.Subscript a b pos) (dOp f ta tb) :=
  PE.imp (pe_ix hr ha hb hs) fun σ H Q ⟨G, δ, P, R, s, h, k, _⟩ => up.mk s h fun x δ1 h1 v H1 s1 => up.mk s1 h1 fun y δ2 h2 u H2 s2 =>
    S.pure (P' := P) (ds := [x, y]) (vs := [v, u]) s2 rfl (by simp) (fun p hp => by simp [hp]) h2 fun d r v' H' s' => k d δ2 r v' H' s'
/-- what a pure def promises -/
def spD (K : PySem.W.Frag) (f : List D → (D → Prop) → Prop) : Sp := fun vs H Q _ => pureR K f vs H Q
theorem call_red {K : PySem.W.Frag} {σ : L2.St} {H : Hp} {Q : VK} {f : List D → (D → Prop) → Prop} (h : up K (dCall f t) σ H Q) : upA K t σ H fun vs H1 => pureR K f vs H1 Q := by
  obtain ⟨G, δ, P, R, s, h, k, _⟩ := h
  exact ⟨G, δ, P, _, s, h, fun ds δ1 h1 vs H1 hl s1 => S.pure (P' := P) s1 hl (fun p hp => List.mem_append_left _ hp) (fun p hp => List.mem_append_right _ hp) h1 fun d r v' H' s' => k d δ1 r v' H' s'⟩
theorem de_call {x : Str} {k : Nat} {g : Addr} {fd : FuncData} {ps : List Str} {p : Pos} (F : FnOk X.prog X.w X.K X.mg X.base CX0 k g fd ps (spD X.K f)) (hr : Room k X.A) (hg : Gl X x) (hm : X.mg x = some (.ref g)) (hk : PySem.W.keepIn X.K (.ref g) = true)
    (hb : Binds X.K fd ps []) (ha : DA X (a :: es) t) (hdb : (x == ("__debug__" : Str)) = false := by decide) (he : starEach (a :: es) X.env = (false, eval a X.env) :: starEach es X.env := by rfl) (hpl : (backTo pos (starEach es X.env)).any (·.1) = false := by rfl) :
    DE X (.Call (.Name x p) (a :: es) [] pos) (dCall f t) :=
  PE.imp (pe_call F hr hg hm hk hb .nil pass0 ha hdb he hpl) fun σ H Q h => by
    show upA X.K t σ H fun vs H1 => pureR X.K f (vs ++ []) H1 Q
    have q := call_red h
    simpa only [List.append_nil] using q
theorem de_callB {x : Str} {id : String} {p : Pos} (hc : CallR X (.builtin id) (pureR X.K f)) (hg : Gl X x) (hm : X.mg x = none) (hv : bootBuiltins x = some (.builtin id)) (ha : DA X (a :: es) t) (hn : x ≠ "__name__" := by decide) (hdb : (x == ("__debug__" : Str)) = false := by decide)
    (he : starEach (a :: es) X.env = (false, eval a X.env) :: starEach es X.env := by rfl) (hpl : (backTo pos (starEach es X.env)).any (·.1) = false := by rfl) : DE X (.Call (.Name x p) (a :: es) [] pos) (dCall f t) :=
  PE.imp (pe_callB hc hg hm hv ha hn hdb he hpl) fun σ H Q h => call_red h
theorem de_callTy {x : Str} {T : String} {p : Pos} (hc : CallR X (.type T) (pureR X.K f)) (hg : Gl X x) (hm : X.mg x = none) (hv : bootBuiltins x = some (.type T)) (ha : DA X (a :: es) t) (hn : x ≠ "__name__" := by decide) (hdb : (x == ("__debug__" : Str)) = false := by decide)
    (he : starEach (a :: es) X.env = (false, eval a X.env) :: starEach es X.env := by rfl) (hpl : (backTo pos (starEach es X.env)).any (·.1) = false := by rfl) : DE X (.Call (.Name x p) (a :: es) [] pos) (dCall f t) :=
  PE.imp (pe_callTy hc hg hm hv ha hn hdb he hpl) fun σ H Q h => call_red h
end

/-! ### statements -/
def dNext : TDS := fun R δ => R.nx δ
def dSeq (t u : TDS) : TDS := fun R δ => t { R with nx := u R } δ
def dDrop (t : TDE) : TDS := fun R δ => t δ fun _ δ1 => R.nx δ1
def dRet (t : TDE) : TDS := fun R δ => t δ (wd fun x δ1 => R.rt x δ1)
def dIf (c : TDT) (t u : TDS) : TDS := fun R δ => c δ fun b δ1 => if b = true then t R δ1 else u R δ1
def dNever : TDS := fun _ _ => False
def dSet (i : Nat) (t : TDE) : TDS := fun R δ => t δ (wd fun x δ1 => R.nx (δ1.set i (.dat x)))
def dAsg (t : TDE) (g : TDG) : TDS := fun R δ => t δ (wd fun x δ1 => g x δ1 R.nx)
def dPar (i j : Nat) (t : TDA) : TDS := fun R δ => t δ fun ds δ1 => ∃ x y, ds = [x, y] ∧ R.nx ((δ1.set i (.dat x)).set j (.dat y))
def dgName (i : Nat) : TDG := fun x δ R => R (δ.set i (.dat x))
def dgNil : TDGs := fun ds δ R => ds = [] ∧ R δ
def dgCons (t : TDG) (u : TDGs) : TDGs := fun ds δ R => ∃ x r, ds = x :: r ∧ t x δ fun δ1 => u r δ1 R
def dgTup (n : Nat) (t : TDGs) : TDG := fun d δ R => ∃ xs, d = .tup xs ∧ xs.length = n ∧ t xs δ R
def dForL (t : TDE) (g : TDG) (tb : TDS) : TDS := fun R δ => t δ (wd fun d δ1 => ∃ xs, d = .lst xs ∧ ∃ I : Nat → En → Prop, I 0 δ1 ∧
  (∀ i x δ', xs[i]? = some x → I i δ' → g x δ' fun δ2 => tb { R with nx := I (i + 1), ct := I (i + 1), bk := R.nx } δ2) ∧ ∀ δ', I xs.length δ' → R.nx δ')
def dForT (t : TDE) (g : TDG) (tb : TDS) : TDS := fun R δ => t δ (wd fun d δ1 => ∃ xs, d = .tup xs ∧ ∃ I : Nat → En → Prop, I 0 δ1 ∧
  (∀ i x δ', xs[i]? = some x → I i δ' → g x δ' fun δ2 => tb { R with nx := I (i + 1), ct := I (i + 1), bk := R.nx } δ2) ∧ ∀ δ', I xs.length δ' → R.nx δ')
def dForR (t : TDA) (g : TDG) (tb : TDS) : TDS := fun R δ => t δ fun ds δ1 => ∃ j : Int, ds = [.int j] ∧ -(2 ^ 62) ≤ j ∧ j < 2 ^ 62 ∧ ∃ I : Nat → En → Prop, I 0 δ1 ∧
  (∀ i δ', i < j.toNat → I i δ' → g (.int i) δ' fun δ2 => tb { R with nx := I (i + 1), ct := I (i + 1), bk := R.nx } δ2) ∧ ∀ δ', I j.toNat δ' → R.nx δ'

section
variable {X : Cx} {pos : Pos} {a b c e tg : Expr} {ta : TDE} {tA : TDT} {t u : TDS} {st : Stmt} {rest body : List Stmt} {g : TDG} {gs : TDGs} {tda : TDA}
theorem dss_nil : DSs X [] dNext := PSs.imp pss_nil fun E σ H ⟨G, δ, P, R, s, h, k, _⟩ => k δ h σ H s
theorem dss_cons (h1 : DS X st t) (h2 : DSs X rest u) : DSs X (st :: rest) (dSeq t u) :=
  PSs.imp (pss_cons h1 h2) fun E σ H ⟨G, δ, P, R, s, h, k1, k2, k3, k4⟩ => ⟨G, δ, P, { R with nx := u R }, s, h, fun δ' h' σ' H' s' => ⟨G, δ', P, R, s', h', k1, k2, k3, k4⟩, k2, k3, k4⟩
theorem dss_one (h1 : DS X st t) : DSs X [st] t := pss_one h1
theorem ds_ret (he : DE X e ta) : DS X (.Return (some e) pos) (dRet ta) :=
  PS.imp (ps_ret he) fun E σ H ⟨G, δ, P, R, s, h, _, k, _⟩ => up.mk s h fun x δ1 h1 v H1 s1 => k.1 x δ1 h1 v σ H1 s1
theorem ds_if {aa bb : List Stmt} (hc : DT X c tA) (ha : DSs X aa t) (hb : DSs X bb u) : DS X (.If c aa bb pos) (dIf tA t u) :=
  PS.imp (ps_if hc ha hb) fun E σ H ⟨G, δ, P, R, s, h, k1, k2, k3, k4⟩ => ⟨G, δ, P, _, s, h, fun b δ1 h1 H1 s1 => by
    cases b with
    | true => exact ⟨G, δ1, P, R, s1, h1, k1, k2, k3, k4⟩
    | false => exact ⟨G, δ1, P, R, s1, h1, k1, k2, k3, k4⟩⟩
theorem ds_set (i : Nat) {x : Str} {pos' : Pos} (hN : X.N.Nodup) (he : DE X e ta) (hi : X.N[i]? = some x := by rfl) (hx : Loc X.env.scope x := by first | exact Or.inl rfl | exact Or.inr rfl) (hs : swapsWith e (some (.Name x pos')) pos.line X.env = pure false := by rfl)
    (hf : X.fn x = true ∨ X.env.scope.names.lookup x = some .local := by first | exact .inl rfl | exact .inr rfl | assumption) : DS X (.Assign [.Name x pos'] e pos) (dSet i ta) :=
  PS.imp (ps_set hN hi hx he hs hf) fun E σ H ⟨G, δ, P, R, s, h, k, _⟩ => up.mk s h fun x δ1 h1 v H1 s1 => k _ h1 _ H1 (s1.set (by simp) fun p hp => by simp [hp])
theorem dg_name (i : Nat) {x : Str} (hN : X.N.Nodup) (hi : X.N[i]? = some x := by rfl) (hx : Loc X.env.scope x := by first | exact Or.inl rfl | exact Or.inr rfl) (hf : X.fn x = true ∨ X.env.scope.names.lookup x = some .local := by first | exact .inl rfl | exact .inr rfl | assumption) :
    DG X (.Name x pos) (dgName i) := PG.imp (pg_name hN hi hx hf) fun v σ H Q ⟨G, δ, P, d, R, s, h, k⟩ => k _ h _ H (s.set (by simp) fun p hp => by simp [hp])
theorem dgs_nil : DGs X [] dgNil := PGs.imp pgs_nil fun vs σ H Q ⟨G, δ, P, ds, R, hl, s, ⟨e, h⟩, k⟩ => by
  subst e
  have : vs = [] := List.length_eq_zero_iff.mp hl.symm
  subst this
  exact ⟨rfl, k δ h σ H s⟩
theorem dgs_cons {es : List Expr} (h1 : DG X e g) (h2 : DGs X es gs) (hs : (assignEach (e :: es) X.env).map (·.2) = assign e X.env :: (assignEach es X.env).map (·.2) := by rfl) : DGs X (e :: es) (dgCons g gs) :=
  PGs.imp (pgs_cons h1 h2 hs) fun vs σ H Q ⟨G, δ, P, ds, R, hl, s, ⟨x, r, e, h⟩, k⟩ => by
    subst e
    cases vs with
    | nil => cases hl
    | cons v vs =>
      refine ⟨v, vs, rfl, G, δ, r.zip vs ++ P, x, _, s.sub fun p hp => by simpa using hp, h, fun δ1 h1 σ1 H1 s1 => ⟨G, δ1, P, r, R, Nat.succ.inj hl, s1, h1, k⟩⟩
theorem dg_tup {es : List Expr} {kk n : Nat} (hc : X.calm = true) (h : DGs X es gs) (hn : (assignEach es X.env).length = n := by rfl) (hst : (assignEach es X.env).findIdx? (·.1) = none := by rfl) : DG X (.Tuple es kk pos) (dgTup n gs) :=
  PG.imp (pg_tup hc h hn hst) fun v σ H Q ⟨G, δ, P, d, R, s, ⟨xs, e, hl, h⟩, k⟩ => by
    subst e
    obtain ⟨A, x⟩ := s
    have q := x.pnd (.tup xs, v) (by simp)
    simp only [Rep] at q
    obtain ⟨a, vs, e, sq, r⟩ := q
    subst e
    refine ⟨a, vs, rfl, sq, by rw [← Reps.length _ _ r]; exact hl, G, δ, P, xs, R, Reps.length _ _ r, ⟨A, ?_⟩, h, k⟩
    exact ⟨x.old, x.stay, x.m0, x.pm, x.new, x.thr, x.len, x.dat, x.own, x.inj, fun p hp => by
      rcases List.mem_append.mp hp with hp | hp
      · obtain ⟨i, hi, e⟩ := List.mem_iff_getElem.mp hp
        have h1 : i < xs.length := by rw [List.length_zip] at hi; omega
        have h2 : i < vs.length := by rw [List.length_zip] at hi; omega
        obtain ⟨v', e', r'⟩ := Reps.get _ _ r i xs[i] (by simp [h1])
        have : p = (xs[i], vs[i]) := by rw [← e, List.getElem_zip]
        rw [this]
        rw [List.getElem?_eq_getElem h2] at e'
        cases e'
        exact r'
      · exact x.pnd p (by simp [hp])⟩
theorem ds_forL (hp : PassesOwn (model X.prog X.w) X.A X.env X.xe) (hc : X.calm = true) (hi : DE X e ta) (hg : DG X tg g) (hb : DSs X body t) (hs : ∀ x, foldedSetIterable e X.env x = pure x := by intro _; rfl) : DS X (.For tg e body [] pos) (dForL ta g t) :=
  PS.imp (ps_for hp hc (pi_list hi) hg hb hs) fun E σ H ⟨G, δ, P, R, s, h, k1, k2, k3, k4⟩ => up.mk s h fun d δ1 h1 v H1 s1 => by
    obtain ⟨xs, e, I, i0, turn, fin⟩ := h1
    subst e
    have hat : ∀ δ σ H, S X.K G δ ((.lst xs, v) :: P) σ H → ∃ a vs, v = .ref a ∧ SqL X.K H a vs ∧ vs.length = xs.length := fun δ σ H ⟨A, x⟩ => by
      have q := x.pnd (.lst xs, v) (by simp)
      simp only [Rep] at q
      obtain ⟨a, vs, e, _, l, r⟩ := q
      exact ⟨a, vs, e, SqL.of l, (Reps.length _ _ r).symm⟩
    have hev : ∃ a vs, v = .ref a ∧ SqL X.K H1 a vs ∧ vs.length = xs.length := hat _ _ _ s1
    obtain ⟨a, vs0, rfl, hsq, hl0⟩ := hev
    refine ⟨a, rfl, ⟨vs0, hsq⟩, fun i m σ H => m = xs.length - i ∧ i ≤ xs.length ∧ ∃ δ, I i δ ∧ S X.K G δ ((.lst xs, .ref a) :: P) σ H, ⟨xs.length, by simp, Nat.zero_le _, δ1, i0, s1⟩, ?_⟩
    rintro i m σ H ⟨rfl, hi, δ', ii, s'⟩
    obtain ⟨A, x⟩ := id s'
    have q := x.pnd (.lst xs, .ref a) (by simp)
    simp only [Rep] at q
    obtain ⟨a', vs, e, _, l, r⟩ := q
    cases e
    have l : SqL X.K H a vs := SqL.of l
    have hl : xs.length = vs.length := Reps.length _ _ r
    by_cases hlt : i < xs.length
    · obtain ⟨v', e', r'⟩ := Reps.get _ _ r i xs[i] (by simp [hlt])
      refine .inr ⟨⟨vs, v', l, e'⟩, fun σ' H' => ∃ δ', I (i + 1) δ' ∧ S X.K G δ' ((.lst xs, .ref a) :: P) σ' H', fun σ' H' ⟨δ', p', s'⟩ => ⟨xs.length - (i + 1), by omega, rfl, hlt, δ', p', s'⟩, fun y H' hy => ?_⟩
      obtain ⟨e, hy⟩ := hy
      subst e
      have : some y = some v' := (hy vs l).symm.trans e'
      cases this
      refine ⟨G, δ', (.lst xs, .ref a) :: P, xs[i], _, ⟨A, x.push r'⟩, turn i xs[i] δ' (by simp [hlt]) ii, fun δ2 h2 σ2 H2 s2 => ?_⟩
      refine ⟨G, δ2, (.lst xs, .ref a) :: P, _, s2, h2, fun δ3 h3 σ3 H3 s3 => ⟨δ3, h3, s3⟩, ⟨fun d δ3 h3 v3 σ3 H3 s3 => k2.1 d δ3 h3 v3 σ3 H3 (s3.sub fun p hp => by
        rcases List.mem_cons.mp hp with rfl | hp
        · simp
        · simp [hp]), k2.2⟩, fun δ3 h3 σ3 H3 s3 => k1 δ3 h3 σ3 H3 (s3.sub fun p hp => by simp [hp]), fun δ3 h3 σ3 H3 s3 => ⟨δ3, h3, s3⟩⟩
    · have e : i = xs.length := by omega
      subst e
      exact .inl ⟨⟨vs, l, by omega⟩, k1 δ' (fin δ' ii) σ H (s'.sub fun p hp => by simp [hp])⟩
theorem ds_forT (hp : PassesOwn (model X.prog X.w) X.A X.env X.xe) (hc : X.calm = true) (hi : DE X e ta) (hg : DG X tg g) (hb : DSs X body t) (hs : ∀ x, foldedSetIterable e X.env x = pure x := by intro _; rfl) : DS X (.For tg e body [] pos) (dForT ta g t) :=
  PS.imp (ps_for hp hc (pi_tup hi) hg hb hs) fun E σ H ⟨G, δ, P, R, s, h, k1, k2, k3, k4⟩ => up.mk s h fun d δ1 h1 v H1 s1 => by
    obtain ⟨xs, e, I, i0, turn, fin⟩ := h1
    subst e
    have hat : ∀ δ σ H, S X.K G δ ((.tup xs, v) :: P) σ H → ∃ a vs, v = .ref a ∧ SqT X.K H a vs ∧ vs.length = xs.length := fun δ σ H ⟨A, x⟩ => by
      have q := x.pnd (.tup xs, v) (by simp)
      simp only [Rep] at q
      obtain ⟨a, vs, e, l, r⟩ := q
      exact ⟨a, vs, e, l, (Reps.length _ _ r).symm⟩
    have hev : ∃ a vs, v = .ref a ∧ SqT X.K H1 a vs ∧ vs.length = xs.length := hat _ _ _ s1
    obtain ⟨a, vs0, rfl, hsq, hl0⟩ := hev
    refine ⟨a, rfl, ⟨vs0, hsq⟩, fun i m σ H => m = xs.length - i ∧ i ≤ xs.length ∧ ∃ δ, I i δ ∧ S X.K G δ ((.tup xs, .ref a) :: P) σ H, ⟨xs.length, by simp, Nat.zero_le _, δ1, i0, s1⟩, ?_⟩
    rintro i m σ H ⟨rfl, hi, δ', ii, s'⟩
    obtain ⟨A, x⟩ := id s'
    have q := x.pnd (.tup xs, .ref a) (by simp)
    simp only [Rep] at q
    obtain ⟨a', vs, e, l, r⟩ := q
    cases e
    have hl : xs.length = vs.length := Reps.length _ _ r
    by_cases hlt : i < xs.length
    · obtain ⟨v', e', r'⟩ := Reps.get _ _ r i xs[i] (by simp [hlt])
      refine .inr ⟨⟨vs, v', l, e'⟩, fun σ' H' => ∃ δ', I (i + 1) δ' ∧ S X.K G δ' ((.tup xs, .ref a) :: P) σ' H', fun σ' H' ⟨δ', p', s'⟩ => ⟨xs.length - (i + 1), by omega, rfl, hlt, δ', p', s'⟩, fun y H' hy => ?_⟩
      obtain ⟨e, hy⟩ := hy
      subst e
      have : some y = some v' := (hy vs l).symm.trans e'
      cases this
      refine ⟨G, δ', (.tup xs, .ref a) :: P, xs[i], _, ⟨A, x.push r'⟩, turn i xs[i] δ' (by simp [hlt]) ii, fun δ2 h2 σ2 H2 s2 => ?_⟩
      refine ⟨G, δ2, (.tup xs, .ref a) :: P, _, s2, h2, fun δ3 h3 σ3 H3 s3 => ⟨δ3, h3, s3⟩, ⟨fun d δ3 h3 v3 σ3 H3 s3 => k2.1 d δ3 h3 v3 σ3 H3 (s3.sub fun p hp => by
        rcases List.mem_cons.mp hp with rfl | hp
        · simp
        · simp [hp]), k2.2⟩, fun δ3 h3 σ3 H3 s3 => k1 δ3 h3 σ3 H3 (s3.sub fun p hp => by simp [hp]), fun δ3 h3 σ3 H3 s3 => ⟨δ3, h3, s3⟩⟩
    · have e : i = xs.length := by omega
      subst e
      exact .inl ⟨⟨vs, l, by omega⟩, k1 δ' (fin δ' ii) σ H (s'.sub fun p hp => by simp [hp])⟩
theorem ds_forR {p pos' : Pos} (hp : PassesOwn (model X.prog X.w) X.A X.env X.xe) (hc : X.calm = true) (hgl : Gl X "range") (hm : X.mg "range" = none) (ha : DA X [a] tda) (hg : DG X tg g) (hb : DSs X body t)
    (hse : starEach [a] X.env = [(false, eval a X.env)] := by rfl) (hs : ∀ x, foldedSetIterable (.Call (.Name "range" p) [a] [] pos') X.env x = pure x := by intro _; rfl) :
    DS X (.For tg (.Call (.Name "range" p) [a] [] pos') body [] pos) (dForR tda g t) :=
  PS.imp (ps_for hp hc (pi_range1 hgl hm ha hse) hg hb hs) fun E σ H ⟨G, δ, P, R, s, h, k1, k2, k3, k4⟩ => ⟨G, δ, P, _, s, h, fun ds δ1 h1 vs H1 hl s1 => by
    obtain ⟨j, e, h1, h2, I, i0, turn, fin⟩ := h1
    subst e
    match vs, hl with
    | [v], _ =>
      have q : v = .int j := by
        obtain ⟨A, x⟩ := s1
        have q := x.pnd (.int j, v) (by simp)
        simpa only [Rep] using q
      subst q
      have s2 : S X.K G δ1 P σ H1 := s1.sub fun p hp => by simp [hp]
      refine ⟨j, rfl, h1, h2, for_range (lo := 0) (n := j.toNat) (fun i σ H => ∃ δ, I i δ ∧ S X.K G δ P σ H) ⟨δ1, i0, s2⟩ (fun i σ H hi ⟨δ', ii, s'⟩ => ?_) fun σ H ⟨δ', ii, s'⟩ => k1 δ' (fin δ' ii) σ H s'⟩
      refine ⟨G, δ', P, .int (0 + i), _, s'.sc rfl, (by have q := turn i δ' hi ii; rw [Int.zero_add]; exact q), fun δ2 h2 σ2 H2 s2 => ?_⟩
      exact ⟨G, δ2, P, _, s2, h2, fun δ3 h3 σ3 H3 s3 => ⟨δ3, h3, s3⟩, k2, k1, fun δ3 h3 σ3 H3 s3 => ⟨δ3, h3, s3⟩⟩⟩
end
end DL

namespace DL
open PySem PySem.Spec PyProof.Rows L2
section
variable {K : PySem.W.Frag} {M : Addr → Prop} {H : Hp}
theorem reps1 {a : D} {x : V} (h : Reps K M H [a] [x]) : Rep K M H a x := by
  unfold Reps at h
  obtain ⟨v, r, e, q, _⟩ := h
  cases e
  exact q
theorem reps2 {a b : D} {x y : V} (h : Reps K M H [a, b] [x, y]) : Rep K M H a x ∧ Rep K M H b y := by
  unfold Reps at h
  obtain ⟨v, r, e, q, h⟩ := h
  cases e
  exact ⟨q, reps1 h⟩
theorem reps_one {a : D} {vs : List V} (h : Reps K M H [a] vs) : ∃ x, vs = [x] ∧ Rep K M H a x := by
  unfold Reps at h
  obtain ⟨v, r, e, q, h⟩ := h
  unfold Reps at h
  subst h
  exact ⟨v, e, q⟩
theorem reps_two {a b : D} {vs : List V} (h : Reps K M H [a, b] vs) : ∃ x y, vs = [x, y] ∧ Rep K M H a x ∧ Rep K M H b y := by
  unfold Reps at h
  obtain ⟨v, r, e, q, h⟩ := h
  obtain ⟨y, e2, q2⟩ := reps_one h
  subst e2
  exact ⟨v, y, e, q, q2⟩
theorem rep_int {i : Int} {v : V} (h : Rep K M H (.int i) v) : v = .int i := by unfold Rep at h; exact h
theorem rep_bl {i : Bool} {v : V} (h : Rep K M H (.bl i) v) : v = .bl i := by unfold Rep at h; exact h
theorem rep_str {i : Str} {v : V} (h : Rep K M H (.str i) v) : v = .str i := by unfold Rep at h; exact h
end

/-! ### what the operations answer, of data -/
def fI0 (g : Int → Int → D) : List D → (D → Prop) → Prop := fun ds R => ∃ i j, ds = [.int i, .int j] ∧ R (g i j)
def fI (C : Int → Int → Prop) (g : Int → Int → D) : List D → (D → Prop) → Prop := fun ds R => ∃ i j, ds = [.int i, .int j] ∧ C i j ∧ R (g i j)
def fU (g : Int → D) : List D → (D → Prop) → Prop := fun ds R => ∃ i, ds = [.int i] ∧ R (g i)
theorem fI0_eq {g : Int → Int → D} {a b : Int} {R : D → Prop} : fI0 g [.int a, .int b] R ↔ R (g a b) := by
  unfold fI0
  constructor
  · rintro ⟨i, j, e, r⟩; cases e; exact r
  · exact fun r => ⟨a, b, rfl, r⟩
theorem fI_eq {C : Int → Int → Prop} {g : Int → Int → D} {a b : Int} {R : D → Prop} : fI C g [.int a, .int b] R ↔ C a b ∧ R (g a b) := by
  unfold fI
  constructor
  · rintro ⟨i, j, e, r⟩; cases e; exact r
  · exact fun r => ⟨a, b, rfl, r⟩
theorem fU_eq {g : Int → D} {a : Int} {R : D → Prop} : fU g [.int a] R ↔ R (g a) := by
  unfold fU
  constructor
  · rintro ⟨i, e, r⟩; cases e; exact r
  · exact fun r => ⟨a, rfl, r⟩
def CFd (_ j : Int) : Prop := j ≠ 0 ∧ j.natAbs.log2 < 9000
def CNz (_ j : Int) : Prop := j ≠ 0

section
variable {X : Cx}
theorem opI0 {f : Value → Value → Sem Value} {g' : Int → Int → V} {g : Int → Int → D} (h : OpR X f (rI0 g')) (hs : ∀ i j, sc (g i j) = some (g' i j)) : OpR X f fun x y => pureR X.K (fI0 g) [x, y] :=
  OpR.imp h fun x y H Q ⟨M, ds, R, m, rs, ⟨i, j, e, r⟩, k⟩ => by
    subst e
    obtain ⟨h1, h2⟩ := reps2 rs
    exact ⟨i, j, rep_int h1, rep_int h2, k _ r _ H (Same.refl H) (Rep.sc (hs i j))⟩
theorem opI {f : Value → Value → Sem Value} {C C' : Int → Int → Prop} {g' : Int → Int → V} {g : Int → Int → D} (h : OpR X f (rI C' g')) (hs : ∀ i j, sc (g i j) = some (g' i j)) (hc : ∀ i j, C i j → C' i j) : OpR X f fun x y => pureR X.K (fI C g) [x, y] :=
  OpR.imp h fun x y H Q ⟨M, ds, R, m, rs, ⟨i, j, e, c, r⟩, k⟩ => by
    subst e
    obtain ⟨h1, h2⟩ := reps2 rs
    exact ⟨i, j, rep_int h1, rep_int h2, hc i j c, k _ r _ H (Same.refl H) (Rep.sc (hs i j))⟩
theorem o_add : OpR X (binaryOp .Add) fun x y => pureR X.K (fI0 fun i j => .int (i + j)) [x, y] := opI0 op_add fun _ _ => rfl
theorem o_sub : OpR X (binaryOp .Sub) fun x y => pureR X.K (fI0 fun i j => .int (i - j)) [x, y] := opI0 op_sub fun _ _ => rfl
theorem op_mulB : OpR X (binaryOp .Mult) (rI IntMulOk fun i j => .int (i * j)) := L2.opI fun _ _ _ _ _ _ _ hc q => mul_int q hc
theorem o_mul : OpR X (binaryOp .Mult) fun x y => pureR X.K (fI IntMulOk fun i j => .int (i * j)) [x, y] := opI op_mulB (fun _ _ => rfl) fun _ _ h => h
theorem op_fdivB : OpR X (binaryOp .FloorDiv) (rI CFd fun i j => .int (i.fdiv j)) := L2.opI fun _ _ _ _ _ _ _ hc q => floordiv_int hc.1 q (.inl (PyProof.noPylong_of_log2 hc.2))
theorem o_fdiv : OpR X (binaryOp .FloorDiv) fun x y => pureR X.K (fI CFd fun i j => .int (i.fdiv j)) [x, y] := opI op_fdivB (fun _ _ => rfl) fun _ _ h => h
theorem o_mod : OpR X (binaryOp .Mod) fun x y => pureR X.K (fI CNz fun i j => .int (i.fmod j)) [x, y] := opI op_modN (fun _ _ => rfl) fun _ _ h => h
theorem o_pow : OpR X (binaryOp .Pow) fun x y => pureR X.K (fI CPow fun i j => .int (i ^ j.toNat)) [x, y] := opI op_pow (fun _ _ => rfl) fun _ _ h => h
theorem o_lt : OpR X (compareOp .Lt) fun x y => pureR X.K (fI0 fun i j => .bl (decide (i < j))) [x, y] := opI0 op_lt fun _ _ => rfl
theorem o_gt : OpR X (compareOp .Gt) fun x y => pureR X.K (fI0 fun i j => .bl (decide (j < i))) [x, y] := opI0 op_gt fun _ _ => rfl
/-- len -/
def fLen : List D → (D → Prop) → Prop
  | [.lst xs], R => R (.int xs.length)
  | [.fz xs], R => R (.int xs.length)
  | [.tup xs], R => R (.int xs.length)
  | _, _ => False
theorem c_len : CallR X (.builtin "len") (pureR X.K fLen) :=
  CallR.imp call_len_seq fun xs H Q ⟨M, ds, R, m, rs, h, k⟩ => by
    have fin : ∀ n : Nat, R (.int n) → Q (.int n) H := fun n r => k _ r _ H (Same.refl H) (Rep.sc rfl)
    unfold fLen at h
    split at h
    · obtain ⟨x, e, q⟩ := reps_one rs
      unfold Rep at q
      obtain ⟨a, vs, e2, _, l, r⟩ := q
      subst e e2
      exact ⟨a, vs, rfl, .inl (SqL.of l), fin _ (by rw [← Reps.length _ _ r]; exact h)⟩
    · obtain ⟨x, e, q⟩ := reps_one rs
      unfold Rep at q
      obtain ⟨a, vs, e2, l, r⟩ := q
      subst e e2
      exact ⟨a, vs, rfl, .inl l.seq, fin _ (by rw [← Reps.length _ _ r]; exact h)⟩
    · obtain ⟨x, e, q⟩ := reps_one rs
      unfold Rep at q
      obtain ⟨a, vs, e2, l, r⟩ := q
      subst e e2
      exact ⟨a, vs, rfl, .inr l, fin _ (by rw [← Reps.length _ _ r]; exact h)⟩
    · exact h.elim
/-- int(..) of a truth or a whole number -/
def fInt : List D → (D → Prop) → Prop
  | [.int i], R => R (.int i)
  | [.bl b], R => R (.int (if b then 1 else 0))
  | _, _ => False
theorem c_int : CallR X (.type "int") (pureR X.K fInt) :=
  CallR.imp call_int1 fun xs H Q ⟨M, ds, R, m, rs, h, k⟩ => by
    unfold fInt at h
    split at h
    · obtain ⟨x, e, q⟩ := reps_one rs
      subst e
      exact .inl ⟨_, by rw [rep_int q], k _ h _ H (Same.refl H) (Rep.sc rfl)⟩
    · obtain ⟨x, e, q⟩ := reps_one rs
      subst e
      exact .inr ⟨_, by rw [rep_bl q], k _ h _ H (Same.refl H) (Rep.sc rfl)⟩
    · exact h.elim
/-- an item -/
def fIx : List D → (D → Prop) → Prop
  | [.tup xs, .int i], R => ∃ v, atI xs i = some v ∧ R v
  | [.lst xs, .int i], R => ∃ v, atI xs i = some v ∧ R v
  | [.fz xs, .int i], R => ∃ v, atI xs i = some v ∧ R v
  | [.str z, .int i], R => z.length ≤ 1000 ∧ ∃ c, atI z.cps.toList i = some c ∧ R (.str ⟨#[c]⟩)
  | _, _ => False
theorem atI_len {α β : Type} {xs : List α} {ys : List β} (h : xs.length = ys.length) {i : Int} {v : α} (e : atI xs i = some v) : ∃ j : Nat, xs[j]? = some v ∧ ∀ w, ys[j]? = some w → atI ys i = some w := by
  unfold atI at e ⊢
  rw [h] at e
  cases q : ixN ys.length i with
  | none => rw [q] at e; cases e
  | some j => rw [q] at e; exact ⟨j, e, fun w z => z⟩
theorem x_seq : IxR X fun x y => pureR X.K fIx [x, y] :=
  IxR.imp ix_seq fun x y H Q ⟨M, ds, R, m, rs, h, k⟩ => by
    have fin : ∀ (xs : List D) (vs : List V) (i : Int) (d : D), Reps X.K M H xs vs → atI xs i = some d → R d → ∃ v, atI vs i = some v ∧ Q v H := fun xs vs i d r e q => by
      obtain ⟨j, h1, h2⟩ := atI_len (Reps.length _ _ r) e
      obtain ⟨v, e', r'⟩ := Reps.get _ _ r j d h1
      exact ⟨v, h2 v e', k d q v H (Same.refl H) r'⟩
    unfold fIx at h
    split at h
    · obtain ⟨d, e, q⟩ := h
      obtain ⟨h1, h2⟩ := reps2 rs
      unfold Rep at h1
      obtain ⟨a, vs, e2, l, r⟩ := h1
      obtain ⟨v, e3, q3⟩ := fin _ _ _ _ r e q
      exact .inr (.inl ⟨a, vs, _, v, e2, rep_int h2, l, e3, q3⟩)
    · obtain ⟨d, e, q⟩ := h
      obtain ⟨h1, h2⟩ := reps2 rs
      unfold Rep at h1
      obtain ⟨a, vs, e2, _, l, r⟩ := h1
      obtain ⟨v, e3, q3⟩ := fin _ _ _ _ r e q
      exact .inl ⟨a, vs, _, v, e2, rep_int h2, SqL.of l, e3, q3⟩
    · obtain ⟨d, e, q⟩ := h
      obtain ⟨h1, h2⟩ := reps2 rs
      unfold Rep at h1
      obtain ⟨a, vs, e2, l, r⟩ := h1
      obtain ⟨v, e3, q3⟩ := fin _ _ _ _ r e q
      exact .inl ⟨a, vs, _, v, e2, rep_int h2, l.seq, e3, q3⟩
    · obtain ⟨hz, c, e, q⟩ := h
      obtain ⟨h1, h2⟩ := reps2 rs
      exact .inr (.inr ⟨_, _, c, rep_str h1, rep_int h2, small hz, e, k _ q _ H (Same.refl H) (Rep.sc rfl)⟩)
    · exact h.elim
/-- list + list -/
def fCat : List D → (D → Prop) → Prop
  | [.lst xs, .lst ys], R => xs.length + ys.length ≤ 1000 ∧ R (.lst (xs ++ ys))
  | _, _ => False
theorem o_cat : OpR X (binaryOp .Add) fun x y => pureR X.K fCat [x, y] :=
  OpR.imp op_cat fun x y H Q ⟨M, ds, R, m, rs, h, k⟩ => by
    unfold fCat at h
    split at h
    · obtain ⟨hz, q⟩ := h
      obtain ⟨h1, h2⟩ := reps2 rs
      unfold Rep at h1 h2
      obtain ⟨a, vs, e, _, l, r⟩ := h1
      obtain ⟨b, ws, e', _, l', r'⟩ := h2
      refine ⟨a, b, vs, ws, e, e', l, l', small (by rw [← Reps.length _ _ r, ← Reps.length _ _ r']; exact hz), fun p hp => k _ q _ _ (same_new hp _) ?_⟩
      unfold Rep
      exact ⟨p, vs ++ ws, rfl, fun z => m p z hp, upd_same, Reps.kp (Kp.of_same (same_new hp _)) _ _ (Reps.append _ _ _ _ r r')⟩
    · exact h.elim
/-! ### slices -/
def cut {α : Type} (xs : List α) (lo hi : Option Int) : List α := (xs.drop (HT.sIx xs.length 0 lo)).take (HT.sIx xs.length xs.length hi - HT.sIx xs.length 0 lo)
abbrev TDO := En → (Option Int → En → Prop) → Prop
def upO (K : PySem.W.Frag) (t : TDO) : TO := fun σ H Q => ∃ (G : Gf) (δ : En) (P : List (D × V)) (R : Option Int → En → Prop), S K G δ P σ H ∧ t δ R ∧ ∀ o δ', R o δ' → ∀ H', S K G δ' P σ H' → Q o H'
def DO (X : Cx) (e : Option Expr) (t : TDO) : Prop := PO X e (upO X.K t)
def dNoPart : TDO := fun δ R => R none δ
def dPart (t : TDE) : TDO := fun δ R => t δ (wd fun x δ1 => ∃ i, x = .int i ∧ R (some i) δ1)
theorem PO.imp {e : Option Expr} {t t' : TO} (h : PO X e t) (i : ∀ σ H Q, t' σ H Q → t σ H Q) : PO X e t' := fun pins s σ H Q I q => h pins s σ H Q I (i σ H Q q)
theorem do_some {e : Expr} {te : TDE} (h : DE X e te) : DO X (some e) (dPart te) := PO.imp (po_some h) fun σ H Q ⟨G, δ, P, R, s, h, k⟩ => up.mk s h fun x δ1 h1 v H1 s1 => by
  obtain ⟨i, e, r⟩ := h1
  subst e
  obtain ⟨A, q⟩ := id s1
  exact ⟨i, rep_int (q.pnd (.int i, v) (by simp)), k _ δ1 r H1 (s1.sub fun p hp => by simp [hp])⟩
def fSl : D → Option Int → Option Int → (D → Prop) → Prop
  | .lst xs, lo, hi, R => R (.lst (cut xs lo hi))
  | .fz xs, lo, hi, R => R (.lst (cut xs lo hi))
  | .tup xs, lo, hi, R => ¬ (HT.sIx xs.length 0 lo = 0 ∧ HT.sIx xs.length xs.length hi = xs.length) ∧ R (.tup (cut xs lo hi))
  | _, _, _, _ => False
def dSl (te : TDE) (tl th : TDO) : TDE := fun δ R => te δ (wd fun x δ1 => tl δ1 fun l δ2 => th δ2 fun u δ3 => fSl x l u fun d => R (.d d) δ3)
theorem Reps.cut {K : PySem.W.Frag} {M : Addr → Prop} {H : Hp} {ds : List D} {vs : List V} (lo hi : Option Int) (r : Reps K M H ds vs) : Reps K M H (DL.cut ds lo hi) (cutV vs lo hi) := by
  unfold DL.cut cutV
  rw [Reps.length _ _ r]
  exact Reps.take _ _ _ (Reps.drop _ _ _ r)
theorem de_slL {e : Expr} {te : TDE} {lo hi : Option Expr} {tl th : TDO} {p2 pos : Pos} (he : DE X e te) (hl : DO X lo tl) (hu : DO X hi th) : DE X (.Subscript e (.Slice lo hi none p2) pos) (dSl te tl th) :=
  PE.imp (pe_slice (sl_list.or sl_tup) he hl hu) fun σ H Q ⟨G, δ, P, R, s, h, k, _⟩ => up.mk s h fun x δ1 h1 v H1 s1 => ⟨G, δ1, (x, v) :: P, _, s1, h1, fun l δ2 h2 H2 s2 => ⟨G, δ2, (x, v) :: P, _, s2, h2, fun u δ3 h3 H3 s3 => by
    obtain ⟨A, q⟩ := id s3
    have r := q.pnd (x, v) (by simp)
    cases x with
    | lst xs =>
      have h3 : R (.d (.lst (cut xs l u))) δ3 := h3
      simp only [Rep] at r
      obtain ⟨a, vs, e, _, sq, r⟩ := r
      refine .inl ⟨a, vs, e, SqL.of sq, fun p hp => ?_⟩
      have x2 := (q.same (same_new hp (.lst (cutV vs l u))))
      refine k _ δ3 h3 (.ref p) _ ⟨A, (x2.sub (P' := P) fun p hp => List.mem_cons_of_mem _ hp).push ?_⟩
      unfold Rep
      exact ⟨p, _, rfl, fun z => q.mem p z hp, upd_same, Reps.kp (Kp.of_same (same_new hp _)) _ _ (Reps.cut l u r)⟩
    | fz xs =>
      have h3 : R (.d (.lst (cut xs l u))) δ3 := h3
      simp only [Rep] at r
      obtain ⟨a, vs, e, sq, r⟩ := r
      refine .inl ⟨a, vs, e, sq.seq, fun p hp => ?_⟩
      have x2 := (q.same (same_new hp (.lst (cutV vs l u))))
      refine k _ δ3 h3 (.ref p) _ ⟨A, (x2.sub (P' := P) fun p hp => List.mem_cons_of_mem _ hp).push ?_⟩
      unfold Rep
      exact ⟨p, _, rfl, fun z => q.mem p z hp, upd_same, Reps.kp (Kp.of_same (same_new hp _)) _ _ (Reps.cut l u r)⟩
    | tup xs =>
      have h3 : ¬ (HT.sIx xs.length 0 l = 0 ∧ HT.sIx xs.length xs.length u = xs.length) ∧ R (.d (.tup (cut xs l u))) δ3 := h3
      simp only [Rep] at r
      obtain ⟨a, vs, e, sq, r⟩ := r
      obtain ⟨nf, h3⟩ := h3
      refine .inr ⟨a, vs, e, sq, by rw [← Reps.length _ _ r]; exact nf, fun p hp => ?_⟩
      have x2 := (q.same (same_new hp (.tup (cutV vs l u))))
      refine k _ δ3 h3 (.ref p) _ ⟨A, (x2.sub (P' := P) fun p hp => List.mem_cons_of_mem _ hp).push ?_⟩
      unfold Rep
      exact ⟨p, _, rfl, SqT.of upd_same, Reps.kp (Kp.of_same (same_new hp _)) _ _ (Reps.cut l u r)⟩
    | _ => exact (show False from h3).elim⟩⟩
end
end DL

namespace DL
open PySem PySem.Spec PyProof.Rows L2

def startD (N : List Str) (ds : List D) : En := ds.map Sl.dat ++ List.replicate (N.length - ds.length) Sl.no
theorem pureR_len {K : PySem.W.Frag} {f : List D → (D → Prop) → Prop} {vs : List V} {H : Hp} {Q : VK} {n : Nat} (h : pureR K f vs H Q) (len : ∀ ds R, f ds R → ds.length = n) : vs.length = n := by
  obtain ⟨M, ds, R, m, rs, hf, k⟩ := h
  rw [← Reps.length _ _ rs]
  exact len ds R hf
theorem start_S {K : PySem.W.Frag} {M : Addr → Prop} {ds : List D} {vs : List V} {H : Hp} (N : List Str) (m : ∀ b, M b → H b ≠ none) (rs : Reps K M H ds vs) : S K ⟨M, H, fun _ => False⟩ (startD N ds) [] (L2.start N vs) H := by
  have hl := Reps.length _ _ rs
  refine ⟨fun _ => False, fun b o e _ => e, fun b e => e, m, fun b h => h.elim, fun b h => h.elim, fun b h => h.elim, ?_, fun i d e => ?_, fun i a d e => ?_, fun i j a d e h1 h2 => ?_, fun p hp => (nomatch hp)⟩
  · unfold startD L2.start
    rw [List.length_append, List.length_append, List.length_map, List.length_map, List.length_replicate, List.length_replicate, hl]
  · unfold startD at e
    unfold L2.start
    by_cases hi : i < ds.length
    · rw [List.getElem?_append_left (by rw [List.length_map]; exact hi), List.getElem?_map] at e
      cases hd : ds[i]? with
      | none => rw [hd] at e; cases e
      | some d' =>
        rw [hd] at e
        cases e
        obtain ⟨v, ev, rv⟩ := Reps.get _ _ rs i d hd
        refine ⟨v, ?_, Rep.more (fun b z => .inl (z.elim id fun q => q.elim)) _ _ rv⟩
        rw [List.getElem?_append_left (by rw [List.length_map]; omega), List.getElem?_map, ev]
        rfl
    · rw [List.getElem?_append_right (by rw [List.length_map]; omega), List.getElem?_replicate] at e
      split at e <;> cases e
  all_goals
    unfold startD at *
    exfalso
  · by_cases hi : i < ds.length
    · rw [List.getElem?_append_left (by rw [List.length_map]; exact hi), List.getElem?_map] at e
      cases hd : ds[i]? with
      | none => rw [hd] at e; cases e
      | some d' => rw [hd] at e; cases e
    · rw [List.getElem?_append_right (by rw [List.length_map]; omega), List.getElem?_replicate] at e
      split at e <;> cases e
  · by_cases hi : i < ds.length
    · rw [List.getElem?_append_left (by rw [List.length_map]; exact hi), List.getElem?_map] at h1
      cases hd : ds[i]? with
      | none => rw [hd] at h1; cases h1
      | some d' => rw [hd] at h1; cases h1
    · rw [List.getElem?_append_right (by rw [List.length_map]; omega), List.getElem?_replicate] at h1
      split at h1 <;> cases h1

structure Fd (K : PySem.W.Frag) (mg : Str → Option Value) (x : Str) (st : Stmt) (ps : List Str) : Prop where
  ex : ∃ (a : Addr) (fd : FuncData), Fun K x x st a fd ∧ Binds K fd ps [] ∧ mg x = some (.ref a)
structure Cal (P : Program) (w : World) (K : PySem.W.Frag) (mg : Str → Option Value) (base : Heap) (k : Nat) (x : Str) (ps : List Str) (sp : Sp) : Prop where
  ex : ∃ (a : Addr) (fd : FuncData), FnOk P w K mg base CX0 k a fd ps sp ∧ Binds K fd ps [] ∧ PySem.W.keepIn K (.ref a) = true ∧ mg x = some (.ref a)

section
variable {P : Program} {w : World} {K : PySem.W.Frag} {mg : Str → Option Value} {base : Heap}
theorem Cal.mono {j k : Nat} {x : Str} {ps : List Str} {sp : Sp} (C : Cal P w K mg base j x ps sp) (h : j ≤ k) : Cal P w K mg base k x ps sp := by
  obtain ⟨a, fd, F, b, kp, m⟩ := C.ex
  exact ⟨a, fd, F.mono h, b, kp, m⟩
/-- THE RULE for a pure def -/
theorem fn_D' {x : Str} {st : Stmt} {N ps : List Str} {k : Nat} {a : Addr} {fd : FuncData} {f : List D → (D → Prop) → Prop} (Fu : Fun K x x st a fd) (Sc : FnScope N ps (defScope st)) (len : ∀ ds R, f ds R → ds.length = ps.length)
    (hbody : ∀ (cdv : Value) (A : Around) (outer : List Env) (s : Shared) (H : Hp) (E : XK) (ds : List D) (R : D → Prop), Room k (A.deeper (envOfC x (defScope st) s.heap.objs.size a cdv)) → f ds R →
      ∃ t, DSs (cxOf CX0 P w K mg base N x (defScope st) a cdv A outer s H E).nox (defBody st) t ∧ t { nx := fun _ => R .non, rt := fun d _ => R d, ro := R } (startD N ds)) :
    FnOk P w K mg base CX0 (k + 1) a fd ps (spD K f) := by
  refine Fu.ok Sc (fun vs H Q E h => pureR_len h len) (fun cdv A outer s H vs Q E hr h => ?_)
  obtain ⟨M, ds, R, hm, rs, hf, hk⟩ := h
  obtain ⟨t, ht, hq⟩ := hbody cdv A outer s H E ds R hr hf
  refine ⟨_, ht, ⟨M, H, fun _ => False⟩, startD N ds, [], _, start_S N hm rs, hq, fun δ' r σ' H' ⟨A', x⟩ => ?_, ⟨fun d δ' r v σ' H' ⟨A', x⟩ => ?_, fun d r a H' ⟨o1, o2, o3, o4⟩ => hk d r (.ref a) H' (fun b o e => o1 b o e id) (o4.rep o3 fun b z => .inl z)⟩, fun _ h => h.elim, fun _ h => h.elim⟩
  · exact hk .non r .non H' (fun b o e => x.old b o e id) (by unfold Rep; rfl)
  · exact hk d r v H' (fun b o e => x.old b o e id) (Rep.more (fun b z => .inl (.inl z)) _ _ (x.pnd (d, v) (by simp)))
theorem fn_D {x : Str} {st : Stmt} {N ps : List Str} {k : Nat} {f : List D → (D → Prop) → Prop} (F : Fd K mg x st ps) (Sc : FnScope N ps (defScope st)) (len : ∀ ds R, f ds R → ds.length = ps.length)
    (hbody : ∀ (a : Addr) (cdv : Value) (A : Around) (outer : List Env) (s : Shared) (H : Hp) (E : XK) (ds : List D) (R : D → Prop), Room k (A.deeper (envOfC x (defScope st) s.heap.objs.size a cdv)) → f ds R →
      ∃ t, DSs (cxOf CX0 P w K mg base N x (defScope st) a cdv A outer s H E).nox (defBody st) t ∧ t { nx := fun _ => R .non, rt := fun d _ => R d, ro := R } (startD N ds)) :
    Cal P w K mg base (k + 1) x ps (spD K f) := by
  obtain ⟨a, fd, Fu, b, m⟩ := F.ex
  exact ⟨a, fd, fn_D' Fu Sc len (hbody a), b, Fu.kp, m⟩
theorem de_cal {X : Cx} {a : Expr} {es : List Expr} {t : TDA} {f : List D → (D → Prop) → Prop} {x : Str} {k : Nat} {ps : List Str} {p pos : Pos} (C : Cal X.prog X.w X.K X.mg X.base k x ps (spD X.K f)) (hr : Room k X.A) (hg : Gl X x) (ha : DA X (a :: es) t)
    (hdb : (x == ("__debug__" : Str)) = false := by decide) (he : starEach (a :: es) X.env = (false, eval a X.env) :: starEach es X.env := by rfl) (hpl : (backTo pos (starEach es X.env)).any (·.1) = false := by rfl) :
    DE X (.Call (.Name x p) (a :: es) [] pos) (dCall f t) := by
  obtain ⟨g, fd, F, b, kp, m⟩ := C.ex
  exact de_call F hr hg m kp b ha hdb he hpl
/-- the law's own promise: True for every script of at most 63 ints of at most 2^20 bits -/
def spLaw (K : PySem.W.Frag) : Sp := fun vs H Q _ => ∃ (a : Addr) (ns : List Int), vs = [.ref a] ∧ SqL K H a (ns.map V.int) ∧ Only H ∧ ns.length ≤ 63 ∧ (∀ n ∈ ns, Builtin.Int.intBits n ≤ 1048576) ∧ ∀ H', Q (.bl true) H'
def fLaw : List D → (D → Prop) → Prop := fun ds R => ∃ ns : List Int, ds = [.fz (ns.map D.int)] ∧ ns.length ≤ 63 ∧ (∀ n ∈ ns, Builtin.Int.intBits n ≤ 1048576) ∧ R (.bl true)
theorem law_sp {k : Nat} {ps : List Str} {a : Addr} {fd : FuncData} (F : FnOk P w K mg base CX0 k a fd ps (spD K fLaw)) : FnOk P w K mg base CX0 k a fd ps (spLaw K) :=
  F.imp fun vs H Q E ⟨l, ns, e, sq, on, h63, hb, q⟩ => by
    subst e
    refine ⟨fun _ => False, [.fz (ns.map D.int)], fun d => d = .bl true, fun _ h => h.elim, Reps.one ?_, ⟨ns, rfl, h63, hb, rfl⟩, fun d e v H' _ r => ?_⟩
    · unfold Rep
      refine ⟨l, ns.map V.int, rfl, ?_, Reps.ints ns⟩
      rcases sq with (h | ⟨o, h⟩) | h
      · rcases on l with z | ⟨o, xs, z⟩
        · rw [z] at h; cases h
        · rw [z] at h; cases h
      · exact .inl ⟨o, h⟩
      · exact .inr (.inr h)
    · subst e
      rw [rep_bl r]
      exact q H'
end
end DL
/-! ### the head, with the script's sizes -/
namespace DLH
open PySem PySem.W PySem.Calls PyProof.Rows
theorem bits_of_layable {ns : List Int} (h : WData.layableAll [.list (ns.map .int)] = true) : ∀ n ∈ ns, Builtin.Int.intBits n ≤ 1048576 := fun n hn => by
  have h1 := layableW_arg h _ (List.mem_singleton.mpr rfl)
  have h2 := layableW_item h1 (.int n) (List.mem_map.mpr ⟨n, hn, rfl⟩)
  have h3 := (layableW_iff.mp h2).2.2
  simpa only [WData.weight, Builtin.Int.intBits] using h3
theorem attach_callB {l : OpenLaw} {n : Nat} {q : Program} {loose : List Str} {XP : (Str → Option Value) → Heap → Prop} {YP : World → Heap → Prop} {d : DefRec}
    (hn : l.most = some n) (hdf : d.params.defaults = [])
    (call : ∀ (w : World) (s₀ s₁ : Shared) (mg mb : Str → Option Value) (fa : Addr) (o : Obj) (pm cd doc : Value) (a : Addr) (vs : List Value) (ns : List Int),
      Ground q loose [] XP w s₀ mg mb s₁.heap → YP w s₁.heap →
      s₁.heap.get? fa = some o → o.data = .func (docDef d.name d.params d.body d.scope pm cd doc) → s₁.heap.CodeRec cd d.name → mg d.name = some (.ref fa) →
      s₁.heap.get? a = some { cls := .type "list", data := .seq vs.toArray } → IntsAre vs ns → ns.length ≤ n → (∀ i ∈ ns, Builtin.Int.intBits i ≤ 1048576) → s₁.gens = #[] →
      codeAny (model l.prog w) callerA (.call (.ref fa) ⟨[.ref a], []⟩) (fun r s' => r = .ok (.ret (.bool true)) ∧ OldK s₁.heap s'.heap ∧ s'.os = s₁.os ∧ AllBare s'.gens) s₁) :
    WalkO q loose XP YP l.row.toRowW d [] (fun f vs => PySem.call f vs) := by
  intro w s₀ s₁ mg mb G Y fa o pm cd doc dV kV ho hd hcd hD hmg hg args vals as hpre hlay hrd hwl hlo
  obtain rfl : dV = .none := Dflts.none hD hdf
  obtain rfl : kV = .none := Dflts.noKw hD
  obtain ⟨a, vs, ns, rfl, rfl, hobj, hints, hlen⟩ := Att.script_of hn hpre hwl
  refine enter_call (codeAny_mono (call w s₀ s₁ mg mb fa o pm cd doc a vs ns G Y ho (fd_plain hd) hcd hmg hobj hints hlen (bits_of_layable hlay) hg) fun r s' hq => ?_)
  obtain ⟨rfl, h2, h3, h4⟩ := hq
  exact ⟨.inl ⟨.bool true, .bool true, [], rfl, fun _ => rfl, .bool true, Att.post_true l _, fun _ => ⟨List.Pairwise.nil, fun _ hm => (nomatch hm)⟩⟩, h2, h3, h4⟩
end DLH
namespace DL
open PySem PySem.Spec PyProof.Rows L2
theorem walkB {l : PySem.W.OpenLaw} {k : Nat} {q : Program} {loose : List Str} {XP : (Str → Option Value) → Heap → Prop} {YP : World → Heap → Prop} {d : DefRec} {K : Params → PySem.W.Frag} {x : Str}
    (hn : l.most = some 63) (hdf : d.params.defaults = []) (hr : Room k PySem.callerA) (hY : ∀ (w : World) (h : Heap), YP w h → (K w.params).In h)
    (F : ∀ (w : World) (mg : Str → Option Value) (fa : Addr) (h : Heap), (K w.params).In h → h.Ns mainGlobals mg → mg d.name = some (.ref fa) →
      ∃ fd : FuncData, (∀ (s : Shared) (u : Value), BindsTo s fd ⟨[u], []⟩ [(x, u)]) ∧ ∀ base : Heap, (K w.params).In base → base.Ns mainGlobals mg → FnOk l.prog w (K w.params) mg base CX0 k fa fd [x] (spLaw (K w.params))) :
    PySem.W.WalkO q loose XP YP l.row.toRowW d [] (fun f vs => PySem.call f vs) := by
  refine DLH.attach_callB hn hdf fun w s₀ s₁ mg mb fa o pm cd doc a vs ns G Y ho hd hcd hmg hobj hints hlen hbits hg => ?_
  have KX := hY w _ Y
  obtain ⟨fd, hb, hF⟩ := F w mg fa _ KX G.T.g hmg
  exact law_call KX G.T.g G.T.b G.T.builtins G.T.nolimit hg hobj hints (Nat.le_trans hlen (by decide)) hr hF hb (fun H hO hS => ⟨a, ns, rfl, hS, hO, hlen, hbits, fun _ => rfl⟩) fun H e s' z => z
end DL

namespace DL
open PySem PySem.Spec PyProof.Rows L2

/-! ### a list comprehension with one for -/
def testsOf (ifs : List Expr) (env : Env) : Sem Bool := forIn ifs true fun c r => if r = true then do let ok ← isTrue c env (eval c env); pure (ForInStep.yield ok) else pure (ForInStep.yield r)
def PF (X : Cx) (ifs : List Expr) (t : TT) : Prop :=
  ∀ (pins : List (Addr × Obj)) (s : Shared) (σ : L2.St) (H : Hp) (Q : Bool → Hp → Prop), Inv X pins σ H s → t σ H Q → wpAny (model X.prog X.w) X.A (testsOf ifs X.env) (TP X pins σ Q) X.xe s
theorem pf_nil {X : Cx} : PF X [] (fun _ H Q => Q true H) := fun _ _ _ H _ I h => wpAny_tests_nil ⟨H, I, h⟩
theorem pf_one {X : Cx} {c : Expr} {t : TT} (h : PT X c t) : PF X [c] t := fun pins s σ H Q I q => wpAny_tests_one (h pins s σ H Q I q)

theorem codeAny_compLoop_gen {prog : Program} {w : World} {A : Around} {R : Result → Shared → Prop} {s : Shared} {elt target iter : Expr} {ifs : List Expr} {scope : Scope} {pos : Pos} {it acc : Value} {env : Env} (I : Nat → Shared → Prop)
    (turn : ∀ n s, I n s → wpAny (model prog w) A (pyNext it) (fun r s₁ => match r with
      | none => R (.ok .next) s₁
      | some v => wpAny (model prog w) A (letOwnedTupleGo target it v) (fun _ s₁' => wpAny (model prog w) A (assign target env v) (fun _ s₂ =>
          wpAny (model prog w) A (testsOf ifs env) (fun ok s₃ =>
            if ok = true then wpAny (model prog w) A (eval elt env) (fun x s₄ =>
              wpAny (model prog w) A (call (.builtin "list.append") [acc, x]) (fun _ s₅ => ∃ m, m < n ∧ I m s₅) (fun _ _ => False) s₄) (fun _ _ => False) s₃
            else ∃ m, m < n ∧ I m s₃) (fun _ _ => False) s₂) (fun _ _ => False) s₁') (fun _ _ => False) s₁) (fun _ _ => False) s)
    (n : Nat) (h : I n s) :
    codeAny (model prog w) A (.compLoop (.ListComp elt [⟨target, iter, ifs, 0⟩] scope pos) 0 it acc env) R s := by
  refine codeAny_loop rfl I (fun n s hI => ?_) n h
  show wpAny _ A ((compTurn (.ListComp elt [⟨target, iter, ifs, 0⟩] scope pos) 0 it acc env).onRaise (fun x => do noteFrame x env; theTreesLotGoes x)) _ _ s
  refine wpAny_noted ?_
  rw [compTurn_list]
  refine wpAny_bind (wpAny_standAt (wpAny_bind (wpAny_mono (turn n s hI) (fun r s₁ h₁ => ?_) fun _ _ h' => h'.elim)))
  cases r with
  | none => exact wpAny_pure h₁
  | some v =>
    refine wpAny_bind (wpAny_mono h₁ (fun _ s₁' h₁' => ?_) fun _ _ h' => h'.elim)
    refine wpAny_bind (wpAny_mono h₁' (fun _ s₂ h₂ => wpAny_bind (wpAny_mono h₂ (fun ok s₃ h₃ => ?_) fun _ _ h' => h'.elim)) fun _ _ h' => h'.elim)
    cases ok with
    | false => exact wpAny_pure ⟨rfl, h₃⟩
    | true =>
      exact wpAny_bind (wpAny_bind (wpAny_mono h₃ (fun x s₄ h₄ => wpAny_bind (wpAny_mono h₄ (fun _ s₅ h₅ => wpAny_pure (wpAny_pure ⟨rfl, h₅⟩)) fun _ _ h' => h'.elim)) fun _ _ h' => h'.elim))

/-- the context of a comprehension's block -/
def compX (X : Cx) (N' : List Str) (scope : Scope) (cl : List (Str × Addr)) (s2 : Shared) (H2 : Hp) (C : Addr) (fp : List Addr) (pn : List (Addr × Obj)) : Cx where
  prog := X.prog
  w := X.w
  K := X.K
  mg := X.mg
  base := X.base
  A := X.A
  N := N'
  s₀ := s2
  H₀ := H2
  env := compEnvC scope cl C X.env
  outer := X.stack
  stack := X.stack
  ex := fp
  fn := fun _ => false
  calm := X.calm
  pn := pn
  xe := fun _ _ => False

def capS (nt : Nat) (caps : List (Nat × Str)) (σ : L2.St) : L2.St := List.replicate nt none ++ caps.map fun p => (σ[p.1]?).join
/-- W: the turn, what is left, what was gathered, the heap -/
def tComp (wi : TI) (nt : Nat) (caps : List (Nat × Str)) (g : TG) (tc : TT) (te : TE) : TE := fun σ H Q => wi σ H fun J H1 => ∀ p, H1 p = none →
  ∃ W : Nat → Nat → List V → L2.St → Hp → Prop, (∃ m, W 0 m [] (capS nt caps σ) (upd H1 p (.lst []))) ∧ ∀ i m xs σ' H', W i m xs σ' H' → (J.stop i H' ∧ Q (.ref p) H') ∨ (J.go i H' ∧ ∀ x H2, J.yld i H' x H2 →
    g x σ' H2 fun σ2 H3 => tc σ2 H3 fun b H4 => if b = true then te σ2 H4 fun y H5 => H5 p = some (.lst xs) ∧ xs.length < sizeLine ∧ ∃ m', m' < m ∧ W (i + 1) m' (xs ++ [y]) σ2 (upd H5 p (.lst (xs ++ [y]))) else ∃ m', m' < m ∧ W (i + 1) m' xs σ2 H4)

theorem pe_comp {X : Cx} {elt tgt iter : Expr} {ifs : List Expr} {scope : Scope} {pos : Pos} {wi : TI} {cl : List (Str × Addr)} (tn : List Str) (caps : List (Nat × Str)) {g : TG} {tc : TT} {te : TE}
    (hcalm : X.calm = true) (hclos : closureFor scope X.env = pure cl) (hcell : ∀ y ∈ scope.names, y.2 ≠ .cell) (hkind : scope.kind = .function) (hnames : ∀ y ∈ scope.names, y.2 = .local → scope.names.lookup y.1 = some .local)
    (hcl : ∀ x c, cl.lookup x = some c → X.env.cells.lookup x = some c) (hhas : ∀ x, ((relabel scope X.env).names.lookup x = some .cell ∨ (relabel scope X.env).names.lookup x = some .free) → ∃ c, cl.lookup x = some c)
    (hcap : ∀ p ∈ caps, X.N[p.1]? = some p.2 ∧ X.env.scope.names.lookup p.2 = some .cell ∧ ((relabel scope X.env).names.lookup p.2 = some .cell ∨ (relabel scope X.env).names.lookup p.2 = some .free))
    (hi : PI X.nox tgt iter wi)
    (hb : ∀ s2 H2 C fp pn, PG (compX X (tn ++ caps.map (·.2)) scope cl s2 H2 C fp pn) tgt g ∧ PF (compX X (tn ++ caps.map (·.2)) scope cl s2 H2 C fp pn) ifs tc ∧ PE (compX X (tn ++ caps.map (·.2)) scope cl s2 H2 C fp pn) elt te)
    (hs : ∀ x, foldedSetIterable iter X.env x = pure x := by intro _; rfl) :
    PE X.nox (.ListComp elt [⟨tgt, iter, ifs, 0⟩] scope pos) (tComp wi tn.length caps g tc te) := by
  intro pins s σ H Q I h
  rw [eval_ListComp]
  refine wpAny_comprehension_free (use := none) rfl hs hclos hkind hnames (wpAny_mono (hi pins s σ H _ I h) (fun x s₁ h₁ => wpAny_mono h₁ (fun itv s₂ h₂ => ?_) fun _ _ e => e) fun _ _ e => e)
  obtain ⟨it, fp, tnr, J, H1, rfl, I1, T, st, hfp, q⟩ := h₂
  refine wpAny_newObj_type (wpAny_newFunctionEnv hcell (by intro y hy; simp at hy) (fun h₁ hns₁ hsb₁ => ?_) hkind)
  dsimp only at hns₁ hsb₁ ⊢
  generalize hH2 : s₂.heap.push { cls := .type "list", dict := none, data := .seq ([] : List Value).toArray } = Hq at hns₁ hsb₁ ⊢
  have hC : Hq.objs.size = s₂.heap.objs.size + 1 := by rw [← hH2, Heap.size_push]
  generalize hCe : Hq.objs.size = C at hns₁ hsb₁ hC ⊢
  generalize hpe : s₂.heap.objs.size = p at hC ⊢
  obtain ⟨m1, hns₁⟩ : ∃ m, h₁.Ns C m := ⟨_, hns₁⟩
  have hpC : p ≠ C := Nat.ne_of_lt (by rw [hC]; exact Nat.lt_succ_self _)
  have hbs : ∀ b, b < s₂.heap.objs.size → b ≠ C ∧ b ≠ p := fun b hb => ⟨Nat.ne_of_lt (by rw [hC, ← hpe]; exact Nat.lt_succ_of_lt hb), Nat.ne_of_lt (by rw [← hpe]; exact hb)⟩
  have hple : s₂.heap.objs.size ≤ p := Nat.le_of_eq hpe
  have hCle : s₂.heap.objs.size ≤ C := by rw [hC, ← hpe]; exact Nat.le_succ _
  have old : ∀ b o, s₂.heap.get? b = some o → h₁.get? b = some o := fun b o e =>
    hsb₁.extBut b o (hbs b (Heap.lt_size e)).1 (Heap.get?_push_of_some _ (hH2 ▸ Heap.get?_push_of_some _ e))
  have hacc : h₁.get? p = some { cls := .type "list", data := .seq ([] : List Value).toArray 0 } := by
    refine hsb₁.extBut p _ hpC ?_
    rw [← hpe]
    exact Heap.get?_push_of_some _ (hH2 ▸ Heap.get?_push_size _ rfl)
  have hfree : H1 p = none := I1.hok.fresh hple
  have hfreeC : H1 C = none := I1.hok.fresh hCle
  obtain ⟨W, ⟨m0, w0⟩, turn⟩ := q p hfree
  have X'def : ∃ X', X' = compX X (tn ++ caps.map (·.2)) scope cl s₂ H1 C fp (X.pn ++ pins) := ⟨_, rfl⟩
  obtain ⟨X', hX'⟩ := X'def
  have hstk : ∀ b ∈ frs X.stack, b = X.env.locals ∨ b ∈ X.fs := fun b hb => List.mem_cons.mp (I1.stkSub b hb)
  have hfpl : ∀ b ∈ fp, b < s₂.heap.objs.size := fun b hb => let ⟨_, e, _⟩ := T.obj _ _ st b hb; Heap.lt_size e
  have hfps : ∀ b ∈ fp, b ∉ frs X.stack := fun b hb z => (hstk b z).elim (fun e => (hfp b hb).2.1 e) fun e => (hfp b hb).2.2.1 e
  have hcells : ∀ x c, cl.lookup x = some c → c < s₂.heap.objs.size ∧ H1 c = none := fun x c e => by
    obtain ⟨v, hv⟩ := I1.cell x c (hcl x c e)
    exact ⟨hv.lt, I1.freeC x c (hcl x c e)⟩
  have ok : X'.Ok := by
    subst hX'
    have o := I1.ok
    exact { mod := o.mod
            kind := by show (relabel scope X.env).kind = .function; exact hkind
            glob := o.glob
            blt := o.blt
            above := hCle
            inj := fun x y c h1 h2 => o.inj x y c (hcl x c h1) (hcl y c h2)
            has := fun x hx => hhas x hx
            cab := fun x c h1 _ => nomatch h1
            hd := o.hd
            frames := o.frames
            stk := .inl rfl
            exf := fun b hb => ⟨(hbs b (hfpl b hb)).1, fun x c e => fun z => (hfp b hb).2.2.2.2.1 x c (hcl x c e) z⟩
            bs := fun b ob e => I1.bs b ob e
            bsz := Nat.le_trans o.bsz I1.sz
            noex := fun b ob e hb => by
              obtain ⟨_, _, _, hh, _⟩ := hfp b hb
              rcases hh with hh | hh
              · exact o.noex b ob e hh
              · exact absurd (Heap.lt_size (I1.ok.bs b ob e).1) (Nat.not_lt.mpr hh)
            exfs := hfps
            funs := I1.stack
            frf := I1.stkFree }
  have capOk : ∀ (m : Str → Option Value) (i : Nat) (x : Str) (v : V), X'.N[i]? = some x → (capS tn.length caps σ)[i]? = some (some v) → Vis X'.env.scope x → ∃ u, RelV v u ∧ Look X'.env h₁ m x u := by
    subst hX'
    intro m i x v hN hσ hv
    have hN : (tn ++ caps.map (·.2))[i]? = some x := hN
    unfold capS at hσ
    by_cases hi : i < tn.length
    · rw [List.getElem?_append_left (by rw [List.length_replicate]; exact hi), List.getElem?_replicate, if_pos hi] at hσ
      cases hσ
    · rw [List.getElem?_append_right (by rw [List.length_replicate]; omega), List.length_replicate] at hσ
      rw [List.getElem?_append_right (by omega)] at hN
      rw [List.getElem?_map] at hσ hN
      cases hc : caps[i - tn.length]? with
      | none => rw [hc] at hN; cases hN
      | some pr =>
        rw [hc] at hN hσ
        have hN : pr.2 = x := Option.some.inj hN
        have hσ : (σ[pr.1]?).join = some v := Option.some.inj hσ
        obtain ⟨c1, c2, c3⟩ := hcap pr (List.mem_of_getElem? hc)
        subst hN
        have hσ' : σ[pr.1]? = some (some v) := by
          cases z : σ[pr.1]? with
          | none => rw [z] at hσ; cases hσ
          | some o => rw [z] at hσ; exact congrArg some hσ
        obtain ⟨m1, hm1, hl1⟩ := I1.loc
        obtain ⟨u, ru, lk⟩ := hl1 pr.1 pr.2 v c1 hσ' (.inr (.inl c2))
        refine ⟨u, ru, .inr ⟨c3, ?_⟩⟩
        rcases lk with ⟨k, _⟩ | ⟨_, c, ec, ic⟩
        · have k : X.env.scope.names.lookup pr.2 = some .local := k
          rw [c2] at k
          cases k
        · obtain ⟨c', ec'⟩ := hhas pr.2 c3
          have e1 := hcl _ _ ec'
          have ec : X.env.cells.lookup pr.2 = some c := ec
          rw [ec] at e1
          cases e1
          exact ⟨c, ec', ic.keeps old⟩
  have un0 : Un (frs X.stack) fp H1 (upd H1 p (.lst [])) s₂.heap h₁ := Un.laid old hple hfree
  have I4 : ∀ tk, Inv X' [] (capS tn.length caps σ) (upd H1 p (.lst [])) { s₂ with heap := h₁, toks := tk } := fun tk => by
    have hN : X'.N = tn ++ caps.map (·.2) := by rw [hX']; rfl
    refine ⟨ok, ?_, I1.bare, ?_, ⟨m1, ?_, fun i x v e1 e2 e3 => ?_⟩, fun x c e => ?_, ?_, fun x c e => ?_, fun pr hp => ?_, ?_, ?_⟩
    · rw [hX']; rfl
    · rw [hX']; exact un0
    · rw [hX']; exact hns₁
    · exact capOk _ i x v e1 e2 e3
    · rw [hX'] at e
      obtain ⟨v, hv⟩ := I1.cell x c (hcl x c e)
      exact ⟨v, hv.keeps old⟩
    · rw [hX']
      show upd H1 p (.lst []) C = none
      rw [upd_ne (Ne.symm hpC)]
      exact hfreeC
    · rw [hX'] at e
      have hc := hcells x c e
      show upd H1 p (.lst []) c = none
      rw [upd_ne (hbs c hc.1).2]
      exact hc.2
    · rw [hX'] at hp
      have hp : pr ∈ (X.pn ++ pins) ++ [] := hp
      rw [List.append_nil] at hp
      obtain ⟨e, n, nl, nf, d⟩ := I1.pin pr hp
      have hlt := Heap.lt_size e
      refine ⟨old _ _ e, ?_, ?_, fun z => ?_, d⟩
      · rw [upd_ne (hbs _ hlt).2]; exact n
      · rw [hX']; exact (hbs _ hlt).1
      · rw [hX'] at z
        exact (hstk _ z).elim nl nf
    · have e1 : X'.prog = X.prog := by rw [hX']; rfl
      have e2 : X'.w = X.w := by rw [hX']; rfl
      rw [e1, e2]
      exact I1.hok.laid old hple ⟨Nat.zero_le _, [], 0, .nil, hacc⟩
    · rw [hN]
      unfold capS
      rw [List.length_append, List.length_append, List.length_replicate, List.length_map, List.length_map]
  have fpk : ∀ H', (∀ b ∈ fp, H' b = none) → ∀ b ∈ fp, FpOk X' [] H' b := fun H' hn b hb => by
    rw [hX']
    refine ⟨hn b hb, (hbs b (hfpl b hb)).1, hfps b hb, .inl hb, fun x c e => fun z => (hfp b hb).2.2.2.2.1 x c (hcl x c e) z, fun pr hp => ?_⟩
    have hp : pr ∈ (X.pn ++ pins) ++ [] := hp
    rw [List.append_nil] at hp
    exact (hfp b hb).2.2.2.2.2 pr hp
  obtain ⟨hg, hf, he⟩ := hb s₂ H1 C fp (X.pn ++ pins)
  rw [← hX'] at hg hf he
  have p1 : X'.prog = X.prog := by rw [hX']; rfl
  have p2 : X'.w = X.w := by rw [hX']; rfl
  have p3 : X'.K = X.K := by rw [hX']; rfl
  have p4 : X'.calm = true := by rw [hX']; exact hcalm
  have p5 : X'.env = compEnvC scope cl C X.env := by rw [hX']; rfl
  have p6 : X'.A = X.A := by rw [hX']; rfl
  have p7 : X'.xe = fun _ _ => False := by rw [hX']; rfl
  have st1 : tnr 0 h₁ := T.keep _ _ _ st fun b hb o e => old b o e
  have loop : ∀ tk, codeAny (model X.prog X.w) X.A (.compLoop (.ListComp elt [⟨tgt, iter, ifs, 0⟩] scope pos) 0 (.ref it) (.ref p) (compEnvC scope cl C X.env))
      (compPost (model X.prog X.w) X.A (fun _ _ => False) none (EP X.nox pins σ Q) (.ref p) C) { s₂ with heap := h₁, toks := tk } := fun tk => by
    refine codeAny_compLoop_gen (fun n s' => ∃ i xs σ' H', Inv X' [] σ' H' s' ∧ tnr i s'.heap ∧ (∀ b ∈ fp, H' b = none) ∧ W i n xs σ' H') ?_ m0 ⟨0, [], _, _, I4 tk, st1, fun b hb => ?_, w0⟩
    · rintro n s3 ⟨i, xs, σ3, H3, I3, st3, fr3, w3⟩
      rcases turn i n xs σ3 H3 w3 with ⟨stop, qn⟩ | ⟨go, step⟩
      · have q1 := T.done X' p1 p2 p3 p4 i [] s3 _ H3 (fun _ _ => False) I3 (fpk H3 fr3) st3 stop
        rw [p6] at q1
        refine thn q1 fun r s4 ⟨hr, I4'⟩ => ?_
        subst hr
        obtain ⟨m4, hm4, _⟩ := I4'.loc
        rw [p5] at hm4
        refine ⟨m4, hm4, fun h' hs' => ?_⟩
        have hb4 := I4'.base
        rw [hX'] at hb4
        have hb4 : Un (frs X.stack) fp H1 H3 s₂.heap s4.heap := hb4
        have neC : ∀ b o, s₂.heap.get? b = some o → b ≠ C := fun b o e => (hbs b (Heap.lt_size e)).1
        have keepC : ∀ b o, b ≠ C → s4.heap.get? b = some o → h'.get? b = some o := fun b o nb e => hs'.extBut b o nb e
        have hfc : H3 C = none := by
          have z := I4'.free
          rw [p5] at z
          exact z
        have un4 : Un (frs X.stack) fp H1 H3 s₂.heap h' := ⟨fun b o e n hb hx => keepC b o (neC b o e) (hb4.keep b o e n hb hx), fun b o e n hb hx => let ⟨sl, z⟩ := hb4.slot b o e n hb hx; ⟨sl, keepC b _ (neC b o e) z⟩, hb4.free,
          fun b o e hx => let ⟨o', z⟩ := hb4.there b o e hx; ⟨o', keepC b _ (neC b o e) z⟩, hb4.tups, hb4.frzs, hb4.tbls⟩
        have hok4 : HOk X.prog X.w H3 h' := by
          have hk := I4'.hok
          rw [p1, p2] at hk
          intro b u e
          refine (hk b u e).stay (fun c v hc q => keepC c v ?_ q) (fun _ q => q) fun _ _ q => q
          rcases hc with z | z
          · rw [z]; intro z2; rw [z2, hfc] at e; cases e
          · intro z2; rw [z2, hfc] at z; cases z
        obtain ⟨hh, gg, dd, tt, os'⟩ := s4
        have hos : os' = s₂.os := by
          have z := I4'.os
          rw [hX'] at z
          exact z
        subst hos
        have I9 := I1.call (h' := h') (g' := gg) (d' := dd) (t' := tt) (ch := fp) un4 hok4 I4'.bare (fun b hb => by
          obtain ⟨_, f1, f2, f3, f4, f5⟩ := hfp b hb
          exact ⟨f3, f1, f4, f5⟩)
        exact ⟨.ref p, H3, I9, rfl, qn⟩
      · have q1 := T.item X' p1 p2 p3 p4 i [] s3 _ H3 (fun _ _ => False) I3 (fpk H3 fr3) st3 go
        rw [p6] at q1
        refine thn q1 fun r s4 ⟨u, hr, h4⟩ => ?_
        subst hr
        refine thn h4 fun _ s5 ⟨x, H5, I5, r5, y5, st5, fr5⟩ => ?_
        have I5' := I5.pinned (fpk H5 fr5) (T.obj _ _ st5)
        have q5 := hg _ s5 _ H5 x u _ I5' r5 (step x H5 y5)
        rw [p1, p2, p5, p6, p7] at q5
        refine thn q5 fun _ s6 ⟨σ6, H6, I6, q6⟩ => ?_
        have q6 := hf _ s6 σ6 H6 _ I6 q6
        rw [p1, p2, p5, p6, p7] at q6
        refine thn q6 fun b s7 ⟨H7, I7, q7⟩ => ?_
        have again : ∀ {s8 : Shared} {H8 : Hp}, Inv X' ([] ++ pinsAt fp s5.heap) σ6 H8 s8 → Inv X' [] σ6 H8 s8 ∧ tnr (i + 1) s8.heap ∧ (∀ b ∈ fp, H8 b = none) := fun {s8 H8} I8 => by
          refine ⟨I8.unpinned, T.keep _ _ _ st5 fun b hb o e => (I8.pin (b, o) (List.mem_append_right _ (List.mem_append_right _ (mem_pinsAt hb e)))).1, fun b hb => ?_⟩
          obtain ⟨o, e, d⟩ := T.obj _ _ st5 b hb
          exact (I8.pin (b, o) (List.mem_append_right _ (List.mem_append_right _ (mem_pinsAt hb e)))).2.1
        cases b with
        | false =>
          obtain ⟨m', hm, w7⟩ := q7
          obtain ⟨a1, a2, a3⟩ := again I7
          exact ⟨m', hm, i + 1, xs, σ6, H7, a1, a2, a3, w7⟩
        | true =>
          rw [if_pos rfl]
          have q8 := he _ s7 σ6 H7 _ I7 q7
          rw [p1, p2, p5, p6, p7] at q8
          refine thn q8 fun y s8 ⟨yv, H8, I8, ry, hac, hsz, m', hm, w8⟩ => ?_
          have q9 := mt_append (X := X') _ s8 σ6 H8 (.ref p) [yv] (.ref p) [y] (fun _ H9 => H9 = upd H8 p (.lst (xs ++ [yv]))) I8 rfl (.cons ry .nil) ⟨p, xs, yv, rfl, rfl, hac, hsz, rfl⟩
          rw [p1, p2, p6, p7] at q9
          refine thn q9 fun _ s9 ⟨_, H9, I9, _, e9⟩ => ?_
          subst e9
          obtain ⟨a1, a2, a3⟩ := again I9
          exact ⟨m', hm, i + 1, xs ++ [yv], σ6, _, a1, a2, a3, w8⟩
    · rw [upd_ne (hbs b (hfpl b hb)).2]
      exact (hfp b hb).1
  have L0 := loop (s₂.toks + ([] : List (Str × Value)).length)
  exact codeAny_compStart_list L0 (T.self _ _ _ _ _ st1 L0)
end DL

namespace DL
open PySem PySem.Spec PyProof.Rows L2
theorem b_len : bootBuiltins "len" = some (.builtin "len") := by decide +kernel
theorem b_isinstance : bootBuiltins "isinstance" = some (.builtin "isinstance") := by decide +kernel
theorem b_min : bootBuiltins "min" = some (.builtin "min") := by decide +kernel
theorem b_sorted : bootBuiltins "sorted" = some (.builtin "sorted") := by decide +kernel
theorem b_int : bootBuiltins "int" = some (.type "int") := by decide +kernel
theorem b_bool : bootBuiltins "bool" = some (.type "bool") := by decide +kernel
theorem b_tuple : bootBuiltins "tuple" = some (.type "tuple") := by decide +kernel
theorem b_list : bootBuiltins "list" = some (.type "list") := by decide +kernel
section
variable {X : Cx}
theorem pureR.imp {K : PySem.W.Frag} {f g : List D → (D → Prop) → Prop} {vs : List V} {H : Hp} {Q : VK} (h : ∀ ds R, f ds R → g ds R) (p : pureR K f vs H Q) : pureR K g vs H Q :=
  let ⟨M, ds, R, m, rs, hf, k⟩ := p; ⟨M, ds, R, m, rs, h ds R hf, k⟩
/-- a + b: numbers, or lists -/
def fPlus : List D → (D → Prop) → Prop
  | [.int i, .int j], R => R (.int (i + j))
  | [.lst xs, .lst ys], R => xs.length + ys.length ≤ 1000 ∧ R (.lst (xs ++ ys))
  | _, _ => False
theorem o_plus : OpR X (binaryOp .Add) fun x y => pureR X.K fPlus [x, y] :=
  OpR.imp (OpR.or o_add o_cat) fun x y H Q ⟨M, ds, R, m, rs, h, k⟩ => by
    unfold fPlus at h
    split at h
    · exact .inl ⟨M, _, R, m, rs, ⟨_, _, rfl, h⟩, k⟩
    · exact .inr ⟨M, _, R, m, rs, h, k⟩
    · exact h.elim

/-! ### == -/
mutual
def D.dp : D → Nat
  | .tup xs => D.dps xs + 1
  | .lst xs => D.dps xs + 1
  | .fz xs => D.dps xs + 1
  | .dct _ _ => 0
  | .non => 0
  | .bl _ => 0
  | .int _ => 0
  | .str _ => 0
def D.dps : List D → Nat
  | [] => 0
  | x :: r => max (D.dp x) (D.dps r)
end
mutual
/-- no dict within -/
def D.nd : D → Bool
  | .tup xs => D.nds xs
  | .lst xs => D.nds xs
  | .fz xs => D.nds xs
  | .dct _ _ => false
  | .non => true
  | .bl _ => true
  | .int _ => true
  | .str _ => true
def D.nds : List D → Bool
  | [] => true
  | x :: r => D.nd x && D.nds r
end
theorem in1_units (A : Around) : A.in1.units = A.units + 1 := rfl
theorem all_true (n : Nat) : ((List.range n).all fun _ => true) = true := by simp
section
variable {pins : List (Addr × Obj)} {σ : L2.St} {H : Hp} {s : Shared} {M : Addr → Prop}
mutual
theorem eqAt_D (I : Inv X pins σ H s) : ∀ (d : D) (A : Around) (v v' : V) (u u' : Value), d.nd = true → A.units + d.dp < cLine → Rep X.K M H d v → Rep X.K M H d v' → RelV v u → RelV v' u' → SeqAt.EqAt A s u u' true
  | .non, A, v, v', u, u', _, _, r, r', q, q' => by
    unfold Rep at r r'; subst r r'
    have := eqAt_V (A := A) (s := s) q q' rfl rfl
    exact this
  | .bl b, A, v, v', u, u', _, _, r, r', q, q' => by
    unfold Rep at r r'; subst r r'
    have := eqAt_V (A := A) (s := s) q q' rfl rfl
    simpa [eqV] using this
  | .int b, A, v, v', u, u', _, _, r, r', q, q' => by
    unfold Rep at r r'; subst r r'
    have := eqAt_V (A := A) (s := s) q q' rfl rfl
    simpa [eqV] using this
  | .str b, A, v, v', u, u', _, _, r, r', q, q' => by
    unfold Rep at r r'; subst r r'
    have := eqAt_V (A := A) (s := s) q q' rfl rfl
    simpa [eqV] using this
  | .tup ds, A, v, v', u, u', hn, hd, r, r', q, q' => by
    unfold Rep at r r'
    obtain ⟨a, vs, rfl, sq, rs⟩ := r
    obtain ⟨b, ws, rfl, sq', rs'⟩ := r'
    cases q
    cases q'
    unfold D.dp at hd
    by_cases e : a = b
    · subst e; exact SeqAt.EqAt.same _
    · obtain ⟨its, r1, t1, _⟩ := I.tuple sq
      obtain ⟨its', r2, t2, _⟩ := I.tuple sq'
      have hs : its.length = its'.length := by rw [← r1.length, ← r2.length, ← Reps.length _ _ rs, ← Reps.length _ _ rs']
      have k := SeqAt.RcAt.tuples (A := A) (e := fun _ => true) t1 t2 (by omega) (eqAt_Ds I ds A.in1 vs ws its its' hn (by rw [in1_units]; omega) rs rs' r1 r2)
      have z : ((List.range (min its.toArray.size its'.toArray.size)).all (fun _ => true) && its.toArray.size == its'.toArray.size) = true := by simp [hs]
      rw [z] at k
      exact SeqAt.EqAt.of_refs e k
  | .lst ds, A, v, v', u, u', hn, hd, r, r', q, q' => by
    unfold Rep at r r'
    obtain ⟨a, vs, rfl, _, sq, rs⟩ := r
    obtain ⟨b, ws, rfl, _, sq', rs'⟩ := r'
    cases q
    cases q'
    unfold D.dp at hd
    by_cases e : a = b
    · subst e; exact SeqAt.EqAt.same _
    · obtain ⟨its, r1, t1, _⟩ := I.list (SqL.of sq)
      obtain ⟨its', r2, t2, _⟩ := I.list (SqL.of sq')
      have hs : its.length = its'.length := by rw [← r1.length, ← r2.length, ← Reps.length _ _ rs, ← Reps.length _ _ rs']
      have k := SeqAt.RcAt.lists (A := A) (e := fun _ => true) t1.isList t2.isList (by simp [hs]) (by omega) (eqAt_Ds I ds A.in1 vs ws its its' hn (by rw [in1_units]; omega) rs rs' r1 r2)
      rw [all_true] at k
      exact SeqAt.EqAt.of_refs e k
  | .fz ds, A, v, v', u, u', hn, hd, r, r', q, q' => by
    unfold Rep at r r'
    obtain ⟨a, vs, rfl, sq, rs⟩ := r
    obtain ⟨b, ws, rfl, sq', rs'⟩ := r'
    cases q
    cases q'
    unfold D.dp at hd
    by_cases e : a = b
    · subst e; exact SeqAt.EqAt.same _
    · obtain ⟨its, r1, t1, _⟩ := I.list sq.seq
      obtain ⟨its', r2, t2, _⟩ := I.list sq'.seq
      have hs : its.length = its'.length := by rw [← r1.length, ← r2.length, ← Reps.length _ _ rs, ← Reps.length _ _ rs']
      have k := SeqAt.RcAt.lists (A := A) (e := fun _ => true) t1.isList t2.isList (by simp [hs]) (by omega) (eqAt_Ds I ds A.in1 vs ws its its' hn (by rw [in1_units]; omega) rs rs' r1 r2)
      rw [all_true] at k
      exact SeqAt.EqAt.of_refs e k
  | .dct ks ds, A, v, v', u, u', hn, _, _, _, _, _ => by unfold D.nd at hn; cases hn
theorem eqAt_Ds (I : Inv X pins σ H s) : ∀ (ds : List D) (A : Around) (vs ws : List V) (us us' : List Value), D.nds ds = true → A.units + D.dps ds < cLine → Reps X.K M H ds vs → Reps X.K M H ds ws → Vals vs us → Vals ws us' →
    ∀ j (h1 : j < us.toArray.size) (h2 : j < us'.toArray.size), SeqAt.EqAt A s us.toArray[j] us'.toArray[j] true
  | [], A, vs, ws, us, us', _, _, r, r', q, q', j, h1, h2 => by
    unfold Reps at r
    subst r
    cases q
    exact absurd h1 (by simp)
  | d :: ds, A, vs, ws, us, us', hn, hd, r, r', q, q', j, h1, h2 => by
    unfold Reps at r r'
    obtain ⟨v, vr, rfl, rv, rs⟩ := r
    obtain ⟨w', wr, rfl, rw', rs'⟩ := r'
    unfold D.nds at hn
    obtain ⟨n1, n2⟩ := Bool.and_eq_true_iff.mp hn
    unfold D.dps at hd
    cases q with
    | @cons _ u0 _ ur qa qb =>
      cases q' with
      | @cons _ u1 _ ur' qa' qb' =>
        cases j with
        | zero => exact eqAt_D I d A v w' _ _ n1 (by omega) rv rw' qa qa'
        | succ j =>
          have z := eqAt_Ds I ds A vr wr ur ur' n2 (by omega) rs rs' qb qb' j (by simpa using h1) (by simpa using h2)
          simpa using z
end
end
theorem dc_int {i j : Int} : decide (V.int i = V.int j) = decide (i = j) := by rw [dec_int]; exact Bool.beq_eq_decide_eq _ _
theorem dc_bl {i j : Bool} : decide (V.bl i = V.bl j) = decide (i = j) := by rw [dec_bl]; exact Bool.beq_eq_decide_eq _ _
theorem dc_str {i j : Str} : decide (V.str i = V.str j) = decide (i = j) := by rw [dec_str]; exact Bool.beq_eq_decide_eq _ _
def fEq : List D → (D → Prop) → Prop
  | [.int i, .int j], R => R (.bl (decide (i = j)))
  | [.str x, .str y], R => R (.bl (decide (x = y)))
  | [.bl a, .bl b], R => R (.bl (decide (a = b)))
  | [.tup xs, .tup ys], R => (xs = ys ∧ D.nds xs = true ∧ D.dps xs ≤ 60) ∧ R (.bl true)
  | [.lst xs, .lst ys], R => ((xs = ys ∧ D.nds xs = true ∧ D.dps xs ≤ 60) ∧ R (.bl true)) ∨ (xs.length ≠ ys.length ∧ R (.bl false))
  | _, _ => False
theorem fEq_int {i j : Int} {R : D → Prop} : fEq [.int i, .int j] R ↔ R (.bl (decide (i = j))) := Iff.rfl
theorem fEq_str {i j : Str} {R : D → Prop} : fEq [.str i, .str j] R ↔ R (.bl (decide (i = j))) := Iff.rfl
theorem fEq_bl {i j : Bool} {R : D → Prop} : fEq [.bl i, .bl j] R ↔ R (.bl (decide (i = j))) := Iff.rfl
theorem fEq_tup {i j : List D} {R : D → Prop} : fEq [.tup i, .tup j] R ↔ (i = j ∧ D.nds i = true ∧ D.dps i ≤ 60) ∧ R (.bl true) := Iff.rfl
theorem o_eq (hu : X.A.units + 64 < cLine) : OpR X (compareOp .Eq) fun x y => pureR X.K fEq [x, y] := by
  intro pins s σ H x y v u Q I rx ry h
  obtain ⟨M, ds, R, m, rs, h, k⟩ := h
  unfold fEq at h
  split at h
  · obtain ⟨h1, h2⟩ := reps2 rs
    cases rep_int h1
    cases rep_int h2
    refine op_eq pins s σ H _ _ v u Q I rx ry ⟨rfl, ?_⟩
    rw [dc_int]
    exact k _ h _ H (Same.refl H) (Rep.sc rfl)
  · obtain ⟨h1, h2⟩ := reps2 rs
    cases rep_str h1
    cases rep_str h2
    refine op_eq pins s σ H _ _ v u Q I rx ry ⟨rfl, ?_⟩
    rw [dc_str]
    exact k _ h _ H (Same.refl H) (Rep.sc rfl)
  · obtain ⟨h1, h2⟩ := reps2 rs
    cases rep_bl h1
    cases rep_bl h2
    refine op_eq pins s σ H _ _ v u Q I rx ry ⟨rfl, ?_⟩
    rw [dc_bl]
    exact k _ h _ H (Same.refl H) (Rep.sc rfl)
  · obtain ⟨⟨e, hn, hd⟩, h⟩ := h
    subst e
    obtain ⟨h1, h2⟩ := reps2 rs
    unfold Rep at h1 h2
    obtain ⟨a, vs, rfl, sq, rs1⟩ := h1
    obtain ⟨b, ws, rfl, sq', rs2⟩ := h2
    cases rx
    cases ry
    obtain ⟨its, r1, t1, _⟩ := I.tuple sq
    obtain ⟨its', r2, t2, _⟩ := I.tuple sq'
    have hs : its.length = its'.length := by rw [← r1.length, ← r2.length, ← Reps.length _ _ rs1, ← Reps.length _ _ rs2]
    refine SeqAt.eq_tupleAt (e := fun _ => true) t1 t2 (by omega) (eqAt_Ds I _ X.A.in1 vs ws its its' hn (by rw [in1_units]; omega) rs1 rs2 r1 r2) ?_
    have z : ((List.range (min its.toArray.size its'.toArray.size)).all (fun _ => true) && its.toArray.size == its'.toArray.size) = true := by simp [hs]
    rw [z]
    exact ⟨.bl true, H, I, rfl, k _ h _ H (Same.refl H) (Rep.sc rfl)⟩
  · obtain ⟨h1, h2⟩ := reps2 rs
    unfold Rep at h1 h2
    obtain ⟨a, vs, rfl, _, sq, rs1⟩ := h1
    obtain ⟨b, ws, rfl, _, sq', rs2⟩ := h2
    cases rx
    cases ry
    obtain ⟨its, r1, t1, _⟩ := I.list (SqL.of sq)
    obtain ⟨its', r2, t2, _⟩ := I.list (SqL.of sq')
    rcases h with ⟨⟨e, hn, hd⟩, h⟩ | ⟨ne, h⟩
    · subst e
      have hs : its.length = its'.length := by rw [← r1.length, ← r2.length, ← Reps.length _ _ rs1, ← Reps.length _ _ rs2]
      refine SeqAt.eq_listAt (e := fun _ => true) t1.isList t2.isList (by simp [hs]) (by omega) (eqAt_Ds I _ X.A.in1 vs ws its its' hn (by rw [in1_units]; omega) rs1 rs2 r1 r2) ?_
      rw [all_true]
      exact ⟨.bl true, H, I, rfl, k _ h _ H (Same.refl H) (Rep.sc rfl)⟩
    · refine SeqAt.eq_list_lengthsAt t1.isList t2.isList ?_ (by omega) ⟨.bl false, H, I, rfl, k _ h _ H (Same.refl H) (Rep.sc rfl)⟩
      have l1 := r1.length
      have l2 := r2.length
      have l3 := Reps.length _ _ rs1
      have l4 := Reps.length _ _ rs2
      simp only [List.size_toArray, bne_iff_ne, ne_eq]
      omega
  · exact h.elim
def fNe : List D → (D → Prop) → Prop
  | [.int i, .int j], R => R (.bl (!decide (i = j)))
  | [.str x, .str y], R => R (.bl (!decide (x = y)))
  | [.bl a, .bl b], R => R (.bl (!decide (a = b)))
  | _, _ => False
theorem o_ne (_ : X.A.units + 64 < cLine) : OpR X (compareOp .NotEq) fun x y => pureR X.K fNe [x, y] := by
  intro pins s σ H x y v u Q I rx ry h
  obtain ⟨M, ds, R, m, rs, h, k⟩ := h
  unfold fNe at h
  split at h
  · obtain ⟨h1, h2⟩ := reps2 rs
    cases rep_int h1
    cases rep_int h2
    refine op_ne pins s σ H _ _ v u Q I rx ry ⟨rfl, ?_⟩
    rw [dc_int]
    exact k _ h _ H (Same.refl H) (Rep.sc rfl)
  · obtain ⟨h1, h2⟩ := reps2 rs
    cases rep_str h1
    cases rep_str h2
    refine op_ne pins s σ H _ _ v u Q I rx ry ⟨rfl, ?_⟩
    rw [dc_str]
    exact k _ h _ H (Same.refl H) (Rep.sc rfl)
  · obtain ⟨h1, h2⟩ := reps2 rs
    cases rep_bl h1
    cases rep_bl h2
    refine op_ne pins s σ H _ _ v u Q I rx ry ⟨rfl, ?_⟩
    rw [dc_bl]
    exact k _ h _ H (Same.refl H) (Rep.sc rfl)
  · exact h.elim

/-! ### is -/
def fIs : List D → (D → Prop) → Prop
  | [.bl a, .bl b], R => R (.bl (decide (a = b)))
  | [.non, .non], R => R (.bl true)
  | [.tup _, .non], R => R (.bl false)
  | [.lst _, .non], R => R (.bl false)
  | [.int _, .non], R => R (.bl false)
  | [.str _, .non], R => R (.bl false)
  | [.bl _, .non], R => R (.bl false)
  | _, _ => False
theorem fIs_bl {i j : Bool} {R : D → Prop} : fIs [.bl i, .bl j] R ↔ R (.bl (decide (i = j))) := Iff.rfl
def fIsN : List D → (D → Prop) → Prop
  | [.bl a, .bl b], R => R (.bl (!decide (a = b)))
  | _, _ => False
theorem fIsN_bl {i j : Bool} {R : D → Prop} : fIsN [.bl i, .bl j] R ↔ R (.bl (!decide (i = j))) := Iff.rfl
/-! ### isinstance of a built-in type -/
def tyN : D → String
  | .non => "NoneType"
  | .bl _ => "bool"
  | .int _ => "int"
  | .str _ => "str"
  | .tup _ => "tuple"
  | .lst _ => "list"
  | .fz _ => "list"
  | .dct _ _ => "dict"
def isT (T n : String) : Bool := n == T || (n == "bool" && T == "int")
/-- what the model's table says of the built-in types that are asked here -/
def tyTab (T : String) : Prop := ∀ (K : PySem.W.Frag) (n : String), n ∈ ["NoneType", "bool", "int", "str", "tuple", "list", "dict"] → PySem.W.kitOne K (.type n) (.type T) = some (isT T n)
theorem tyN_mem (d : D) : tyN d ∈ ["NoneType", "bool", "int", "str", "tuple", "list", "dict"] := by cases d <;> simp [tyN]
/-- isinstance(x, T) by the object's own kind, whatever the kind's road -/
theorem isi_D {pins : List (Addr × Obj)} {σ : L2.St} {H : Hp} {s : Shared} {A : Around} {E : Value → Shared → Prop} {M : Addr → Prop} {d : D} {v : V} {u : Value} {T : String} {Q : Value → Shared → Prop} (I : L2.Inv X pins σ H s) (r : Rep X.K M H d v) (ru : RelV v u) (ht : tyTab T)
    (h : ∀ tk, Q (.bool (isT T (tyN d))) { s with toks := tk }) : wpAny (model X.prog X.w) A (call (.builtin "isinstance") [u, .type T]) Q E s := by
  have e := ht X.K (tyN d) (tyN_mem d)
  cases d with
  | non => unfold Rep at r; subst r; exact isinst_ok I ru (.non) e h
  | bl b => unfold Rep at r; subst r; exact isinst_ok I ru (.bl b) e h
  | int b => unfold Rep at r; subst r; exact isinst_ok I ru (.int b) e h
  | str b => unfold Rep at r; subst r; exact isinst_ok I ru (.str b) e h
  | tup xs =>
    unfold Rep at r
    obtain ⟨a, vs, rfl, sq, _⟩ := r
    cases ru
    obtain ⟨its, _, ⟨o, h1, h2, _⟩, _⟩ := I.tuple sq
    exact PySem.W.kia_one PySem.W.kitx_tuple I.kIn ⟨o, h1, h2⟩ e (fun z => nomatch z) h
  | lst xs => unfold Rep at r; obtain ⟨a, vs, rfl, _, sq, _⟩ := r; exact isinst_ok I ru (.lst sq) e h
  | fz xs =>
    unfold Rep at r
    obtain ⟨a, vs, rfl, sq, _⟩ := r
    cases ru
    obtain ⟨its, _, ⟨o, n, h1, h2, _⟩, _⟩ := I.list sq.seq
    exact PySem.W.kia_one PySem.W.kitx_list I.kIn ⟨o, h1, h2⟩ e (fun z => nomatch z) h
  | dct ks xs => unfold Rep at r; obtain ⟨a, vs, rfl, _, sq, _⟩ := r; exact isinst_ok I ru (.dK sq) e h
def dIsi (T : String) (t : TDE) : TDE := fun δ R => t δ (wd fun x δ1 => R (.d (.bl (isT T (tyN x)))) δ1)
def rIsi (K : PySem.W.Frag) (T : String) : List V → Hp → VK → Prop := fun xs H Q => ∃ x M d, xs = [x, .ty T] ∧ Rep K M H d x ∧ Q (.bl (isT T (tyN d))) H
theorem call_isi {T : String} (ht : tyTab T) : CallR X (.builtin "isinstance") (rIsi X.K T) := by
  intro pins s σ H xs us Q I r h
  obtain ⟨x, M, d, rfl, rx, q⟩ := h
  obtain ⟨u, w', rfl, ru, rw'⟩ := vals2 r
  cases rw'
  exact isi_D I rx ru ht fun tk => ⟨.bl _, H, I.tok _, rfl, q⟩
theorem de_isi {T : Str} {n : String} {a : Expr} {ta : TDE} {p p2 pos : Pos} (ht : tyTab n) (hg : Gl X "isinstance") (hm : X.mg "isinstance" = none) (hgT : Gl X T) (hmT : X.mg T = none) (hvT : bootBuiltins T = some (.type n)) (ha : DE X a ta)
    (hnT : T ≠ "__name__" := by decide) (hdT : (T == ("__debug__" : Str)) = false := by decide)
    (he : starEach [a, .Name T p2] X.env = (false, eval a X.env) :: starEach [.Name T p2] X.env := by rfl) (he2 : starEach [.Name T p2] X.env = (false, eval (.Name T p2) X.env) :: starEach [] X.env := by rfl) (hpl : (backTo pos (starEach [.Name T p2] X.env)).any (·.1) = false := by rfl) :
    DE X (.Call (.Name "isinstance" p) [a, .Name T p2] [] pos) (dIsi n ta) :=
  PE.imp (pe_callB (call_isi ht) hg hm b_isinstance (pa_cons ha (pa_cons (pe_bltn (v := .ty n) hgT hmT hvT rfl hnT hdT) pa_nil he2) he) (by decide) (by decide) he hpl) fun σ H Q ⟨G, δ, P, R, s, h, k, _⟩ => up.mk s h fun d δ1 h1 v H1 s1 => by
    obtain ⟨A, q⟩ := id s1
    exact ⟨v, _, d, rfl, q.pnd (d, v) (by simp), k _ δ1 h1 _ H1 ((s1.sub (P' := P) fun p hp => List.mem_cons_of_mem _ hp).sc rfl)⟩
theorem ty_int : tyTab "int" := fun K n hn => by
  simp only [List.mem_cons, List.not_mem_nil, or_false] at hn
  rcases hn with rfl | rfl | rfl | rfl | rfl | rfl | rfl <;> with_unfolding_all rfl
theorem ty_bool : tyTab "bool" := fun K n hn => by
  simp only [List.mem_cons, List.not_mem_nil, or_false] at hn
  rcases hn with rfl | rfl | rfl | rfl | rfl | rfl | rfl <;> with_unfolding_all rfl
theorem ty_tuple : tyTab "tuple" := fun K n hn => by
  simp only [List.mem_cons, List.not_mem_nil, or_false] at hn
  rcases hn with rfl | rfl | rfl | rfl | rfl | rfl | rfl <;> with_unfolding_all rfl
end
end DL

namespace DL
open PySem PySem.Spec PyProof.Rows L2
section
variable {K : PySem.W.Frag} {G : Gf} {A A' : Addr → Prop} {δ : List Sl} {P P' : List (D × V)} {σ : L2.St} {H H' : Hp}
theorem Sx.addA {p : Addr} (s : Sx K G A δ P σ H) (hn : H p = none) (hs : Same H H') (hp : H' p ≠ none) : Sx K G (fun b => A b ∨ b = p) δ P σ H' := by
  have x := s.same hs
  have hM : ∀ b, (G.M0 b ∨ (A b ∨ b = p)) → (G.M0 b ∨ A b) ∨ H b = none := fun b h => by
    rcases h with h | h | h
    · exact .inl (.inl h)
    · exact .inl (.inr h)
    · subst h; exact .inr hn
  have up : ∀ d v, Rep K (fun b => G.M0 b ∨ A b) H d v → Rep K (fun b => G.M0 b ∨ (A b ∨ b = p)) H' d v := fun d v r => Rep.kp (Kp.of_same hs) _ _ (Rep.more hM _ _ r)
  have h0 : G.H0 p = none := by
    cases q : G.H0 p with
    | none => rfl
    | some o => exact absurd hn (s.stay p (by rw [q]; exact fun z => nomatch z))
  refine ⟨x.old, x.stay, x.m0, x.pm, fun b h => h.elim (s.new b) fun e => .inl (by rw [e]; exact h0), fun b h => h.elim (x.thr b) fun e => by rw [e]; exact hp, s.len, fun j d' e => ?_, fun j b d' e => ?_, s.inj, fun q hq => up _ _ (s.pnd q hq)⟩
  · obtain ⟨v, q, r⟩ := s.dat j d' e
    exact ⟨v, q, up _ _ r⟩
  · obtain ⟨q, r, o⟩ := s.own j b d' e
    refine ⟨q, .inl r, OwnAt.kp (Kp.of_same hs) ?_ (OwnAt.more hM o)⟩
    cases z : H b with
    | none => exact absurd z (s.thr b r)
    | some o' => exact hs b o' z
/-- fewer are owned: what no slot holds -/
theorem Sx.subA (s : Sx K G A δ P σ H) (hA : ∀ b, A' b → A b) (ho : ∀ (i : Nat) a d, δ[i]? = some (.own a d) → A' a) : Sx K G A' δ P σ H := by
  have hM : ∀ b, (G.M0 b ∨ A' b) → (G.M0 b ∨ A b) ∨ H b = none := fun b h => .inl (h.elim .inl fun z => .inr (hA b z))
  exact ⟨s.old, s.stay, s.m0, s.pm, fun b h => s.new b (hA b h), fun b h => s.thr b (hA b h), s.len, fun i d e => let ⟨v, q, r⟩ := s.dat i d e; ⟨v, q, Rep.more hM _ _ r⟩, fun i a d e => let ⟨q, _, o⟩ := s.own i a d e; ⟨q, ho i a d e, OwnAt.more hM o⟩, s.inj,
    fun p hp => Rep.more hM _ _ (s.pnd p hp)⟩
/-- an owned list that no slot holds is changed -/
theorem Sx.poke {p : Addr} {vs ws : List V} (s : Sx K G A δ P σ H) (hp : A p) (hv : H p = some (.lst vs)) (hno : ∀ (i : Nat) d, δ[i]? ≠ some (.own p d)) : Sx K G A δ P σ (upd H p (.lst ws)) := by
  have hk : ∀ b o, b ≠ p → H b = some o → upd H p (.lst ws) b = some o := fun b o n e => by rw [upd_ne n]; exact e
  have kp : Kp (fun b => G.M0 b ∨ A b) H (upd H p (.lst ws)) := ⟨fun b o e n => hk b o (fun z => n (.inr (by rw [z]; exact hp))) e, fun b xs e => hk b _ (fun z => by rw [z, hv] at e; cases e) e, fun b o u e => hk b _ (fun z => by rw [z, hv] at e; cases e) e⟩
  have stay : ∀ b, H b ≠ none → upd H p (.lst ws) b ≠ none := fun b e => by
    by_cases z : b = p
    · rw [z, upd_same]; exact fun z => nomatch z
    · rw [upd_ne z]; exact e
  have na : ∀ b o, G.H0 b = some o → ¬ G.Pm b → b ≠ p := fun b o e n z => (s.new p hp).elim (fun q => by rw [z] at e; rw [e] at q; cases q) fun q => n (by rw [z]; exact q)
  refine ⟨fun b o e n => hk b o (na b o e n) (s.old b o e n), fun b e => stay b (s.stay b e), s.m0, s.pm, s.new, fun b e => stay b (s.thr b e), s.len, fun i d e => let ⟨v, q, r⟩ := s.dat i d e; ⟨v, q, Rep.kp kp _ _ r⟩, fun i a d e => ?_, s.inj, fun q hq => Rep.kp kp _ _ (s.pnd q hq)⟩
  obtain ⟨q, r, o⟩ := s.own i a d e
  have ne : a ≠ p := fun z => by subst z; exact hno i d e
  exact ⟨q, r, OwnAt.kp kp (by rw [upd_ne ne]) o⟩
end

def capO : Option Sl → Sl
  | some (.dat d) => .dat d
  | _ => .no
def capL (caps : List (Nat × Str)) (δ : En) : En := caps.map fun p => capO δ[p.1]?
def oS : Option D → Sl
  | none => .no
  | some d => .dat d
/-- whatever the block's own names stand for -/
def allT : Nat → (List Sl → Prop) → Prop
  | 0, p => p []
  | n + 1, p => ∀ t : Option D, allT n fun ts => p (oS t :: ts)
/-- the own names have got something, the others are as they were -/
def okT : Nat → En → En → Prop
  | 0, δ, c => δ = c
  | n + 1, .dat _ :: r, c => okT n r c
  | _ + 1, _, _ => False
abbrev TDC := En → (List D → En → Prop) → Prop
def dComp (src : TDC) (nt : Nat) (caps : List (Nat × Str)) (g : TDG) (tc : TDT) (te : TDE) : TDE := fun δ R => src δ fun xs δ1 => xs.length ≤ 1000 ∧ ∃ f : D → Option D,
  (∀ x ∈ xs, allT nt fun ts => g x (ts ++ capL caps δ1) fun δ2 => tc δ2 fun b δ3 => if b = true then te δ3 (wd fun y δ4 => okT nt δ4 (capL caps δ1) ∧ f x = some y) else okT nt δ3 (capL caps δ1) ∧ f x = none) ∧ R (.d (.lst (xs.filterMap f))) δ1
theorem allT_get : ∀ {n : Nat} {p : List Sl → Prop}, allT n p → ∀ ts : List (Option D), ts.length = n → p (ts.map oS)
  | 0, p, h, ts, e => by rw [List.length_eq_zero_iff.mp e]; exact h
  | n + 1, p, h, [], e => by cases e
  | n + 1, p, h, t :: ts, e => allT_get (h t) ts (Nat.succ.inj e)
theorem okT_get : ∀ {n : Nat} {δ c : En}, okT n δ c → ∃ ts : List (Option D), ts.length = n ∧ δ = ts.map oS ++ c
  | 0, δ, c, h => ⟨[], rfl, h⟩
  | n + 1, [], c, h => h.elim
  | n + 1, .dat d :: r, c, h => by
    obtain ⟨ts, e, q⟩ := okT_get (n := n) (δ := r) h
    exact ⟨some d :: ts, by rw [List.length_cons, e], by rw [q]; rfl⟩
  | n + 1, .no :: r, c, h => h.elim
  | n + 1, .own _ _ :: r, c, h => h.elim
section
variable {K : PySem.W.Frag} {G : Gf} {δ : List Sl} {P : List (D × V)} {σ : L2.St}
theorem capL_dat {caps : List (Nat × Str)} {i : Nat} {d : D} (e : (capL caps δ)[i]? = some (.dat d)) : ∃ p, caps[i]? = some p ∧ δ[p.1]? = some (.dat d) := by
  unfold capL at e
  rw [List.getElem?_map] at e
  cases hc : caps[i]? with
  | none => rw [hc] at e; cases e
  | some p =>
    rw [hc] at e
    refine ⟨p, rfl, ?_⟩
    have e := Option.some.inj e
    cases q : δ[p.1]? with
    | none => simp [q, capO] at e
    | some z =>
      cases z with
      | dat d' => simp only [q, capO] at e; cases e; rfl
      | no => simp [q, capO] at e
      | own _ _ => simp [q, capO] at e
theorem capL_own {caps : List (Nat × Str)} {i : Nat} {a : Addr} {d : D} (e : (capL caps δ)[i]? = some (.own a d)) : False := by
  unfold capL at e
  rw [List.getElem?_map] at e
  cases hc : caps[i]? with
  | none => rw [hc] at e; cases e
  | some p =>
    rw [hc] at e
    have e := Option.some.inj e
    cases q : δ[p.1]? with
    | none => simp [q, capO] at e
    | some z => cases z <;> simp [q, capO] at e
/-- the block's frame at its start -/
theorem cap_S {A : Addr → Prop} {nt : Nat} {caps : List (Nat × Str)} {H : Hp} (s : Sx K G A δ P σ H) : Sx K ⟨fun b => G.M0 b ∨ A b, H, fun _ => False⟩ (fun _ => False) ((List.replicate nt none).map oS ++ capL caps δ) [] (capS nt caps σ) H := by
  have hM : ∀ b, ((G.M0 b ∨ A b) ∨ False) → (G.M0 b ∨ A b) ∨ H b = none := fun b h => h.elim .inl fun z => z.elim
  have hr : (List.replicate nt none).map oS = List.replicate nt Sl.no := by rw [List.map_replicate]; rfl
  rw [hr]
  refine ⟨fun b o e _ => e, fun b e => e, s.mem, fun b h => h.elim, fun b h => h.elim, fun b h => h.elim, ?_, fun i d e => ?_, fun i a d e => ?_, fun i j a d e h1 _ => ?_, fun p hp => (nomatch hp)⟩
  · unfold capL capS
    rw [List.length_append, List.length_append, List.length_replicate, List.length_replicate, List.length_map, List.length_map]
  · by_cases hi : i < nt
    · rw [List.getElem?_append_left (by rw [List.length_replicate]; exact hi), List.getElem?_replicate, if_pos hi] at e
      cases e
    · rw [List.getElem?_append_right (by rw [List.length_replicate]; omega), List.length_replicate] at e
      obtain ⟨p, hp, hd⟩ := capL_dat e
      obtain ⟨v, q, r⟩ := s.dat _ _ hd
      refine ⟨v, ?_, Rep.more hM _ _ r⟩
      unfold capS
      rw [List.getElem?_append_right (by rw [List.length_replicate]; omega), List.length_replicate, List.getElem?_map, hp]
      show some ((σ[p.1]?).join) = _
      rw [q]
      rfl
  all_goals
    exfalso
  · by_cases hi : i < nt
    · rw [List.getElem?_append_left (by rw [List.length_replicate]; exact hi), List.getElem?_replicate, if_pos hi] at e
      cases e
    · rw [List.getElem?_append_right (by rw [List.length_replicate]; omega)] at e
      exact capL_own e
  · by_cases hi : i < nt
    · rw [List.getElem?_append_left (by rw [List.length_replicate]; exact hi), List.getElem?_replicate, if_pos hi] at h1
      cases h1
    · rw [List.getElem?_append_right (by rw [List.length_replicate]; omega)] at h1
      exact capL_own h1
theorem oS_own {ts : List (Option D)} {caps : List (Nat × Str)} {i : Nat} {a : Addr} {d : D} (e : (ts.map oS ++ capL caps δ)[i]? = some (.own a d)) : False := by
  by_cases hi : i < ts.length
  · rw [List.getElem?_append_left (by rw [List.length_map]; exact hi), List.getElem?_map] at e
    cases hc : ts[i]? with
    | none => rw [hc] at e; cases e
    | some o =>
      rw [hc] at e
      cases o <;> cases e
  · rw [List.getElem?_append_right (by rw [List.length_map]; omega)] at e
    exact capL_own e
/-- the block's frame behind a turn, over the heap as it stands then -/
theorem re_S {M : Addr → Prop} {A2 : Addr → Prop} {ts : List (Option D)} {caps : List (Nat × Str)} {H H5 H6 : Hp} {P2 : List (D × V)} {σ2 : L2.St} (s : Sx K ⟨M, H, fun _ => False⟩ A2 (ts.map oS ++ capL caps δ) P2 σ2 H5) (k : Kp M H5 H6) (hm : ∀ b, M b → H6 b ≠ none) :
    Sx K ⟨M, H6, fun _ => False⟩ (fun _ => False) (ts.map oS ++ capL caps δ) [] σ2 H6 := by
  have hM : ∀ b, (M b ∨ False) → (M b ∨ A2 b) ∨ H5 b = none := fun b h => .inl (h.elim .inl fun z => z.elim)
  have k' : Kp (fun b => M b ∨ False) H5 H6 := ⟨fun b o e n => k.un b o e fun z => n (.inl z), k.tu, k.fr⟩
  exact ⟨fun b o e _ => e, fun b e => e, hm, fun b h => h.elim, fun b h => h.elim, fun b h => h.elim, s.len, fun i d e => let ⟨v, q, r⟩ := s.dat i d e; ⟨v, q, Rep.kp k' _ _ (Rep.more hM _ _ r)⟩, fun i a d e => (oS_own e).elim,
    fun i j a d e h1 _ => (oS_own h1).elim, fun p hp => (nomatch hp)⟩
theorem filterMap_snoc {xs : List D} {f : D → Option D} {i : Nat} {x : D} (h : xs[i]? = some x) : (xs.take (i + 1)).filterMap f = (xs.take i).filterMap f ++ (match f x with | some y => [y] | none => []) := by
  rw [List.take_add_one, h, List.filterMap_append]
  cases e : f x <;> simp [e]
/-- the heart: what a comprehension gathers -/
theorem comp_core {J : It} {xs : List D} {f : D → Option D} {nt : Nat} {caps : List (Nat × Str)} {g : TDG} {tc : TDT} {te : TDE} {H1 : Hp} {Q : VK} (s : S K G δ P σ H1) (hz : xs.length ≤ 1000)
    (hgo : ∀ A i H, Sx K G A δ P σ H → i < xs.length → J.go i H) (hst : ∀ A H, Sx K G A δ P σ H → J.stop xs.length H)
    (hyl : ∀ A i x H H2, Sx K G A δ P σ H → i < xs.length → J.yld i H x H2 → Same H H2 ∧ ∃ d, xs[i]? = some d ∧ Rep K (fun b => G.M0 b ∨ A b) H2 d x)
    (hf : ∀ x ∈ xs, allT nt fun ts => g x (ts ++ capL caps δ) fun δ2 => tc δ2 fun b δ3 => if b = true then te δ3 (wd fun y δ4 => okT nt δ4 (capL caps δ) ∧ f x = some y) else okT nt δ3 (capL caps δ) ∧ f x = none)
    (k : ∀ v H', S K G δ ((.lst (xs.filterMap f), v) :: P) σ H' → Q v H') (p : Addr) (hp : H1 p = none) :
    ∃ W : Nat → Nat → List V → L2.St → Hp → Prop, (∃ m, W 0 m [] (capS nt caps σ) (upd H1 p (.lst []))) ∧ ∀ i m acc σ' H', W i m acc σ' H' → (J.stop i H' ∧ Q (.ref p) H') ∨ (J.go i H' ∧ ∀ x H2, J.yld i H' x H2 →
      upG K g x σ' H2 fun σ2 H3 => upT K tc σ2 H3 fun b H4 => if b = true then up K te σ2 H4 fun y H5 => H5 p = some (.lst acc) ∧ acc.length < sizeLine ∧ ∃ m', m' < m ∧ W (i + 1) m' (acc ++ [y]) σ2 (upd H5 p (.lst (acc ++ [y]))) else ∃ m', m' < m ∧ W (i + 1) m' acc σ2 H4) := by
  obtain ⟨A0, x0⟩ := s
  have hA0 : ¬ (G.M0 p ∨ A0 p) := fun z => x0.mem p z hp
  have hno : ∀ (i : Nat) d, δ[i]? ≠ some (.own p d) := fun i d e => hA0 (.inr (x0.own i p d e).2.1)
  have x1 := x0.addA hp (same_new hp (.lst [])) (by rw [upd_same]; exact fun z => nomatch z)
  refine ⟨fun i m acc σ' H' => i ≤ xs.length ∧ m = xs.length - i ∧ acc.length ≤ i ∧ H' p = some (.lst acc) ∧ Sx K G (fun b => A0 b ∨ b = p) δ P σ H' ∧ Reps K (fun b => G.M0 b ∨ (A0 b ∨ b = p)) H' ((xs.take i).filterMap f) acc ∧
    ∃ ts : List (Option D), ts.length = nt ∧ Sx K ⟨fun b => G.M0 b ∨ (A0 b ∨ b = p), H', fun _ => False⟩ (fun _ => False) (ts.map oS ++ capL caps δ) [] σ' H', ⟨xs.length, Nat.zero_le _, rfl, Nat.le_refl _, upd_same, x1, by rw [List.take_zero]; exact Reps.nil, List.replicate nt none, List.length_replicate, cap_S x1⟩, ?_⟩
  rintro i m acc σ' H' ⟨hi, rfl, hal, hac, x, rs, ts, hts, sx⟩
  by_cases hlt : i < xs.length
  · refine .inr ⟨hgo _ i H' x hlt, fun v H2 hy => ?_⟩
    obtain ⟨sm0, d, hd, rd⟩ := hyl _ i v H' H2 x hlt hy
    replace sx := re_S sx (Kp.of_same sm0) (x.same sm0).mem
    replace x := x.same sm0
    replace hac := sm0 _ _ hac
    replace rs := Reps.kp (Kp.of_same sm0) _ _ rs
    clear sm0 hy
    have hmem : d ∈ xs := List.mem_of_getElem? hd
    refine ⟨_, ts.map oS ++ capL caps δ, [], d, _, ⟨_, sx.push (Rep.more (fun b z => .inl (z.elim id fun q => q.elim)) _ _ rd)⟩, allT_get (hf d hmem) ts hts, fun δ2 h2 σ2 H3 s2 => ?_⟩
    refine ⟨_, _, [], _, s2, h2, fun b δ3 h3 H4 s3 => ?_⟩
    have fmS := filterMap_snoc (f := f) hd
    have hM1 : ∀ b, (G.M0 b ∨ (A0 b ∨ b = p)) → H2 b ≠ none := x.mem
    cases b with
    | false =>
      obtain ⟨ok3, hn⟩ := h3
      rw [hn, List.append_nil] at fmS
      obtain ⟨ts3, hts3, e3⟩ := okT_get ok3
      subst e3
      obtain ⟨A3, y3⟩ := s3
      have sm : Same H2 H4 := fun b o e => y3.old b o e id
      have x4 := x.same sm
      exact ⟨xs.length - (i + 1), by omega, hlt, rfl, by omega, sm _ _ hac, x4, by rw [fmS]; exact Reps.kp (Kp.of_same sm) _ _ rs, ts3, hts3, re_S y3 Kp.refl x4.mem⟩
    | true =>
      refine up.mk (P := []) s3 h3 fun y δ4 h4 yv H5 s4 => ?_
      obtain ⟨ok4, hy⟩ := h4
      rw [hy] at fmS
      obtain ⟨ts4, hts4, e4⟩ := okT_get ok4
      subst e4
      obtain ⟨A4, y4⟩ := s4
      have sm : Same H2 H5 := fun b o e => y4.old b o e id
      have x5 := x.same sm
      have hac5 := sm _ _ hac
      have ry : Rep K (fun b => G.M0 b ∨ (A0 b ∨ b = p)) H5 y yv := Rep.more (fun b z => .inl (.inl z)) _ _ (y4.pnd (y, yv) (by simp))
      have x6 := x5.poke (p := p) (ws := acc ++ [yv]) (.inr rfl) hac5 hno
      have kp : Kp (fun b => G.M0 b ∨ (A0 b ∨ b = p)) H5 (upd H5 p (.lst (acc ++ [yv]))) := by
        have hk : ∀ b o, b ≠ p → H5 b = some o → upd H5 p (.lst (acc ++ [yv])) b = some o := fun b o n e => by rw [upd_ne n]; exact e
        exact ⟨fun b o e n => hk b o (fun z => n (.inr (.inr z))) e, fun b xs e => hk b _ (fun z => by rw [z, hac5] at e; cases e) e, fun b o u e => hk b _ (fun z => by rw [z, hac5] at e; cases e) e⟩
      refine ⟨hac5, Nat.lt_of_le_of_lt (Nat.le_trans hal hi) (small1000 hz), xs.length - (i + 1), by omega, hlt, rfl, by rw [List.length_append, List.length_singleton]; omega, upd_same, x6, ?_, ts4, hts4, re_S y4 kp x6.mem⟩
      rw [fmS]
      exact Reps.kp kp _ _ (Reps.append _ _ _ _ (Reps.kp (Kp.of_same sm) _ _ rs) (Reps.one ry))
  · have e : i = xs.length := by omega
    subst e
    refine .inl ⟨hst _ H' x, k (.ref p) H' ⟨A0, (x.subA (fun b z => .inl z) fun i a d e => (x0.own i a d e).2.1).push ?_⟩⟩
    rw [List.take_length] at rs
    unfold Rep
    exact ⟨p, acc, rfl, hA0, hac, Reps.more (fun b z => .inl (z.elim .inl fun q => .inr (.inl q))) _ _ rs⟩
end
/-! ### the sources of a comprehension, and the rule -/
def dcLst (t : TDE) : TDC := fun δ R => t δ (wd fun d δ1 => ∃ xs, d = .lst xs ∧ R xs δ1)
def dcTup (t : TDE) : TDC := fun δ R => t δ (wd fun d δ1 => ∃ xs, d = .tup xs ∧ R xs δ1)
def dcRng (t : TDA) : TDC := fun δ R => t δ fun ds δ1 => ∃ j : Int, ds = [.int j] ∧ -(2 ^ 62) ≤ j ∧ j < 2 ^ 62 ∧ R ((List.range j.toNat).map fun (i : Nat) => D.int (i : Int)) δ1
/-- a source: whatever is done with its iterator, from the data -/
def CI (X : Cx) (tg it : Expr) (src : TDC) : Prop := ∃ wi, PI X tg it wi ∧ ∀ (G : Gf) (δ : En) (P : List (D × V)) (σ : L2.St) (H : Hp) (R : List D → En → Prop) (Q : It → Hp → Prop), S X.K G δ P σ H → src δ R →
  (∀ xs δ1, R xs δ1 → ∀ (J : It) (P1 : List (D × V)) (H1 : Hp), (∀ q ∈ P, q ∈ P1) → S X.K G δ1 P1 σ H1 → (∀ A δ σ i H, Sx X.K G A δ P1 σ H → i < xs.length → J.go i H) → (∀ A δ σ H, Sx X.K G A δ P1 σ H → J.stop xs.length H) →
    (∀ A δ σ i x H H2, Sx X.K G A δ P1 σ H → i < xs.length → J.yld i H x H2 → Same H H2 ∧ ∃ d, xs[i]? = some d ∧ Rep X.K (fun b => G.M0 b ∨ A b) H2 d x) → Q J H1) → wi σ H Q
section
variable {X : Cx} {tg e : Expr} {te : TDE} {ta : TDA}
theorem ci_lst (h : DE X e te) : CI X tg e (dcLst te) := ⟨_, pi_list h, fun G δ P σ H R Q s hs k => up.mk s hs fun d δ1 h1 v H1 s1 => by
  obtain ⟨xs, e, r⟩ := h1
  subst e
  have hat : ∀ A δ σ H, Sx X.K G A δ ((.lst xs, v) :: P) σ H → ∃ a vs, v = .ref a ∧ H a = some (.lst vs) ∧ Reps X.K (fun b => G.M0 b ∨ A b) H xs vs := fun A δ σ H x => by
    have q := x.pnd (.lst xs, v) (by simp)
    unfold Rep at q
    obtain ⟨a, vs, e, _, l, r⟩ := q
    exact ⟨a, vs, e, l, r⟩
  obtain ⟨A1, x1⟩ := id s1
  obtain ⟨a, vs0, rfl, l0, _⟩ := hat _ _ _ _ x1
  refine ⟨a, rfl, ⟨vs0, SqL.of l0⟩, k xs δ1 r _ _ H1 (fun q hq => by simp [hq]) s1 (fun A δ σ i H x hi => ?_) (fun A δ σ H x => ?_) fun A δ σ i y H H2 x hi hy => ?_⟩
  · obtain ⟨b, vs, e, l, r⟩ := hat _ _ _ _ x
    cases e
    obtain ⟨w', hw, _⟩ := Reps.get _ _ r i xs[i] (by simp [hi])
    exact ⟨vs, w', SqL.of l, hw⟩
  · obtain ⟨b, vs, e, l, r⟩ := hat _ _ _ _ x
    cases e
    exact ⟨vs, SqL.of l, by rw [Reps.length _ _ r]; exact Nat.le_refl _⟩
  · obtain ⟨b, vs, e, l, r⟩ := hat _ _ _ _ x
    cases e
    obtain ⟨e, hy⟩ := hy
    obtain ⟨w', hw, rw'⟩ := Reps.get _ _ r i xs[i] (by simp [hi])
    have z := hy vs (SqL.of l)
    rw [hw] at z
    cases z
    subst e
    exact ⟨Same.refl _, xs[i], by simp [hi], rw'⟩⟩
theorem ci_tup (h : DE X e te) : CI X tg e (dcTup te) := ⟨_, pi_tup h, fun G δ P σ H R Q s hs k => up.mk s hs fun d δ1 h1 v H1 s1 => by
  obtain ⟨xs, e, r⟩ := h1
  subst e
  have hat : ∀ A δ σ H, Sx X.K G A δ ((.tup xs, v) :: P) σ H → ∃ a vs, v = .ref a ∧ SqT X.K H a vs ∧ Reps X.K (fun b => G.M0 b ∨ A b) H xs vs := fun A δ σ H x => by
    have q := x.pnd (.tup xs, v) (by simp)
    unfold Rep at q
    exact q
  obtain ⟨A1, x1⟩ := id s1
  obtain ⟨a, vs0, rfl, l0, _⟩ := hat _ _ _ _ x1
  refine ⟨a, rfl, ⟨vs0, l0⟩, k xs δ1 r _ _ H1 (fun q hq => by simp [hq]) s1 (fun A δ σ i H x hi => ?_) (fun A δ σ H x => ?_) fun A δ σ i y H H2 x hi hy => ?_⟩
  · obtain ⟨b, vs, e, l, r⟩ := hat _ _ _ _ x
    cases e
    obtain ⟨w', hw, _⟩ := Reps.get _ _ r i xs[i] (by simp [hi])
    exact ⟨vs, w', l, hw⟩
  · obtain ⟨b, vs, e, l, r⟩ := hat _ _ _ _ x
    cases e
    exact ⟨vs, l, by rw [Reps.length _ _ r]; exact Nat.le_refl _⟩
  · obtain ⟨b, vs, e, l, r⟩ := hat _ _ _ _ x
    cases e
    obtain ⟨e, hy⟩ := hy
    obtain ⟨w', hw, rw'⟩ := Reps.get _ _ r i xs[i] (by simp [hi])
    have z := hy vs l
    rw [hw] at z
    cases z
    subst e
    exact ⟨Same.refl _, xs[i], by simp [hi], rw'⟩⟩
theorem ci_range {a : Expr} {p pos : Pos} (hg : Gl X "range") (hm : X.mg "range" = none) (ha : DA X [a] ta) (hs : starEach [a] X.env = [(false, eval a X.env)] := by rfl) : CI X tg (.Call (.Name "range" p) [a] [] pos) (dcRng ta) :=
  ⟨_, pi_range1 hg hm ha hs, fun G δ P σ H R Q s hs k => ⟨G, δ, P, _, s, hs, fun ds δ1 h1 vs H1 hl s1 => by
    obtain ⟨j, e, h1, h2, r⟩ := h1
    subst e
    match vs, hl with
    | [v], _ =>
      have q : v = .int j := by
        obtain ⟨A, x⟩ := s1
        exact rep_int (x.pnd (.int j, v) (by simp))
      subst q
      refine ⟨j, rfl, h1, h2, k _ δ1 r _ P H1 (fun q hq => hq) (s1.sub fun p hp => by simp [hp]) (fun A δ σ i H x hi => ?_) (fun A δ σ H x => ?_) fun A δ σ i y H H2 x hi hy => ?_⟩
      · rw [List.length_map, List.length_range] at hi
        exact hi
      · rw [List.length_map, List.length_range]
        exact Nat.le_refl _
      · rw [List.length_map, List.length_range] at hi
        obtain ⟨e, hy⟩ := hy
        subst e
        refine ⟨Same.refl _, .int i, by rw [List.getElem?_map, List.getElem?_range hi]; rfl, ?_⟩
        unfold Rep
        rw [hy, Int.zero_add]⟩⟩
/-- the tests -/
def DF (X : Cx) (ifs : List Expr) (t : TDT) : Prop := PF X ifs (upT X.K t)
theorem cf_nil : DF X [] (fun δ R => R true δ) := fun pins s σ H Q I ⟨G, δ, P, R, s', h, k⟩ => pf_nil pins s σ H Q I (k true δ h H s')
theorem cf_one {c : Expr} {t : TDT} (h : DT X c t) : DF X [c] t := pf_one h
theorem de_comp {elt tgt iter : Expr} {ifs : List Expr} {scope : Scope} {pos : Pos} {src : TDC} {cl : List (Str × Addr)} (tn : List Str) (caps : List (Nat × Str)) {g : TDG} {tc : TDT}
    (hcalm : X.calm = true) (hclos : closureFor scope X.env = pure cl) (hcell : ∀ y ∈ scope.names, y.2 ≠ .cell) (hkind : scope.kind = .function) (hnames : ∀ y ∈ scope.names, y.2 = .local → scope.names.lookup y.1 = some .local)
    (hcl : ∀ x c, cl.lookup x = some c → X.env.cells.lookup x = some c) (hhas : ∀ x, ((relabel scope X.env).names.lookup x = some .cell ∨ (relabel scope X.env).names.lookup x = some .free) → ∃ c, cl.lookup x = some c)
    (hcap : ∀ p ∈ caps, X.N[p.1]? = some p.2 ∧ X.env.scope.names.lookup p.2 = some .cell ∧ ((relabel scope X.env).names.lookup p.2 = some .cell ∨ (relabel scope X.env).names.lookup p.2 = some .free))
    (hi : CI X.nox tgt iter src)
    (hb : ∀ s2 H2 C fp pn, DG (compX X (tn ++ caps.map (·.2)) scope cl s2 H2 C fp pn) tgt g ∧ DF (compX X (tn ++ caps.map (·.2)) scope cl s2 H2 C fp pn) ifs tc ∧ DE (compX X (tn ++ caps.map (·.2)) scope cl s2 H2 C fp pn) elt te)
    (hs : ∀ x, foldedSetIterable iter X.env x = pure x := by intro _; rfl) : DE X.nox (.ListComp elt [⟨tgt, iter, ifs, 0⟩] scope pos) (dComp src tn.length caps g tc te) := by
  obtain ⟨wi, hi, hw⟩ := hi
  refine PE.imp (pe_comp (g := upG X.K g) (tc := upT X.K tc) (te := up X.K te) tn caps hcalm hclos hcell hkind hnames hcl hhas hcap hi hb hs) fun σ H Q ⟨G, δ, P, R, s, h, k, _⟩ => ?_
  refine hw G δ P σ H _ _ s h fun xs δ1 ⟨hz, f, hf, r⟩ J P1 H1 hP s1 hgo hst hyl p hp => ?_
  exact comp_core s1 hz (fun A i H x hi => hgo A _ _ i H x hi) (fun A H x => hst A _ _ H x) (fun A i x H H2 s hi hy => hyl A _ _ i x H H2 s hi hy) hf (fun v H' s' => k _ δ1 r v H' (s'.sub fun q hq => by
    rcases List.mem_cons.mp hq with rfl | hq
    · simp
    · exact List.mem_cons_of_mem _ (hP q hq))) p hp
end
/-! ### the closure of a comprehension's block -/
def allCl (cells : List (Str × Addr)) : List (Str × Addr) → Prop
  | [] => True
  | y :: r => cells.lookup y.1 = some y.2 ∧ allCl cells r
theorem cl_sub {cells : List (Str × Addr)} : ∀ {cl : List (Str × Addr)}, allCl cells cl → ∀ x c, cl.lookup x = some c → cells.lookup x = some c
  | [], _, x, c, h => by cases h
  | y :: r, ⟨h1, h2⟩, x, c, h => by
    rw [List.lookup_cons] at h
    cases e : x == y.1 with
    | true =>
      rw [e] at h
      have e := eq_of_beq e
      cases h
      rw [e]
      exact h1
    | false =>
      rw [e] at h
      exact cl_sub h2 x c h
theorem cl_has {names : List (Str × NameKind)} {cl : List (Str × Addr)} (h : (names.all fun y => !(y.2 == .cell || y.2 == .free) || (cl.lookup y.1).isSome) = true) : ∀ x, (names.lookup x = some .cell ∨ names.lookup x = some .free) → ∃ c, cl.lookup x = some c := fun x hx => by
  have key : ∀ (ns : List (Str × NameKind)) k, ns.lookup x = some k → (x, k) ∈ ns := fun ns => by
    induction ns with
    | nil => intro k h; cases h
    | cons y r ih =>
      intro k h
      rw [List.lookup_cons] at h
      cases e : x == y.1 with
      | true =>
        rw [e] at h
        have e := eq_of_beq e
        cases h
        rw [e]
        exact List.mem_cons_self ..
      | false =>
        rw [e] at h
        exact List.mem_cons_of_mem _ (ih k h)
  have go : ∀ k, (k = .cell ∨ k = .free) → names.lookup x = some k → ∃ c, cl.lookup x = some c := fun k hk e => by
    have m := key _ _ e
    have q := List.all_eq_true.mp h _ m
    have hb : ((k == NameKind.cell || k == .free)) = true := by rcases hk with rfl | rfl <;> rfl
    simp only [hb, Bool.not_true, Bool.false_or] at q
    exact Option.isSome_iff_exists.mp q
  rcases hx with e | e
  · exact go _ (.inl rfl) e
  · exact go _ (.inr rfl) e
def allCap (p : Nat × Str → Prop) : List (Nat × Str) → Prop
  | [] => True
  | y :: r => p y ∧ allCap p r
theorem cap_all {p : Nat × Str → Prop} : ∀ {l : List (Nat × Str)}, allCap p l → ∀ y ∈ l, p y
  | [], _, y, h => by cases h
  | z :: r, ⟨h1, h2⟩, y, h => by
    rcases List.mem_cons.mp h with rfl | h
    · exact h1
    · exact cap_all h2 y h
end DL

namespace DL
open PySem PySem.Spec PyProof.Rows L2

/-! ### a def that hands back a new thing, and one that changes what it is handed first -/
def spN (K : PySem.W.Frag) (f : List D → (D → Prop) → Prop) : Sp := fun vs H Q _ => ∃ (M : Addr → Prop) (ds : List D) (R : D → Prop), (∀ b, M b → H b ≠ none) ∧ Reps K M H ds vs ∧ f ds R ∧
  ∀ d, R d → ∀ a H', Same H H' → H a = none → OwnAt K (fun b => M b ∨ b = a) H' a d → Q (.ref a) H'
abbrev FO := D → List D → (D → D → Prop) → Prop
theorem spN_spD {K : PySem.W.Frag} {f : List D → (D → Prop) → Prop} {vs : List V} {H : Hp} {Q : VK} {E : XK} (h : spD K f vs H Q E) : spN K f vs H Q E := by
  obtain ⟨M, ds, R, m, rs, hf, k⟩ := h
  exact ⟨M, ds, R, m, rs, hf, fun d r a H' sm fr ow => k d r (.ref a) H' sm (ow.rep (fun z => m a z fr) fun b z => .inl z)⟩
section
variable {P : Program} {w : World} {K : PySem.W.Frag} {mg : Str → Option Value} {base : Heap}
theorem Cal.imp {k : Nat} {x : Str} {ps : List Str} {sp sp' : Sp} (C : Cal P w K mg base k x ps sp) (h : ∀ vs H Q E, sp' vs H Q E → sp vs H Q E) : Cal P w K mg base k x ps sp' := by
  obtain ⟨a, fd, F, b, kp, m⟩ := C.ex
  exact ⟨a, fd, F.imp h, b, kp, m⟩
theorem Cal.pure {k : Nat} {x : Str} {ps : List Str} {f : List D → (D → Prop) → Prop} (C : Cal P w K mg base k x ps (spN K f)) : Cal P w K mg base k x ps (spD K f) := C.imp fun _ _ _ _ h => spN_spD h
theorem ow_down {M A' : Addr → Prop} {a : Addr} {d : D} {H' : Hp} (ha : A' a) (o : OwnAt K (fun b => M b ∨ A' b) H' a d) : OwnAt K (fun b => M b ∨ b = a) H' a d := OwnAt.more (fun b z => .inl (z.elim .inl fun e => .inr (by rw [e]; exact ha))) o
end

/-! ### statements and expressions over own things -/
def dSetN (i : Nat) (f : List D → (D → Prop) → Prop) (t : TDA) : TDS := fun R δ => t δ fun ds δ1 => f ds fun d => ∀ a, R.nx (δ1.set i (.own a d))
def dNewL (i : Nat) (t : TDA) : TDS := fun R δ => t δ fun ds δ1 => ds.length ≤ 1000 ∧ ∀ a, R.nx (δ1.set i (.own a (.lst ds)))
def dNewD (i : Nat) : TDS := fun R δ => ∀ a, R.nx (δ.set i (.own a (.dct [] [])))
def dRetO (i : Nat) : TDS := fun R δ => ∃ a d, δ[i]? = some (.own a d) ∧ R.ro d
def dRetL (t : TDA) : TDS := fun R δ => t δ fun ds _ => ds.length ≤ 1000 ∧ R.ro (.lst ds)
def dCallO (i : Nat) (f : FO) (t : TDA) : TDE := fun δ R => ∃ a d, δ[i]? = some (.own a d) ∧ t δ fun ds δ1 => ∃ d0, δ1[i]? = some (.own a d0) ∧ f d0 ds fun r d1 => R (.d r) (δ1.set i (.own a d1))
def dLenO (i : Nat) : TDE := fun δ R => ∃ a ds, δ[i]? = some (.own a (.lst ds)) ∧ R (.d (.int ds.length)) δ
def dTupleO (i : Nat) : TDE := fun δ R => ∃ a ds, δ[i]? = some (.own a (.lst ds)) ∧ R (.d (.tup ds)) δ
def dFreeze (i : Nat) (t : TDS) : TDS := fun R δ => ∃ a d, δ[i]? = some (.own a d) ∧ t R (δ.set i (.dat d))

section
variable {X : Cx} {pos : Pos} {a b e : Expr} {es : List Expr} {ta tb : TDE} {t : TDA} {f : List D → (D → Prop) → Prop}
theorem S.ret {K : PySem.W.Frag} {G : Gf} {δ : En} {P : List (D × V)} {σ : L2.St} {H : Hp} {i : Nat} {a : Addr} {d : D} (s : S K G δ P σ H) (e : δ[i]? = some (.own a d)) : OwnRet K G H a d := by
  obtain ⟨A, x⟩ := s
  obtain ⟨_, aa, oo⟩ := x.own i a d e
  exact ⟨x.old, x.new a aa, fun z => (x.new a aa).elim (fun q => x.m0 a z q) fun q => (x.pm a q).2 z, ow_down aa oo⟩
theorem ds_newL (i : Nat) {x : Str} {p pos' : Pos} (hN : X.N.Nodup) (h : DA X es t) (hi : X.N[i]? = some x := by rfl) (hx : Loc X.env.scope x := by first | exact Or.inl rfl | exact Or.inr rfl) (hs : swapsWith (.List es p) (some (.Name x pos')) pos.line X.env = pure false := by rfl)
    (hf : X.fn x = true ∨ X.env.scope.names.lookup x = some .local := by first | exact .inl rfl | exact .inr rfl | assumption) : DS X (.Assign [.Name x pos'] (.List es p) pos) (dNewL i t) :=
  PS.imp (ps_set hN hi hx (pe_lst h) hs hf) fun E σ H ⟨G, δ, P, R, s, h, k, _⟩ => ⟨G, δ, P, _, s, h, fun ds δ1 ⟨hz, r⟩ vs H1 hl ⟨A, x⟩ => ⟨by rw [← hl]; exact small hz, fun p hp => by
    have rs := x.reps ds vs hl (fun q hq => List.mem_append_left _ hq)
    have sm := same_new hp (.lst vs)
    refine k _ (r p) _ _ ⟨_, x.claim (P' := P) hp sm ⟨vs, upd_same, Reps.kp (Kp.of_same sm) _ _ (Reps.more (fun b z => ?_) _ _ rs)⟩ fun q hq => List.mem_append_right _ hq⟩
    rcases z with z | z
    · exact .inl z
    · exact .inr (by rw [z]; exact hp)⟩⟩
theorem ds_newD (i : Nat) {x : Str} {p pos' : Pos} (hN : X.N.Nodup) (hi : X.N[i]? = some x := by rfl) (hx : Loc X.env.scope x := by first | exact Or.inl rfl | exact Or.inr rfl) (hs : swapsWith (.Dict [] [] p) (some (.Name x pos')) pos.line X.env = pure false := by rfl)
    (hf : X.fn x = true ∨ X.env.scope.names.lookup x = some .local := by first | exact .inl rfl | exact .inr rfl | assumption) : DS X (.Assign [.Name x pos'] (.Dict [] [] p) pos) (dNewD i) :=
  PS.imp (ps_set hN hi hx pe_dnewK hs hf) fun E σ H ⟨G, δ, P, R, ⟨A, x⟩, h, k, _⟩ => fun p hp => by
    have sm := same_new hp (.dK [])
    exact k _ (h p) _ _ ⟨_, x.claim (P' := P) hp sm ⟨[], by rw [upd_same]; rfl, rfl, Reps.nil⟩ fun q hq => hq⟩
theorem own_lst {K : PySem.W.Frag} {G : Gf} {A : Addr → Prop} {δ : En} {P : List (D × V)} {σ : L2.St} {H : Hp} {i : Nat} {a : Addr} {ds : List D} (x : Sx K G A δ P σ H) (hi : δ[i]? = some (.own a (.lst ds))) : σ[i]? = some (some (.ref a)) ∧ A a ∧ ∃ vs, H a = some (.lst vs) ∧ Reps K (fun b => G.M0 b ∨ A b) H ds vs := by
  obtain ⟨h1, h2, vs, h3, h4⟩ := x.own i a _ hi
  exact ⟨h1, h2, vs, h3, h4⟩
theorem de_tupleO (i : Nat) {y : Str} {p p2 pos : Pos} (hg : Gl X "tuple") (hm : X.mg "tuple" = none) (hv' : bootBuiltins "tuple" = some (.type "tuple")) (hN : X.N[i]? = some y := by rfl) (hv : Vis X.env.scope y := by first | exact Or.inl rfl | exact Or.inr (Or.inl rfl) | exact Or.inr (Or.inr rfl))
    (hd : (y == ("__debug__" : Str)) = false := by decide) (hcd : (y == ("__classdict__" : Str)) = false := by decide) (he : starEach [.Name y p2] X.env = (false, eval (.Name y p2) X.env) :: starEach [] X.env := by rfl) (hpl : (backTo pos (starEach [] X.env)).any (·.1) = false := by rfl) :
    DE X (.Call (.Name "tuple" p) [.Name y p2] [] pos) (dTupleO i) :=
  PE.imp (pe_callTy call_tuple_of hg hm hv' (pa_cons (pe_var hN hv hd hcd) pa_nil he) (by decide) (by decide) he hpl) fun σ H Q ⟨G, δ, P, R, s, ⟨a, ds, e, h⟩, k, _⟩ => by
    obtain ⟨A, x⟩ := id s
    obtain ⟨h1, aa, vs, hvs, rs⟩ := own_lst x e
    refine ⟨.ref a, h1, a, vs, rfl, .inl ⟨SqL.of hvs, fun l hl => k _ δ h _ _ ⟨A, (x.same (same_new hl _)).push ?_⟩⟩⟩
    unfold Rep
    exact ⟨l, vs, rfl, SqT.of upd_same, Reps.kp (Kp.of_same (same_new hl _)) _ _ rs⟩
theorem ds_appendO (i : Nat) {y : Str} {p apos cpos : Pos} (he : DE X e ta) (hN : X.N[i]? = some y := by rfl) (hv : Vis X.env.scope y := by first | exact Or.inl rfl | exact Or.inr (Or.inl rfl) | exact Or.inr (Or.inr rfl))
    (hd : (y == ("__debug__" : Str)) = false := by decide) (hcd : (y == ("__classdict__" : Str)) = false := by decide)
    (hbase : attributeBase (.Name y p) "append" X.env (eval (.Name y p) X.env) = eval (.Name y p) X.env := by rfl)
    (hfew : ((backTo cpos (starEach [e] X.env)).all (fun x => !x.1) && (backToKw cpos (keywordEach [] X.env)).all (fun x => x.1.isSome) && decide ([e].length + ([] : List Keyword).length + (if ([] : List Keyword).isEmpty then 0 else 1) < 30)) = true := by rfl)
    (hline : (apos.endLine == cpos.line) = true := by rfl) (hs : starEach [e] X.env = (false, eval e X.env) :: starEach [] X.env := by rfl) (hplain : (backTo cpos (starEach [] X.env)).any (·.1) = false := by rfl)
    (hsw : swapsWith (.Call (.Attribute (.Name y p) "append" apos) [e] [] cpos) none pos.line X.env = pure false := by rfl) :
    DS X (.Expr (.Call (.Attribute (.Name y p) "append" apos) [e] [] cpos) pos) (fun R δ => ∃ a ds, δ[i]? = some (.own a (.lst ds)) ∧ ta δ (wd fun x δ1 => ∃ ds, δ1[i]? = some (.own a (.lst ds)) ∧ ds.length < 1000 ∧ R.nx (δ1.set i (.own a (.lst (ds ++ [x])))))) :=
  PS.imp (ps_expr (pe_bm PySem.F.plainAttrs_list PySem.F.slot_list_append PySem.F.type_list_append mt_append (pe_var hN hv hd hcd) (pa_cons he pa_nil hs) hbase hfew hline hs hplain) hsw) fun E σ H ⟨G, δ, P, R, s, ⟨a, ds0, hi0, h⟩, k, _⟩ => by
    obtain ⟨A0, x0⟩ := id s
    obtain ⟨h0, _, vs0, hvs0, _⟩ := own_lst x0 hi0
    refine ⟨.ref a, h0, .inl ⟨rfl, vs0, SqL.of hvs0⟩, up.mk s h fun x δ1 ⟨ds, hi, hz, r⟩ v H1 ⟨A, q⟩ => ?_⟩
    obtain ⟨_, aa, vs, hvs, rs⟩ := own_lst q hi
    refine ⟨a, vs, v, rfl, rfl, hvs, by rw [← Reps.length _ _ rs]; exact small1000 (Nat.le_of_lt hz), k _ r _ _ ⟨A, (q.change (d' := .lst (ds ++ [x])) hi (fun b o n e => by rw [upd_ne n]; exact e) ⟨vs ++ [v], upd_same, ?_⟩).sub (P' := P) fun q hq => List.mem_cons_of_mem _ hq⟩⟩
    have kp : Kp (fun b => G.M0 b ∨ A b) H1 (upd H1 a (.lst (vs ++ [v]))) := by
      have hk : ∀ b o, b ≠ a → H1 b = some o → upd H1 a (.lst (vs ++ [v])) b = some o := fun b o n e => by rw [upd_ne n]; exact e
      exact ⟨fun b o e n => hk b o (fun z => n (.inr (by rw [z]; exact aa))) e, fun b xs e => hk b _ (fun z => by rw [z, hvs] at e; cases e) e, fun b o u e => hk b _ (fun z => by rw [z, hvs] at e; cases e) e⟩
    exact Reps.kp kp _ _ (Reps.append _ _ _ _ rs (Reps.one (q.pnd (x, v) (by simp))))
theorem dss_freeze (i : Nat) {st : List Stmt} {u : TDS} (h : DSs X st u) : DSs X st (dFreeze i u) :=
  PSs.imp h fun E σ H ⟨G, δ, P, R, ⟨A, x⟩, ⟨a, d, e, h⟩, k⟩ => ⟨G, _, P, R, ⟨_, x.freeze e fun z => (x.new a (x.own i a d e).2.1).elim (fun q => x.m0 a z q) fun q => (x.pm a q).2 z⟩, h, k⟩
end
end DL

namespace DL
open PySem PySem.Spec PyProof.Rows L2
/-! ### dicts with texts as keys -/
def dAt {α : Type} : List Str → List α → Str → Option α
  | k :: ks, d :: ds, x => if k = x then some d else dAt ks ds x
  | _, _, _ => none
def vRep {α : Type} : List Str → List α → Str → α → List α
  | k :: ks, d :: ds, x, y => (if k = x then y else d) :: vRep ks ds x y
  | _, ds, _, _ => ds
def kPut (ks : List Str) (x : Str) : List Str := if x ∈ ks then ks else ks ++ [x]
def vPut {α : Type} (ks : List Str) (ds : List α) (x : Str) (y : α) : List α := if x ∈ ks then vRep ks ds x y else ds ++ [y]
theorem vRep_len {α : Type} : ∀ (ks : List Str) (ds : List α) (x : Str) (y : α), (vRep ks ds x y).length = ds.length
  | [], ds, _, _ => by cases ds <;> rfl
  | k :: ks, [], _, _ => rfl
  | k :: ks, d :: ds, x, y => by unfold vRep; rw [List.length_cons, List.length_cons, vRep_len ks ds x y]
theorem put_len {α : Type} {ks : List Str} {ds : List α} {x : Str} {y : α} (h : ks.length = ds.length) : (kPut ks x).length = (vPut ks ds x y).length := by
  unfold kPut vPut
  by_cases e : x ∈ ks
  · rw [if_pos e, if_pos e, vRep_len]; exact h
  · rw [if_neg e, if_neg e, List.length_append, List.length_append, h]; rfl
theorem any_keys {ks : List Str} {vs : List V} (x : Str) (h : ks.length = vs.length) : ((kvsOf ks vs).any fun kv => decide (kv.1 = Sum.inr x)) = decide (x ∈ ks) := by
  induction ks generalizing vs with
  | nil => rfl
  | cons k ks ih =>
    cases vs with
    | nil => cases h
    | cons v vs =>
      show ((Sum.inr k, v) :: kvsOf ks vs).any _ = _
      rw [List.any_cons, ih (Nat.succ.inj h)]
      by_cases e : k = x
      · subst e; simp
      · have e2 : ¬ x = k := fun z => e z.symm
        simp [e, e2]
theorem map_keys {ks : List Str} {vs : List V} (x : Str) (y : V) : (kvsOf ks vs).map (fun kv => if kv.1 = Sum.inr x then (kv.1, y) else kv) = kvsOf ks (vRep ks vs x y) := by
  induction ks generalizing vs with
  | nil => rfl
  | cons k ks ih =>
    cases vs with
    | nil => rfl
    | cons v vs =>
      show ((Sum.inr k, v) :: kvsOf ks vs).map _ = (Sum.inr k, if k = x then y else v) :: kvsOf ks (vRep ks vs x y)
      rw [List.map_cons, ih]
      by_cases e : k = x
      · subst e; simp
      · have : ¬ (Sum.inr k : Key) = Sum.inr x := fun z => e (Sum.inr.inj z)
        simp [e]
theorem kvs_put {ks : List Str} {vs : List V} (x : Str) (y : V) (h : ks.length = vs.length) : putK (kvsOf ks vs) (Sum.inr x) y = kvsOf (kPut ks x) (vPut ks vs x y) := by
  unfold putK
  rw [any_keys x h]
  unfold kPut vPut
  by_cases e : x ∈ ks
  · rw [decide_eq_true e, if_pos rfl, if_pos e, if_pos e, map_keys]
  · rw [decide_eq_false e, if_neg Bool.false_ne_true, if_neg e, if_neg e]
    unfold kvsOf
    rw [List.map_append, List.zip_append (by rw [List.length_map]; exact h)]
    rfl
theorem val_keys {ks : List Str} {vs : List V} (x : Str) : valV (kvsOf ks vs) (Sum.inr x) = dAt ks vs x := by
  induction ks generalizing vs with
  | nil => rfl
  | cons k ks ih =>
    cases vs with
    | nil => rfl
    | cons v vs =>
      show valV ((Sum.inr k, v) :: kvsOf ks vs) _ = if k = x then some v else dAt ks vs x
      by_cases e : k = x
      · subst e; rw [valV_pos rfl, if_pos rfl]
      · rw [valV_neg (fun z => e (Sum.inr.inj z)), if_neg e, ih]
section
variable {K : PySem.W.Frag} {M : Addr → Prop} {H : Hp}
theorem Reps.rep {d : D} {v : V} (r : Rep K M H d v) (x : Str) : ∀ (ks : List Str) (ds : List D) (vs : List V), Reps K M H ds vs → Reps K M H (vRep ks ds x d) (vRep ks vs x v)
  | [], ds, vs, h => by
    have e1 : vRep [] ds x d = ds := by cases ds <;> rfl
    have e2 : vRep [] vs x v = vs := by cases vs <;> rfl
    rw [e1, e2]; exact h
  | k :: ks, [], vs, h => by unfold Reps at h; subst h; exact Reps.nil
  | k :: ks, e :: ds, vs, h => by
    unfold Reps at h
    obtain ⟨w, rs, rfl, q, s⟩ := h
    show Reps K M H ((if k = x then d else e) :: vRep ks ds x d) ((if k = x then v else w) :: vRep ks rs x v)
    refine Reps.cons ?_ (Reps.rep r x ks ds rs s)
    by_cases z : k = x
    · rw [if_pos z, if_pos z]; exact r
    · rw [if_neg z, if_neg z]; exact q
theorem Reps.put {ks : List Str} {ds : List D} {vs : List V} {d : D} {v : V} (x : Str) (h : Reps K M H ds vs) (r : Rep K M H d v) : Reps K M H (vPut ks ds x d) (vPut ks vs x v) := by
  unfold vPut
  by_cases e : x ∈ ks
  · rw [if_pos e, if_pos e]; exact Reps.rep r x ks ds vs h
  · rw [if_neg e, if_neg e]; exact Reps.append _ _ _ _ h (Reps.one r)
theorem Reps.dAt (x : Str) : ∀ (ks : List Str) (ds : List D) (vs : List V), Reps K M H ds vs → (∀ d, DL.dAt ks ds x = some d → ∃ v, DL.dAt ks vs x = some v ∧ Rep K M H d v) ∧ (DL.dAt ks ds x = none → DL.dAt ks vs x = none)
  | [], ds, vs, h => ⟨fun d e => (nomatch e), fun _ => rfl⟩
  | k :: ks, [], vs, h => by unfold Reps at h; subst h; exact ⟨fun d e => (nomatch e), fun _ => rfl⟩
  | k :: ks, e :: ds, vs, h => by
    unfold Reps at h
    obtain ⟨w, rs, rfl, q, s⟩ := h
    obtain ⟨h1, h2⟩ := Reps.dAt x ks ds rs s
    show (∀ d, (if k = x then some e else DL.dAt ks ds x) = some d → ∃ v, (if k = x then some w else DL.dAt ks rs x) = some v ∧ _) ∧ ((if k = x then some e else DL.dAt ks ds x) = none → (if k = x then some w else DL.dAt ks rs x) = none)
    by_cases z : k = x
    · simp only [if_pos z]
      exact ⟨fun d e => by cases e; exact ⟨w, rfl, q⟩, fun e => (nomatch e)⟩
    · simp only [if_neg z]
      exact ⟨h1, h2⟩
theorem dAt_some {α : Type} {ks : List Str} {ds : List α} {x : Str} (h : ks.length = ds.length) : (dAt ks ds x).isSome = decide (x ∈ ks) := by
  induction ks generalizing ds with
  | nil => rfl
  | cons k ks ih =>
    cases ds with
    | nil => cases h
    | cons v vs =>
      show (if k = x then some v else dAt ks vs x).isSome = _
      by_cases e : k = x
      · subst e; simp
      · have e2 : ¬ x = k := fun z => e z.symm
        rw [if_neg e, ih (Nat.succ.inj h)]
        simp [e2]
end
def fDget : List D → (D → Prop) → Prop
  | [.dct ks ds, .str x], R => ∃ d, dAt ks ds x = some d ∧ R d
  | _, _ => False
theorem fDget_eq {ks : List Str} {ds : List D} {x : Str} {R : D → Prop} : fDget [.dct ks ds, .str x] R ↔ ∃ d, dAt ks ds x = some d ∧ R d := Iff.rfl
/-- x in d, x in xs -/
def fIn (g : Bool → Bool) : List D → (D → Prop) → Prop
  | [.str x, .dct ks _], R => R (.bl (g (decide (x ∈ ks))))
  | [.str x, .lst ds], R => ∃ ss : List Str, ds = ss.map D.str ∧ R (.bl (g (decide (x ∈ ss))))
  | _, _ => False
theorem fIn_dct {g : Bool → Bool} {ks : List Str} {ds : List D} {x : Str} {R : D → Prop} : fIn g [.str x, .dct ks ds] R ↔ R (.bl (g (decide (x ∈ ks)))) := Iff.rfl
theorem fIn_lst {g : Bool → Bool} {ds : List D} {x : Str} {R : D → Prop} : fIn g [.str x, .lst ds] R ↔ ∃ ss : List Str, ds = ss.map D.str ∧ R (.bl (g (decide (x ∈ ss)))) := Iff.rfl
theorem reps_strs {K : PySem.W.Frag} {M : Addr → Prop} {H : Hp} : ∀ {ss : List Str} {vs : List V}, Reps K M H (ss.map D.str) vs → vs = ss.map V.str
  | [], vs, h => by unfold Reps at h; exact h
  | s :: ss, vs, h => by
    rw [List.map_cons] at h
    unfold Reps at h
    obtain ⟨v, r, rfl, q, t⟩ := h
    rw [rep_str q, reps_strs t]; rfl
theorem reps_of_strs {K : PySem.W.Frag} {M : Addr → Prop} {H : Hp} : ∀ (ss : List Str), Reps K M H (ss.map D.str) (ss.map V.str)
  | [] => Reps.nil
  | s :: ss => Reps.cons (by unfold Rep; rfl) (reps_of_strs ss)
theorem strsAre_of : ∀ {ss : List Str} {us : List Value}, Vals (ss.map V.str) us → StrsAre us ss
  | [], _, r => by rw [List.map_nil] at r; cases r; exact .nil
  | s :: ss, _, r => by
    rw [List.map_cons] at r
    cases r with
    | @cons _ u _ us h t =>
      obtain ⟨t', e⟩ := (show ∃ t, u = Value.str s t from h)
      subst e
      exact .cons _ _ (strsAre_of t)
theorem vals_of_strs : ∀ {ss : List Str} {us : List Value}, StrsAre us ss → Vals (ss.map V.str) us
  | _, _, .nil => .nil
  | _, _, .cons _ _ h => .cons ⟨_, rfl⟩ (vals_of_strs h)
section
variable {X : Cx}
/-! ### != -/
def fNeq : List D → (D → Prop) → Prop
  | [.int i, .int j], R => R (.bl (!decide (i = j)))
  | [.str x, .str y], R => R (.bl (!decide (x = y)))
  | [.bl a, .bl b], R => R (.bl (!decide (a = b)))
  | [.tup xs, .tup ys], R => (xs = ys ∧ D.nds xs = true ∧ D.dps xs ≤ 60) ∧ R (.bl false)
  | [.lst xs, .lst ys], R => (xs = ys ∧ D.nds xs = true ∧ D.dps xs ≤ 60) ∧ R (.bl false)
  | [.dct ks ds, .dct ks' ds'], R => (ks = ks' ∧ ds = ds' ∧ ks.Nodup ∧ D.nds ds = true ∧ D.dps ds ≤ 60) ∧ R (.bl false)
  | _, _ => False
theorem fNeq_int {i j : Int} {R : D → Prop} : fNeq [.int i, .int j] R ↔ R (.bl (!decide (i = j))) := Iff.rfl
theorem fNeq_str {i j : Str} {R : D → Prop} : fNeq [.str i, .str j] R ↔ R (.bl (!decide (i = j))) := Iff.rfl
theorem fNeq_bl {i j : Bool} {R : D → Prop} : fNeq [.bl i, .bl j] R ↔ R (.bl (!decide (i = j))) := Iff.rfl
theorem fNeq_tup {xs ys : List D} {R : D → Prop} : fNeq [.tup xs, .tup ys] R ↔ (xs = ys ∧ D.nds xs = true ∧ D.dps xs ≤ 60) ∧ R (.bl false) := Iff.rfl
theorem fNeq_lst {xs ys : List D} {R : D → Prop} : fNeq [.lst xs, .lst ys] R ↔ (xs = ys ∧ D.nds xs = true ∧ D.dps xs ≤ 60) ∧ R (.bl false) := Iff.rfl
theorem fNeq_dct {ks ks' : List Str} {ds ds' : List D} {R : D → Prop} : fNeq [.dct ks ds, .dct ks' ds'] R ↔ (ks = ks' ∧ ds = ds' ∧ ks.Nodup ∧ D.nds ds = true ∧ D.dps ds ≤ 60) ∧ R (.bl false) := Iff.rfl
/-- two dicts that are the same row by row -/
theorem hits_of {A : Around} {s : Shared} : ∀ (kb : List (Key × Value)) (ka : List (Key × Value)), (∀ (j : Nat) k v, ka[j]? = some (k, v) → ∃ y, valueAt kb k = some y ∧ SeqAt.EqAt A s v y true) → PySem.W.KeqHits A s kb ka true
  | kb, [], _ => .nil
  | kb, (k, v) :: r, h => by
    obtain ⟨y, hy, he⟩ := h 0 k v rfl
    have q := PySem.W.KeqHits.hit hy he (hits_of kb r fun j k' v' e => h (j + 1) k' v' (by simpa using e))
    exact q
theorem valueAt_of {kb : List (Key × Value)} (hn : (kb.map (·.1)).Nodup) {j : Nat} {k : Key} {y : Value} (e : kb[j]? = some (k, y)) : valueAt kb k = some y := by
  induction kb generalizing j with
  | nil => simp at e
  | cons p r ih =>
    rw [List.map_cons, List.nodup_cons] at hn
    cases j with
    | zero => simp at e; subst e; simp [valueAt]
    | succ j =>
      have e' : r[j]? = some (k, y) := by simpa using e
      have ne : ¬ p.1 = k := fun z => hn.1 (by rw [z]; exact List.mem_map.mpr ⟨(k, y), List.mem_of_getElem? e', rfl⟩)
      have q := ih hn.2 e'
      unfold valueAt at q ⊢
      rw [List.find?_cons]
      simp only [ne, decide_false]
      exact q
theorem pairedR {α β : Type} {F : α → β → Prop} : ∀ {l₁ : List α} {l₂ : List β} {j : Nat} {b : β}, Paired F l₁ l₂ → l₂[j]? = some b → ∃ a, l₁[j]? = some a ∧ F a b
  | _, _, _, _, .nil, e => by simp at e
  | _, _, 0, _, .cons h t, e => by simp at e; subst e; exact ⟨_, rfl, h⟩
  | _, _, j + 1, _, .cons h t, e => by
    obtain ⟨a, q, f⟩ := pairedR (j := j) t (by simpa using e)
    exact ⟨a, by simpa using q, f⟩
theorem pairedL {α β : Type} {F : α → β → Prop} : ∀ {l₁ : List α} {l₂ : List β} {j : Nat} {a : α}, Paired F l₁ l₂ → l₁[j]? = some a → ∃ b, l₂[j]? = some b ∧ F a b
  | _, _, _, _, .nil, e => by simp at e
  | _, _, 0, _, .cons h t, e => by simp at e; subst e; exact ⟨_, rfl, h⟩
  | _, _, j + 1, _, .cons h t, e => by
    obtain ⟨a, q, f⟩ := pairedL (j := j) t (by simpa using e)
    exact ⟨a, by simpa using q, f⟩
theorem nds_get : ∀ {ds : List D} {j : Nat} {d : D}, D.nds ds = true → ds[j]? = some d → d.nd = true
  | [], _, _, _, e => by simp at e
  | x :: r, 0, d, h, e => by
    simp at e; subst e
    unfold D.nds at h
    exact (Bool.and_eq_true_iff.mp h).1
  | x :: r, j + 1, d, h, e => by
    unfold D.nds at h
    exact nds_get (j := j) (Bool.and_eq_true_iff.mp h).2 (by simpa using e)
theorem dps_get : ∀ {ds : List D} {j : Nat} {d : D}, ds[j]? = some d → d.dp ≤ D.dps ds
  | [], _, _, e => by simp at e
  | x :: r, 0, d, e => by
    simp at e; subst e
    unfold D.dps
    exact Nat.le_max_left _ _
  | x :: r, j + 1, d, e => by
    unfold D.dps
    exact Nat.le_trans (dps_get (j := j) (by simpa using e)) (Nat.le_max_right _ _)
theorem kvs_get {ks : List Str} {vs : List V} {j : Nat} {k : Key} {v : V} (e : (kvsOf ks vs)[j]? = some (k, v)) : ∃ x, k = Sum.inr x ∧ ks[j]? = some x ∧ vs[j]? = some v := by
  unfold kvsOf at e
  rw [List.getElem?_zip_eq_some] at e
  obtain ⟨e1, e2⟩ := e
  rw [List.getElem?_map] at e1
  cases h : ks[j]? with
  | none => rw [h] at e1; cases e1
  | some x => rw [h] at e1; exact ⟨x, (Option.some.inj e1).symm, rfl, e2⟩
theorem kvs_at {ks : List Str} {vs : List V} {j : Nat} {x : Str} {v : V} (e1 : ks[j]? = some x) (e2 : vs[j]? = some v) : (kvsOf ks vs)[j]? = some (Sum.inr x, v) := by
  unfold kvsOf
  rw [List.getElem?_zip_eq_some]
  exact ⟨by rw [List.getElem?_map, e1]; rfl, e2⟩
theorem dct_hits {pins : List (Addr × Obj)} {σ : L2.St} {H : Hp} {s : Shared} {M : Addr → Prop} {A : Around} {ks : List Str} {ds : List D} {vs ws : List V} {va vb : List (Key × Value)} (I : L2.Inv X pins σ H s) (nd : ks.Nodup) (hn : D.nds ds = true) (hd : A.units + D.dps ds < cLine) (l1 : ks.length = ds.length)
    (rs1 : Reps X.K M H ds vs) (rs2 : Reps X.K M H ds ws) (ra : KV (kvsOf ks vs) va) (rb : KV (kvsOf ks ws) vb) : PySem.W.KeqHits A s vb va true := by
  have lw := Reps.length _ _ rs2
  have hkb : (vb.map (·.1)).Nodup := by
    rw [← rb.keys]
    have : (kvsOf ks ws).map (·.1) = ks.map Sum.inr := by unfold kvsOf; rw [List.map_fst_zip (by rw [List.length_map]; omega)]
    rw [this]
    exact List.Pairwise.map _ (fun a b ne z => ne (Sum.inr.inj z)) nd
  refine hits_of vb va fun j k1 v1 e1 => ?_
  obtain ⟨⟨k2, v2⟩, q1, z1, z2⟩ := pairedR ra e1
  obtain ⟨x, rfl, kx, vx⟩ := kvs_get q1
  simp only at z1 z2
  subst z1
  have hj : j < ds.length := by rw [← l1]; exact (List.getElem?_eq_some_iff.mp kx).1
  have ed : ds[j]? = some ds[j] := by simp [hj]
  obtain ⟨v', ev, rv⟩ := Reps.get _ _ rs1 j _ ed
  rw [vx] at ev
  cases ev
  obtain ⟨w', ew, rw'⟩ := Reps.get _ _ rs2 j _ ed
  obtain ⟨⟨k3, y⟩, qy, y1, y2⟩ := pairedL rb (kvs_at kx ew)
  simp only at y1 y2
  subst y1
  exact ⟨y, valueAt_of hkb qy, eqAt_D I ds[j] A v2 w' v1 y (nds_get hn ed) (by have := dps_get ed; omega) rv rw' z2 y2⟩
theorem o_neq (hu : X.A.units + 64 < cLine) : OpR X (compareOp .NotEq) fun x y => pureR X.K fNeq [x, y] := by
  intro pins s σ H x y v u Q I rx ry h
  obtain ⟨M, ds, R, m, rs, h, k⟩ := h
  have fin : ∀ b, R (.bl b) → EP X pins σ Q (.bool b) s := fun b r => ⟨.bl b, H, I, rfl, k _ r _ H (Same.refl H) (Rep.sc rfl)⟩
  unfold fNeq at h
  split at h
  · exact o_ne hu pins s σ H x y v u Q I rx ry ⟨M, _, R, m, rs, h, k⟩
  · exact o_ne hu pins s σ H x y v u Q I rx ry ⟨M, _, R, m, rs, h, k⟩
  · exact o_ne hu pins s σ H x y v u Q I rx ry ⟨M, _, R, m, rs, h, k⟩
  · obtain ⟨⟨e, hn, hd⟩, h⟩ := h
    subst e
    obtain ⟨h1, h2⟩ := reps2 rs
    unfold Rep at h1 h2
    obtain ⟨a, vs, rfl, sq, rs1⟩ := h1
    obtain ⟨b, ws, rfl, sq', rs2⟩ := h2
    cases rx
    cases ry
    obtain ⟨its, r1, t1, _⟩ := I.tuple sq
    obtain ⟨its', r2, t2, _⟩ := I.tuple sq'
    have hs : its.length = its'.length := by rw [← r1.length, ← r2.length, ← Reps.length _ _ rs1, ← Reps.length _ _ rs2]
    refine SeqAt.RcNeAt.tuples (e := fun _ => true) t1 t2 (by omega) (eqAt_Ds I _ X.A.in1 vs ws its its' hn (by rw [in1_units]; omega) rs1 rs2 r1 r2) _ _ _ _ ?_
    have z : ((List.range (min its.toArray.size its'.toArray.size)).all (fun _ => true) && its.toArray.size == its'.toArray.size) = true := by simp [hs]
    rw [z]
    exact fin _ h
  · obtain ⟨⟨e, hn, hd⟩, h⟩ := h
    subst e
    obtain ⟨h1, h2⟩ := reps2 rs
    unfold Rep at h1 h2
    obtain ⟨a, vs, rfl, _, sq, rs1⟩ := h1
    obtain ⟨b, ws, rfl, _, sq', rs2⟩ := h2
    cases rx
    cases ry
    obtain ⟨its, r1, t1, _⟩ := I.list (SqL.of sq)
    obtain ⟨its', r2, t2, _⟩ := I.list (SqL.of sq')
    have hs : its.length = its'.length := by rw [← r1.length, ← r2.length, ← Reps.length _ _ rs1, ← Reps.length _ _ rs2]
    refine SeqAt.RcNeAt.lists (e := fun _ => true) t1.isList t2.isList (by simp [hs]) (by omega) (eqAt_Ds I _ X.A.in1 vs ws its its' hn (by rw [in1_units]; omega) rs1 rs2 r1 r2) _ _ _ _ ?_
    rw [all_true]
    exact fin _ h
  · obtain ⟨⟨e, e2, nd, hn, hd⟩, h⟩ := h
    subst e e2
    obtain ⟨h1, h2⟩ := reps2 rs
    unfold Rep at h1 h2
    obtain ⟨a, vs, rfl, _, sq, l1, rs1⟩ := h1
    obtain ⟨b, ws, rfl, _, sq', l2, rs2⟩ := h2
    cases rx
    cases ry
    obtain ⟨_, lo, va, ra, da⟩ := dk_of I.hok sq
    obtain ⟨_, lo', vb, rb, db⟩ := dk_of I.hok sq'
    have lv := Reps.length _ _ rs1
    have lw := Reps.length _ _ rs2
    have la := ra.length
    have lb := rb.length
    refine PySem.W.keq_ne (r := true) lo lo' da db (by omega) (fun _ => dct_hits I nd hn (by rw [in1_units]; omega) l1 rs1 rs2 ra rb) ?_
    have e3 : va.length = vb.length := by
      rw [← la, ← lb]
      unfold kvsOf
      rw [List.length_zip, List.length_zip, ← lv, ← lw]
    have : (va.length == vb.length) = true := by rw [e3]; simp
    rw [this]
    exact fin _ h
  · exact h.elim
end
end DL

namespace DL
open PySem PySem.Spec PyProof.Rows L2
section
variable {prog : Program} {w : World} {A : Around} {E : Value → Shared → Prop} {s : Shared}
theorem lsort_strs {a : Addr} {vs : List Value} {ss : List Str} {n : Nat} {Q : Value → Shared → Prop} (ho : s.heap.get? a = some (seqObj "list" vs.toArray n)) (hS : StrsAre vs ss) (h64 : vs.length < 64)
    (h : ∀ (out : Array Value) (ss' : List Str), StrsAre out.toList ss' → ss'.Perm ss → sortedS ss' = true → Q .none { s with heap := sortedHeap s.heap a vs out }) :
    wpAny (model prog w) A (call (.builtin "list.sort") [.ref a]) Q E s := by
  refine wpAny_call_entry slot_list_sort ⟨_, ho, rfl⟩ entry_list_sort (list_sort_treeK strKind_oneLt ho hS.keysOf (fun v₁ v₂ rest e => keyKind_strs (by rw [← e]; exact hS)) h64 fun st' hp hs => ?_) (args_list_sort _)
  obtain ⟨ss', h1, h2, h3⟩ := sorted_out_str hS hp hs
  exact ⟨_, rfl, h _ ss' h1 h2 h3⟩
end
abbrev Srt (ss : List Str) : Prop := sortedS ss = true
/-- sorted(..) of a list of texts, and of a dict -/
def fSorted : List D → (D → Prop) → Prop
  | [.lst ds], R => ∃ ss : List Str, ds = ss.map D.str ∧ ss.length < 64 ∧ ∀ ss', ss'.Perm ss → Srt ss' → R (.lst (ss'.map D.str))
  | [.dct ks _], R => ks.length < 64 ∧ ∀ ss', ss'.Perm ks → Srt ss' → R (.lst (ss'.map D.str))
  | _, _ => False
theorem fSorted_lst {ds : List D} {R : D → Prop} : fSorted [.lst ds] R ↔ ∃ ss : List Str, ds = ss.map D.str ∧ ss.length < 64 ∧ ∀ ss', ss'.Perm ss → Srt ss' → R (.lst (ss'.map D.str)) := Iff.rfl
theorem fSorted_dct {ks : List Str} {ds : List D} {R : D → Prop} : fSorted [.dct ks ds] R ↔ ks.length < 64 ∧ ∀ ss', ss'.Perm ks → Srt ss' → R (.lst (ss'.map D.str)) := Iff.rfl
def fDict : List D → (D → Prop) → Prop
  | [.dct ks ds], R => R (.dct ks ds)
  | _, _ => False
theorem fDict_dct {ks : List Str} {ds : List D} {R : D → Prop} : fDict [.dct ks ds] R ↔ R (.dct ks ds) := Iff.rfl
theorem strs_keys {P : Program} {w : World} : ∀ {ks : List Str} {us : List Value}, ks.length = us.length → (∀ (j : Nat) v k, us[j]? = some v → ks[j]? = some k → (mixKind P w).is (Sum.inr k) v = true) → StrsAre us ks
  | [], [], _, _ => .nil
  | [], _ :: _, l, _ => by cases l
  | _ :: _, [], l, _ => by cases l
  | k :: ks, u :: us, l, h => by
    have h0 := h 0 u k rfl rfl
    obtain ⟨t, rfl⟩ : ∃ t, u = Value.str k t := by
      have : keyIs (Sum.inr k) u = true := h0
      rcases keyIs_shape this with ⟨i, t, e, _⟩ | ⟨x, t, e, e2⟩
      · cases e
      · cases e; exact ⟨t, e2⟩
    exact .cons _ _ (strs_keys (Nat.succ.inj l) fun j v k' e1 e2 => h (j + 1) v k' (by simpa using e1) (by simpa using e2))
section
variable {X : Cx}
theorem c_sorted (hc : X.calm = true) : CallR X (.builtin "sorted") (pureR X.K fSorted) := by
  intro pins s σ H xs us Q I rv h
  obtain ⟨M, ds, R, m, rs, h, k⟩ := h
  unfold fSorted at h
  split at h
  · obtain ⟨ss, rfl, h64, h⟩ := h
    obtain ⟨x, rfl, q⟩ := reps_one rs
    unfold Rep at q
    obtain ⟨a, vs, rfl, _, e, r⟩ := q
    obtain ⟨u, rfl, ru⟩ := vals1 rv
    cases ru
    cases reps_strs r
    obtain ⟨its, rv2, pl, _⟩ := I.list (SqL.of e)
    have hs := strsAre_of rv2
    have hl : its.length = ss.length := by rw [← rv2.length, List.length_map]
    refine sorted_strs pl.isList hs (by omega) fun out ss' h1 h2 h3 => ?_
    obtain ⟨ep, he⟩ := sortedAll_at s.heap its out
    have hz : (ss'.map V.str).length ≤ sizeLine := by rw [List.length_map, h2.length_eq]; exact small (by omega)
    have I2 : L2.Inv X pins σ (upd H (s.heap.objs.size + 1) (.lst (ss'.map V.str))) { s with heap := sortedAll s.heap its out } :=
      I.laid (t' := s.toks) (fun b o => sortedAll_old) (Nat.le_succ _) (show ObjOk X.prog X.w _ _ _ (.lst (ss'.map V.str)) from ⟨hz, out.toList, ep, vals_of_strs h1, he⟩)
    have fr : H (s.heap.objs.size + 1) = none := I.hok.fresh (Nat.le_succ _)
    refine ⟨.ref _, _, I2, rfl, k _ (h ss' h2 h3) _ _ (same_new fr _) ?_⟩
    unfold Rep
    exact ⟨_, _, rfl, fun z => m _ z fr, upd_same, reps_of_strs ss'⟩
  · obtain ⟨h64, h⟩ := h
    rename_i ks ds
    obtain ⟨x, rfl, q⟩ := reps_one rs
    unfold Rep at q
    obtain ⟨a, vs, rfl, _, e, l, r⟩ := q
    obtain ⟨u, rfl, ru⟩ := vals1 rv
    cases ru
    obtain ⟨hz, lo, va, ra, da⟩ := dk_of I.hok e
    obtain ⟨ep, hat⟩ := da.dictAt
    have lv := Reps.length _ _ r
    have hlen : va.length = ks.length := by
      rw [← ra.length]
      unfold kvsOf
      rw [List.length_zip, List.length_map]; omega
    refine Calls.call_function_entry kind_sorted plain_sorted entry_sorted (args_sorted1 _) ?_
    unfold Builtin.«sorted»
    refine wpAny_bind (m := checkCount "sorted" 1 1 _) (wpAny_pure ?_)
    refine wpAny_bind (PySem.W.kdu_collect (A := X.A.in1) (PySem.W.kdl_dict (knd := mixKind X.prog X.w) (kvs := va) (ep := ep) lo) (I.ok.hd hc) hat (by rw [hlen]; exact small (by omega)) fun h' tk acc hk hacc => ?_)
    have hl : acc.toList.length = ks.length := by rw [Array.length_toList, ← hlen]; exact hacc.1
    have hS : StrsAre acc.toList ks := strs_keys hl.symm fun j v k' e1 e2 => by
      obtain ⟨k2, x2, h1, h2⟩ := hacc.2 j v (by rw [← Array.getElem?_toList]; exact e1)
      obtain ⟨⟨k3, v3⟩, q1, z1, _⟩ := pairedR ra h1
      obtain ⟨x, rfl, kx, _⟩ := kvs_get q1
      simp only at z1
      rw [kx] at e2
      cases e2
      rw [z1]
      exact h2
    refine wpAny_bind (wpAny_newList ?_ (by rw [hl]; exact small (by omega)))
    have hoL : (h'.push { cls := .type "list", data := .seq acc.toList.toArray }).get? h'.objs.size = some (seqObj "list" acc.toList.toArray 0) := Heap.get?_push_size _ rfl
    refine wpAny_bind (wpAny_holding (lsort_strs hoL hS (by omega) fun out ss' h1 h2 h3 => ?_))
    refine wpAny_pure ⟨_, rfl, ?_⟩
    obtain ⟨ep2, he⟩ := sortedHeap_at (out := out) hoL
    have I1 : L2.Inv X pins σ H { s with heap := h', toks := tk } := I.kept (t' := tk) hk
    have kp : ∀ b o, h'.get? b = some o → (sortedHeap (h'.push { cls := .type "list", data := .seq acc.toList.toArray }) h'.objs.size acc.toList out).get? b = some o := fun b o e => by
      have hb := Heap.lt_size e
      rw [sortedHeap_old (Nat.ne_of_lt hb) (by rw [Heap.size_push]; exact Nat.lt_succ_of_lt hb)]
      exact Heap.get?_push_of_some _ e
    have hz2 : (ss'.map V.str).length ≤ sizeLine := by rw [List.length_map, h2.length_eq]; exact small (by omega)
    have I2 : L2.Inv X pins σ (upd H h'.objs.size (.lst (ss'.map V.str))) { s with heap := sortedHeap (h'.push { cls := .type "list", data := .seq acc.toList.toArray }) h'.objs.size acc.toList out, toks := tk } :=
      I1.laid (t' := tk) kp (Nat.le_refl _) (show ObjOk X.prog X.w _ _ _ (.lst (ss'.map V.str)) from ⟨hz2, out.toList, ep2, vals_of_strs h1, he⟩)
    have fr : H h'.objs.size = none := I1.hok.fresh (Nat.le_refl _)
    refine ⟨.ref _, _, I2, rfl, k _ (h ss' h2 h3) _ _ (same_new fr _) ?_⟩
    unfold Rep
    exact ⟨_, _, rfl, fun z => m _ z fr, upd_same, reps_of_strs ss'⟩
  · exact h.elim
def fTuple : List D → (D → Prop) → Prop
  | [.lst xs], R => R (.tup xs)
  | [.fz xs], R => R (.tup xs)
  | [.tup xs], R => R (.tup xs)
  | _, _ => False
theorem fTuple_lst {xs : List D} {R : D → Prop} : fTuple [.lst xs] R ↔ R (.tup xs) := Iff.rfl
theorem fTuple_tup {xs : List D} {R : D → Prop} : fTuple [.tup xs] R ↔ R (.tup xs) := Iff.rfl
theorem c_tuple : CallR X (.type "tuple") (pureR X.K fTuple) :=
  CallR.imp call_tuple_of fun xs H Q ⟨M, ds, R, m, rs, h, k⟩ => by
    unfold fTuple at h
    split at h
    · obtain ⟨x, rfl, q⟩ := reps_one rs
      unfold Rep at q
      obtain ⟨a, vs, rfl, _, e, r⟩ := q
      refine ⟨a, vs, rfl, .inl ⟨SqL.of e, fun l hl => k _ h _ _ (same_new hl _) ?_⟩⟩
      unfold Rep
      exact ⟨l, vs, rfl, SqT.of upd_same, Reps.kp (Kp.of_same (same_new hl _)) _ _ r⟩
    · obtain ⟨x, rfl, q⟩ := reps_one rs
      unfold Rep at q
      obtain ⟨a, vs, rfl, e, r⟩ := q
      refine ⟨a, vs, rfl, .inl ⟨e.seq, fun l hl => k _ h _ _ (same_new hl _) ?_⟩⟩
      unfold Rep
      exact ⟨l, vs, rfl, SqT.of upd_same, Reps.kp (Kp.of_same (same_new hl _)) _ _ r⟩
    · obtain ⟨x, rfl, q⟩ := reps_one rs
      have q0 := q
      unfold Rep at q
      obtain ⟨a, vs, rfl, e, r⟩ := q
      exact ⟨a, vs, rfl, .inr ⟨e, k _ h _ _ (Same.refl H) q0⟩⟩
    · exact h.elim
def fList : List D → (D → Prop) → Prop
  | [.lst xs], R => R (.lst xs)
  | [.fz xs], R => R (.lst xs)
  | [.tup xs], R => R (.lst xs)
  | _, _ => False
theorem fList_lst {xs : List D} {R : D → Prop} : fList [.lst xs] R ↔ R (.lst xs) := Iff.rfl
theorem fList_tup {xs : List D} {R : D → Prop} : fList [.tup xs] R ↔ R (.lst xs) := Iff.rfl
theorem c_list : CallR X (.type "list") (pureR X.K fList) :=
  CallR.imp call_list_of fun xs H Q ⟨M, ds, R, m, rs, h, k⟩ => by
    have fin : ∀ (ds : List D) (vs : List V), R (.lst ds) → Reps X.K M H ds vs → ∀ l, H l = none → Q (.ref l) (upd H l (.lst vs)) := fun ds vs h r l hl => k _ h _ _ (same_new hl _) (by
      unfold Rep
      exact ⟨l, vs, rfl, fun z => m l z hl, upd_same, Reps.kp (Kp.of_same (same_new hl _)) _ _ r⟩)
    unfold fList at h
    split at h
    · obtain ⟨x, rfl, q⟩ := reps_one rs
      unfold Rep at q
      obtain ⟨a, vs, rfl, _, e, r⟩ := q
      exact ⟨a, vs, rfl, .inl (SqL.of e), fin _ _ h r⟩
    · obtain ⟨x, rfl, q⟩ := reps_one rs
      unfold Rep at q
      obtain ⟨a, vs, rfl, e, r⟩ := q
      exact ⟨a, vs, rfl, .inl e.seq, fin _ _ h r⟩
    · obtain ⟨x, rfl, q⟩ := reps_one rs
      unfold Rep at q
      obtain ⟨a, vs, rfl, e, r⟩ := q
      exact ⟨a, vs, rfl, .inr e, fin _ _ h r⟩
    · exact h.elim
/-! ### d[k], d[k] = v -/
variable {a b e : Expr} {ta tb : TDE} {pos : Pos}
theorem de_dget (hu : X.A.units + 64 < cLine) (ha : DE X a ta) (hb : DE X b tb) (hs : NoSl b) : DE X (.Subscript a b pos) (dOp fDget ta tb) :=
  PE.imp (pe_dget (by omega) ha hb hs) fun σ H Q ⟨G, δ, P, R, s, h, k, _⟩ => up.mk s h fun x δ1 h1 v H1 s1 => up.mk s1 h1 fun y δ2 h2 u H2 s2 => by
    unfold fDget at h2
    split at h2
    · rename_i ks ds z eq
      cases eq
      obtain ⟨d, ed, r⟩ := h2
      obtain ⟨A, q⟩ := id s2
      have p1 := q.pnd (.dct ks ds, v) (by simp)
      have p2 : u = .str z := rep_str (q.pnd (.str z, u) (by simp))
      unfold Rep at p1
      obtain ⟨a, vs, rfl, _, he, l, rs⟩ := p1
      obtain ⟨w', hw, rw'⟩ := (Reps.dAt z ks ds vs rs).1 d ed
      refine ⟨a, w', rfl, ?_, k d δ2 r w' H2 ⟨A, (q.sub (P' := P) fun p hp => by simp [hp]).push rw'⟩⟩
      have g := DGet.k (k := Sum.inr z) he
      rw [val_keys, hw] at g
      rw [p2]
      exact g
    · exact h2.elim
def dPutD (i : Nat) (tv tk : TDE) : TDS := fun R δ => tv δ (wd fun x δ1 => ∃ a ks ds, δ1[i]? = some (.own a (.dct ks ds)) ∧ tk δ1 (wd fun z δ2 => ∃ ks ds y, δ2[i]? = some (.own a (.dct ks ds)) ∧ z = .str y ∧ ks.length < 1000 ∧ R.nx (δ2.set i (.own a (.dct (kPut ks y) (vPut ks ds y x))))))
theorem ds_putD (i : Nat) {y : Str} {p pos' : Pos} (hu : X.A.units + 64 < cLine) (he : DE X e ta) (hb : DE X b tb) (hN : X.N[i]? = some y := by rfl) (hv : Vis X.env.scope y := by first | exact Or.inl rfl | exact Or.inr (Or.inl rfl) | exact Or.inr (Or.inr rfl))
    (hd : (y == ("__debug__" : Str)) = false := by decide) (hcd : (y == ("__classdict__" : Str)) = false := by decide) (hs : swapsWith e (some (.Subscript (.Name y p) b pos')) pos.line X.env = pure false := by rfl) :
    DS X (.Assign [.Subscript (.Name y p) b pos'] e pos) (dPutD i ta tb) :=
  PS.imp (ps_dput (by omega) (pe_var hN hv hd hcd) hb he hs) fun E σ H ⟨G, δ, P, R, s, h, k, _⟩ => up.mk s h fun x δ1 ⟨a, ks0, ds0, hi0, h1⟩ v H1 s1 => ⟨.ref a, s1.own hi0, up.mk s1 h1 fun z δ2 ⟨ks, ds, y, hi, ez, hz, r⟩ u H2 ⟨A, q⟩ => by
    subst ez
    obtain ⟨_, aa, vs, hvs, l, rs⟩ := q.own i a _ hi
    have lv := Reps.length _ _ rs
    have p2 : u = .str y := rep_str (q.pnd (.str y, u) (by simp))
    have hlen : (kvsOf ks vs).length < sizeLine := by
      unfold kvsOf
      rw [List.length_zip, List.length_map]
      exact small1000 (by omega)
    have g := DPut.k (k := Sum.inr y) (v := v) hvs hlen
    rw [kvs_put y v (by omega)] at g
    refine ⟨a, _, rfl, by rw [p2]; exact g, k _ r _ _ ⟨A, (q.change (d' := .dct (kPut ks y) (vPut ks ds y x)) hi (fun b o n e => by rw [upd_ne n]; exact e) ⟨vPut ks vs y v, upd_same, put_len l, ?_⟩).sub (P' := P) fun q hq => List.mem_cons_of_mem _ (List.mem_cons_of_mem _ hq)⟩⟩
    have kp : Kp (fun b => G.M0 b ∨ A b) H2 (upd H2 a (.dK (kvsOf (kPut ks y) (vPut ks vs y v)))) := by
      have hk : ∀ b o, b ≠ a → H2 b = some o → upd H2 a (.dK (kvsOf (kPut ks y) (vPut ks vs y v))) b = some o := fun b o n e => by rw [upd_ne n]; exact e
      exact ⟨fun b o e n => hk b o (fun z => n (.inr (by rw [z]; exact aa))) e, fun b xs e => hk b _ (fun z => by rw [z, hvs] at e; cases e) e, fun b o u e => hk b _ (fun z => by rw [z, hvs] at e; cases e) e⟩
    exact Reps.kp kp _ _ (Reps.put y rs (q.pnd (x, v) (by simp)))⟩
def dRetN : TDS := fun R δ => R.rt .non δ
/-! ### a text walked -/
def signs (x : Str) : List D := x.cps.toList.map fun c => D.str ⟨#[c]⟩
def dcStr (t : TDE) : TDC := fun δ R => t δ (wd fun d δ1 => ∃ x, d = .str x ∧ R (signs x) δ1)
/-! ### xs.pop() -/
def dPop (i j : Nat) : TDS := fun R δ => ∃ a ds y, δ[i]? = some (.own a (.lst (ds ++ [y]))) ∧ R.nx ((δ.set i (.own a (.lst ds))).set j (.dat y))
end
end DL

namespace DL
open PySem PySem.Spec PyProof.Rows L2
section
variable {prog : Program} {w : World} {A : Around} {E : Value → Shared → Prop}
end
section
variable {X : Cx} {pos : Pos}
def dgLst (n : Nat) (t : TDGs) : TDG := fun d δ R => ∃ xs, d = .lst xs ∧ xs.length = n ∧ t xs δ R
end
end DL

namespace DL
open PySem PySem.Spec PyProof.Rows L2
section
variable {X : Cx} {b : Expr} {tb : TDE} {pos p : Pos}
def dGtab (D : List (Str × Str)) (t : TDE) : TDE := fun δ R => t δ (wd fun z δ1 => ∃ k v, z = .str k ∧ KTD.datumAt k D = some v ∧ R (.d (.str v)) δ1)
end
end DL

namespace DL
open PySem PySem.Spec PyProof.Rows L2
/-- max(a, b), max([..]) of whole numbers -/
def fMax : List D → (D → Prop) → Prop
  | [.int i, .int j], R => R (.int (max i j))
  | [.lst ds], R => ∃ ns : List Int, ds = ns.map D.int ∧ 0 < ns.length ∧ ∀ M ∈ ns, (∀ a ∈ ns, a ≤ M) → R (.int M)
  | _, _ => False
theorem fMax_two {i j : Int} {R : D → Prop} : fMax [.int i, .int j] R ↔ R (.int (max i j)) := Iff.rfl
theorem fMax_lst {ds : List D} {R : D → Prop} : fMax [.lst ds] R ↔ ∃ ns : List Int, ds = ns.map D.int ∧ 0 < ns.length ∧ ∀ M ∈ ns, (∀ a ∈ ns, a ≤ M) → R (.int M) := Iff.rfl
theorem reps_ints {K : PySem.W.Frag} {M : Addr → Prop} {H : Hp} : ∀ {ns : List Int} {vs : List V}, Reps K M H (ns.map D.int) vs → vs = ns.map V.int
  | [], vs, h => by unfold Reps at h; exact h
  | s :: ss, vs, h => by
    rw [List.map_cons] at h
    unfold Reps at h
    obtain ⟨v, r, rfl, q, t⟩ := h
    rw [rep_int q, reps_ints t]; rfl
theorem intsAre_of : ∀ {ns : List Int} {us : List Value}, Vals (ns.map V.int) us → IntsAre us ns
  | [], _, r => by rw [List.map_nil] at r; cases r; exact .nil
  | n :: ns, _, r => by
    rw [List.map_cons] at r
    cases r with
    | @cons _ u _ us h t =>
      obtain ⟨t', e⟩ := (show ∃ t, u = Value.int n t from h)
      subst e
      exact .cons _ _ (intsAre_of t)
end DL

namespace DL
open PySem PySem.Spec PyProof.Rows L2
/-! ### two sequences walked together -/
/-- k: a list, else a tuple -/
def ItA (k : Bool) (h : Heap) (it a : Addr) (i : Nat) : Prop := match k with | true => h.IsListIter it a i | false => h.IsTupleIter it a i
def SqA (k : Bool) (h : Heap) (a : Addr) (xs : Array Value) : Prop := match k with | true => h.IsList a xs | false => h.IsTuple a xs
theorem ItA.keep {k : Bool} {h h' : Heap} {it a : Addr} {i : Nat} (x : ItA k h it a i) (f : ∀ o, h.get? it = some o → h'.get? it = some o) : ItA k h' it a i := by
  cases k
  · exact Heap.IsTupleIter.at x f
  · exact Heap.IsListIter.at x f
theorem SqA.keep {k : Bool} {h h' : Heap} {a : Addr} {xs : Array Value} (x : SqA k h a xs) (f : ∀ o, h.get? a = some o → h'.get? a = some o) : SqA k h' a xs := by
  cases k
  · exact Heap.IsTuple.at x f
  · exact Heap.IsList.at x f
theorem ItA.obj {k : Bool} {h : Heap} {it a : Addr} {i : Nat} (x : ItA k h it a i) : ∃ o, h.get? it = some o ∧ o.cls = .type (if k then "list_iterator" else "tuple_iterator") ∧ o.data = .fields #[.ref a, .int i 0] := by
  cases k
  · exact x
  · exact x
theorem SqA.there {k : Bool} {h : Heap} {a : Addr} {xs : Array Value} (x : SqA k h a xs) : ∃ o, h.get? a = some o ∧ ∃ n, o.data = .seq xs n := by
  cases k
  · obtain ⟨o, e, _, d⟩ := x; exact ⟨o, e, d⟩
  · obtain ⟨o, e, _, d⟩ := x; exact ⟨o, e, d⟩
section
variable {prog : Program} {w : World} {A : Around} {E : Value → Shared → Prop} {s : Shared}
theorem nxt_t {it t : Addr} {i : Nat} {xs : Array Value} {x : Value} {Q : Value → Shared → Prop} (a1 : s.heap.IsTupleIter it t i) (a2 : s.heap.IsTuple t xs) (a3 : xs[i]? = some x)
    (q : ∀ h', h'.IsTupleIter it t (i + 1) → Heap.SameBut it s.heap h' → Q x { s with heap := h' }) : wpAny (model prog w) A (Builtin.SmallTypes.nextOf (.ref it)) Q E s := by
  obtain ⟨u, e1, e2, e3⟩ := id a1
  obtain ⟨ut, f1, _, nn, f2⟩ := a2
  unfold Builtin.SmallTypes.nextOf
  refine wpAny_bind (wpAny_callSpecial?_slot (name := Str.ofString "__next__") a1.typeIs F.slot_tuple_iterator_next (wpAny_call_entry F.slot_tuple_iterator_next a1.typeIs F.entry_tuple_iterator_next ?_ (F.args_tuple_iterator_next_1 _)))
  refine wpAny_bind (m := field (.ref it) 0) (wpAny_field e1 e3 (x := .ref t) rfl ?_)
  rw [if_neg (c := (Value.ref t == Value.none) = true) Bool.false_ne_true]
  refine wpAny_bind (m := field (.ref it) 1) (wpAny_field e1 e3 (x := .int i 0) rfl ?_)
  refine wpAny_bind (m := seqItems? (.ref t)) (wpAny_seqItems f1 f2 ?_)
  simp only [Int.toNat_natCast, a3]
  refine wpAny_bind (wpAny_setField e1 e3 (by simp) (wpAny_pure ⟨x, rfl, wpAny_pure (q _ ?_ (Heap.SameBut.update ..))⟩))
  refine ⟨_, Heap.get?_update_self _ e1 (Obj.isFreed_of_fields (Obj.data_mapFields e3 _)), (Obj.cls_mapFields ..).trans e2, ?_⟩
  rw [Obj.data_mapFields e3]; simp [rawInt]
theorem nxt_t_end {it t : Addr} {i : Nat} {xs : Array Value} {Q : Value → Shared → Prop} (a0 : A.handled = none) (a1 : s.heap.IsTupleIter it t i) (a2 : s.heap.IsTuple t xs) (a3 : xs[i]? = none)
    (q : ∀ h' e, Heap.ExtBut it s.heap h' → (∃ o, h'.get? e = some o ∧ o.cls = .type "StopIteration") → E (.ref e) { s with heap := h' }) : wpAny (model prog w) A (Builtin.SmallTypes.nextOf (.ref it)) Q E s := by
  obtain ⟨u, e1, e2, e3⟩ := id a1
  obtain ⟨ut, f1, _, nn, f2⟩ := a2
  unfold Builtin.SmallTypes.nextOf
  refine wpAny_bind (wpAny_callSpecial?_slot (name := Str.ofString "__next__") a1.typeIs F.slot_tuple_iterator_next (wpAny_call_entry F.slot_tuple_iterator_next a1.typeIs F.entry_tuple_iterator_next ?_ (F.args_tuple_iterator_next_1 _)))
  refine wpAny_bind (m := field (.ref it) 0) (wpAny_field e1 e3 (x := .ref t) rfl ?_)
  rw [if_neg (c := (Value.ref t == Value.none) = true) Bool.false_ne_true]
  refine wpAny_bind (m := field (.ref it) 1) (wpAny_field e1 e3 (x := .int i 0) rfl ?_)
  refine wpAny_bind (m := seqItems? (.ref t)) (wpAny_seqItems f1 f2 ?_)
  simp only [Int.toNat_natCast, a3]
  refine wpAny_bind (wpAny_rule (wpAny_bind (wpAny_setField e1 e3 (by simp) ?_)))
  refine wpAny_bind (m := newExc (.type "StopIteration") []) ?_
  simp only [newExc, newTuple]
  refine wpAny_bind (wpAny_newObj_type ?_ (by size_fits))
  refine wpAny_bind (m := firstArgMember _ _) (wpAny_of_eq (a := Value.none) (by first | rfl | (simp only [firstArgMember]; rfl)) ?_)
  refine wpAny_newObj_type ?_ (by size_fits)
  simp only [raiseNew]
  refine wpAny_bind (wpAny_handled ?_)
  first | rw [show A.in1.handled = none from a0] | rw [a0]
  exact wpAny_bind (wpAny_pure (wpAny_throw (q _ _ (((Heap.SameBut.update ..).extBut.push _).push _) ⟨_, Heap.get?_push_size _ rfl, rfl⟩)))
theorem nxt_A {k : Bool} {it a : Addr} {i : Nat} {xs : Array Value} {x : Value} {Q : Value → Shared → Prop} (a1 : ItA k s.heap it a i) (a2 : SqA k s.heap a xs) (a3 : xs[i]? = some x)
    (q : ∀ h', ItA k h' it a (i + 1) → Heap.SameBut it s.heap h' → Q x { s with heap := h' }) : wpAny (model prog w) A (Builtin.SmallTypes.nextOf (.ref it)) Q E s := by
  cases k
  · exact nxt_t a1 a2 a3 q
  · exact wpAny_nextOf_list_item a1 a2 a3 q
theorem nxt_A_end {k : Bool} {it a : Addr} {i : Nat} {xs : Array Value} {Q : Value → Shared → Prop} (a0 : A.handled = none) (a1 : ItA k s.heap it a i) (a2 : SqA k s.heap a xs) (a3 : xs[i]? = none)
    (q : ∀ h' e, Heap.ExtBut it s.heap h' → (∃ o, h'.get? e = some o ∧ o.cls = .type "StopIteration") → E (.ref e) { s with heap := h' }) : wpAny (model prog w) A (Builtin.SmallTypes.nextOf (.ref it)) Q E s := by
  cases k
  · exact nxt_t_end a0 a1 a2 a3 q
  · exact wpAny_nextOf_list_end a0 a1 a2 a3 q
theorem iter_A {k : Bool} {a : Addr} {xs : Array Value} {Q : Value → Shared → Prop} (a1 : SqA k s.heap a xs)
    (q : Q (.ref s.heap.objs.size) { s with heap := s.heap.push { cls := .type (if k then "list_iterator" else "tuple_iterator"), data := .fields #[.ref a, .int 0 0] } }) : wpAny (model prog w) A (pyIter (.ref a)) Q E s := by
  cases k
  · exact wpAny_pyIter_tuple a1 q
  · exact wpAny_pyIter_list a1 q

/-- the five objects of a zip, and the two that it walks -/
structure ZAp (z p o i j a b : Addr) : Prop where
  zp : p ≠ z
  zo : o ≠ z
  zi : i ≠ z
  zj : j ≠ z
  po : p ≠ o
  pi : p ≠ i
  pj : p ≠ j
  oi : o ≠ i
  oj : o ≠ j
  ij : i ≠ j
  az : a ≠ z
  ao : a ≠ o
  ai : a ≠ i
  aj : a ≠ j
  bz : b ≠ z
  bo : b ≠ o
  bi : b ≠ i
  bj : b ≠ j
structure ZAt (k l : Bool) (h : Heap) (z p o i j a b : Addr) (m : Nat) (xs ys : Array Value) : Prop where
  hz : IsZip h z p o .none
  hp : IsPair h p (.ref i) (.ref j)
  ho : ∃ u v, IsPair h o u v
  hi : ItA k h i a m
  hj : ItA l h j b m
  ha : SqA k h a xs
  hb : SqA l h b ys

theorem znext {k l : Bool} {z p o i j a b : Addr} {m : Nat} {xs ys : Array Value} {x y : Value} {elts : List Expr} {x1} {pos : Pos} {Q : Unit → Shared → Prop} (D : ZAp z p o i j a b) (Z : ZAt k l s.heap z p o i j a b m xs ys) (hx : xs[m]? = some x) (hy : ys[m]? = some y)
    (q : ∀ h', ZAt k l h' z p o i j a b (m + 1) xs ys → IsPair h' s.heap.objs.size x y → h'.objs.size = s.heap.objs.size + 1 → (∀ c u, c ≠ z → c ≠ o → c ≠ i → c ≠ j → s.heap.get? c = some u → h'.get? c = some u) → Q () { s with heap := h' }) :
    wpAny (model prog w) A (pyNext (.ref z)) (fun r s1 => ∃ u, r = some u ∧ u = .ref s.heap.objs.size ∧ wpAny (model prog w) A (letOwnedTupleGo (.Tuple elts x1 pos) (.ref z) u) Q E s1) E s := by
  obtain ⟨hz, hp, ⟨u, v, ho⟩, hi, hj, ha, hb⟩ := Z
  have hT : s.TypeIs (.ref z) "zip" := ⟨_, hz, rfl⟩
  unfold pyNext
  refine wpAny_bind (wpAny_attempt (wpAny_callSpecial?_slot (name := Str.ofString "__next__") hT F.slot_zip_next (wpAny_call_entry F.slot_zip_next hT F.entry_zip_next ?_ (F.args_zip_next_1 _))))
  refine wpAny_bind (m := field (.ref z) 2) (wpAny_field hz rfl (x := .bool false) rfl ?_)
  refine wpAny_bind (m := field (.ref z) 3) (wpAny_field hz rfl (x := .ref p) rfl ?_)
  refine wpAny_bind (wpAny_seqItems hp rfl ?_)
  refine wpAny_bind (m := Builtin.SmallTypes.ownedTupleIsFree (.ref z)) ?_
  unfold Builtin.SmallTypes.ownedTupleIsFree
  refine wpAny_bind (wpAny_field hz rfl (x := .none) rfl (wpAny_pure ?_))
  simp only [if_true]
  refine wpAny_bind (wpAny_rule (wpAny_bind (wpAny_field hz rfl (x := .ref o) rfl (wpAny_bind (wpAny_setField_rec hz (by simp) fun g1 z1 s1 => ?_)))))
  replace z1 : IsZip g1 z p o .ellipsis := z1
  refine wpAny_bind ?_
  simp only [List.zipIdx_cons, List.zipIdx_nil, List.forIn_cons, List.forIn_nil]
  refine wpAny_bind (wpAny_bind (wpAny_onRaise ?_))
  have k1 : ∀ c u, c ≠ z → s.heap.get? c = some u → g1.get? c = some u := fun c u n e => s1.extBut _ _ n e
  refine wpAny_bind (m := Builtin.SmallTypes.nextOf (.ref i)) (nxt_A (hi.keep fun u e => k1 _ u D.zi e) (ha.keep fun u e => k1 _ u D.az e) hx fun g2 i2 s2 => wpAny_pure ?_)
  have k2 : ∀ c u, c ≠ i → g1.get? c = some u → g2.get? c = some u := fun c u n e => s2.extBut _ _ n e
  have o2 : IsPair g2 o u v := k2 _ _ D.oi (k1 _ _ D.zo ho)
  refine wpAny_bind (wpAny_seqItems o2 rfl (wpAny_bind (wpAny_updateSeq_pair o2 fun g3 o3 s3 => wpAny_bind (wpAny_letGo (wpAny_pure ?_)))))
  replace o3 : IsPair g3 o x v := o3
  have k3 : ∀ c u, c ≠ o → g2.get? c = some u → g3.get? c = some u := fun c u n e => s3.extBut _ _ n e
  refine wpAny_bind (wpAny_bind (wpAny_onRaise ?_))
  refine wpAny_bind (m := Builtin.SmallTypes.nextOf (.ref j)) (nxt_A (hj.keep fun u e => k3 _ u D.oj.symm (k2 _ u D.ij.symm (k1 _ u D.zj e))) (hb.keep fun u e => k3 _ u D.bo (k2 _ u D.bi (k1 _ u D.bz e))) hy fun g4 j4 s4 => wpAny_pure ?_)
  have k4 : ∀ c u, c ≠ j → g3.get? c = some u → g4.get? c = some u := fun c u n e => s4.extBut _ _ n e
  have o4 : IsPair g4 o x v := k4 _ _ D.oj o3
  refine wpAny_bind (wpAny_seqItems o4 rfl (wpAny_bind (wpAny_updateSeq_pair o4 fun g5 o5 s5 => wpAny_bind (wpAny_letGo (wpAny_pure (wpAny_pure ?_))))))
  replace o5 : IsPair g5 o x y := o5
  have k5 : ∀ c u, c ≠ o → g4.get? c = some u → g5.get? c = some u := fun c u n e => s5.extBut _ _ n e
  refine wpAny_bind (wpAny_seqItems o5 rfl (wpAny_bind (wpAny_newTuple ?_)))
  have hsz : g5.objs.size = s.heap.objs.size := by rw [s5.1, s4.1, s3.1, s2.1, s1.1]
  have z5 : IsZip g5 z p o .ellipsis := k5 _ _ D.zo.symm (k4 _ _ D.zj.symm (k3 _ _ D.zo.symm (k2 _ _ D.zi.symm z1)))
  have kk : ∀ c u, c ≠ z → c ≠ o → c ≠ i → c ≠ j → s.heap.get? c = some u → g5.get? c = some u := fun c u n1 n2 n3 n4 e => k5 _ _ n2 (k4 _ _ n4 (k3 _ _ n2 (k2 _ _ n3 (k1 _ _ n1 e))))
  have i5 : ItA k g5 i a (m + 1) := i2.keep fun u e => k5 _ u D.oi.symm (k4 _ u D.ij (k3 _ u D.oi.symm e))
  have j5 : ItA l g5 j b (m + 1) := j4.keep fun u e => k5 _ u D.oj.symm e
  have lz := Heap.lt_size z5
  refine wpAny_bind (m := Builtin.SmallTypes.ownedTupleHandOut (.ref z) (.ref g5.objs.size)) ?_
  unfold Builtin.SmallTypes.ownedTupleHandOut
  have z6 : IsZip (g5.push { cls := .type "tuple", data := .seq #[x, y] }) z p o .ellipsis := Heap.get?_push_of_some _ z5
  refine wpAny_bind (wpAny_setField_rec z6 (by simp) fun g7 z7 s7 => ?_)
  replace z7 : IsZip g7 z p o (rawInt g5.objs.size) := z7
  refine wpAny_setField_rec z7 (by simp) fun g8 z8 s8 => ?_
  replace z8 : IsZip g8 z p o (rawInt g5.objs.size) := z8
  have k8 : ∀ c u, c ≠ z → g5.get? c = some u → g8.get? c = some u := fun c u n e => s8.extBut _ _ n (s7.extBut _ _ n (Heap.get?_push_of_some _ e))
  have t8 : IsPair g8 g5.objs.size x y := s8.extBut _ _ (Nat.ne_of_gt lz) (s7.extBut _ _ (Nat.ne_of_gt lz) (Heap.get?_push_size _ rfl))
  have n8 : g8.objs.size = g5.objs.size + 1 := by rw [s8.1, s7.1, Heap.size_push]
  rw [hsz] at z8 t8 n8
  refine wpAny_pure ⟨_, rfl, wpAny_pure ⟨_, rfl, congrArg Value.ref hsz, ?_⟩⟩
  show wpAny (model prog w) A (letOwnedTupleGo (.Tuple elts x1 pos) (.ref z) (.ref g5.objs.size)) Q E _
  rw [hsz]
  refine wpAny_letOwnedTupleGo_zip z8 fun g9 z9 s9 => ?_
  have k9 : ∀ c u, c ≠ z → g8.get? c = some u → g9.get? c = some u := fun c u n e => s9.extBut _ _ n e
  have up : ∀ c u, c ≠ z → g5.get? c = some u → g9.get? c = some u := fun c u n e => k9 _ _ n (k8 _ _ n e)
  refine q g9 ⟨z9, up _ _ D.zp (kk _ _ D.zp D.po D.pi D.pj hp), ⟨x, y, up _ _ D.zo o5⟩, i5.keep fun u e => up _ u D.zi e, j5.keep fun u e => up _ u D.zj e, ha.keep fun u e => up _ u D.az (kk _ _ D.az D.ao D.ai D.aj e), hb.keep fun u e => up _ u D.bz (kk _ _ D.bz D.bo D.bi D.bj e)⟩ ?_ ?_ fun c u n1 n2 n3 n4 e => up c u n1 (kk c u n1 n2 n3 n4 e)
  · exact k9 _ _ (by rw [← hsz]; exact Nat.ne_of_gt lz) t8
  · rw [s9.1, n8]
theorem zstop {k l : Bool} {z p o i j a b : Addr} {m : Nat} {xs ys : Array Value} {Q : Option Value → Shared → Prop} (a0 : A.handled = none) (D : ZAp z p o i j a b) (Z : ZAt k l s.heap z p o i j a b m xs ys) (hend : xs[m]? = none ∨ ys[m]? = none)
    (q : ∀ h', (∀ c u, c ≠ z → c ≠ o → c ≠ i → c ≠ j → s.heap.get? c = some u → h'.get? c = some u) → Q none { s with heap := h' }) : wpAny (model prog w) A (pyNext (.ref z)) Q E s := by
  obtain ⟨hz, hp, ⟨u, v, ho⟩, hi, hj, ha, hb⟩ := Z
  have hT : s.TypeIs (.ref z) "zip" := ⟨_, hz, rfl⟩
  unfold pyNext
  have fin : ∀ (g : Heap) (e : Addr), (∀ c u, c ≠ z → c ≠ o → c ≠ i → c ≠ j → s.heap.get? c = some u → g.get? c = some u) → (∃ o, g.get? e = some o ∧ o.cls = .type "StopIteration") →
      wpAny (model prog w) A (do if ← isInstance (.ref e) (.type "StopIteration") then pure (none : Option Value) else throw (.ref e)) Q E { s with heap := g } := fun g e kk ⟨oe, h1, h2⟩ =>
    wpAny_bind (wpAny_isInstance (T := "StopIteration") (b := true) ⟨oe, h1, h2⟩ isSubtype_stop (wpAny_pure (q _ kk)))
  refine wpAny_bind (wpAny_attempt (wpAny_callSpecial?_slot (name := Str.ofString "__next__") hT F.slot_zip_next (wpAny_call_entry F.slot_zip_next hT F.entry_zip_next ?_ (F.args_zip_next_1 _))))
  refine wpAny_bind (m := field (.ref z) 2) (wpAny_field hz rfl (x := .bool false) rfl ?_)
  refine wpAny_bind (m := field (.ref z) 3) (wpAny_field hz rfl (x := .ref p) rfl ?_)
  refine wpAny_bind (wpAny_seqItems hp rfl ?_)
  refine wpAny_bind (m := Builtin.SmallTypes.ownedTupleIsFree (.ref z)) ?_
  unfold Builtin.SmallTypes.ownedTupleIsFree
  refine wpAny_bind (wpAny_field hz rfl (x := .none) rfl (wpAny_pure ?_))
  simp only [if_true]
  refine wpAny_bind (wpAny_rule (wpAny_bind (wpAny_field hz rfl (x := .ref o) rfl (wpAny_bind (wpAny_setField_rec hz (by simp) fun g1 z1 s1 => ?_)))))
  replace z1 : IsZip g1 z p o .ellipsis := z1
  refine wpAny_bind ?_
  simp only [List.zipIdx_cons, List.zipIdx_nil, List.forIn_cons, List.forIn_nil]
  refine wpAny_bind (wpAny_bind (wpAny_onRaise ?_))
  have k1 : ∀ c u, c ≠ z → s.heap.get? c = some u → g1.get? c = some u := fun c u n e => s1.extBut _ _ n e
  have i1 := hi.keep fun u e => k1 _ u D.zi e
  have a1 := ha.keep fun u e => k1 _ u D.az e
  cases hx : xs[m]? with
  | none =>
    refine wpAny_bind (m := Builtin.SmallTypes.nextOf (.ref i)) (nxt_A_end a0 i1 a1 hx fun g2 e s2 he => ?_)
    obtain ⟨oe, hoe, hce⟩ := he
    have z2 : IsZip g2 z p o .ellipsis := s2 _ _ D.zi.symm z1
    have hez : e ≠ z := fun x => by subst x; rw [z2] at hoe; cases hoe; simp at hce
    exact wpAny_setField_rec z2 (by simp) fun g3 _ s3 => fin g3 e (fun c u n1 _ n3 _ x => s3.extBut _ _ n1 (s2 _ _ n3 (k1 _ _ n1 x))) ⟨oe, s3.extBut _ _ hez hoe, hce⟩
  | some x =>
    have hy : ys[m]? = none := by rcases hend with h | h; rw [hx] at h; cases h; exact h
    refine wpAny_bind (m := Builtin.SmallTypes.nextOf (.ref i)) (nxt_A i1 a1 hx fun g2 i2 s2 => wpAny_pure ?_)
    have k2 : ∀ c u, c ≠ i → g1.get? c = some u → g2.get? c = some u := fun c u n e => s2.extBut _ _ n e
    have o2 : IsPair g2 o u v := k2 _ _ D.oi (k1 _ _ D.zo ho)
    refine wpAny_bind (wpAny_seqItems o2 rfl (wpAny_bind (wpAny_updateSeq_pair o2 fun g3 o3 s3 => wpAny_bind (wpAny_letGo (wpAny_pure ?_)))))
    have k3 : ∀ c u, c ≠ o → g2.get? c = some u → g3.get? c = some u := fun c u n e => s3.extBut _ _ n e
    refine wpAny_bind (wpAny_bind (wpAny_onRaise ?_))
    refine wpAny_bind (m := Builtin.SmallTypes.nextOf (.ref j)) (nxt_A_end a0 (hj.keep fun u e => k3 _ u D.oj.symm (k2 _ u D.ij.symm (k1 _ u D.zj e))) (hb.keep fun u e => k3 _ u D.bo (k2 _ u D.bi (k1 _ u D.bz e))) hy fun g4 e s4 he => ?_)
    obtain ⟨oe, hoe, hce⟩ := he
    have z4 : IsZip g4 z p o .ellipsis := s4 _ _ D.zj.symm (k3 _ _ D.zo.symm (k2 _ _ D.zi.symm z1))
    have hez : e ≠ z := fun x => by subst x; rw [z4] at hoe; cases hoe; simp at hce
    exact wpAny_setField_rec z4 (by simp) fun g5 _ s5 => fin g5 e (fun c u n1 n2 n3 n4 x => s5.extBut _ _ n1 (s4 _ _ n4 (k3 _ _ n2 (k2 _ _ n3 (k1 _ _ n1 x))))) ⟨oe, s5.extBut _ _ hez hoe, hce⟩
/-! ### a zip object made -/
abbrev zh (k l : Bool) (h : Heap) (a b : Addr) : Heap := ((((h.push { cls := .type (if k then "list_iterator" else "tuple_iterator"), data := .fields #[.ref a, .int 0 0] }).push { cls := .type (if l then "list_iterator" else "tuple_iterator"), data := .fields #[.ref b, .int 0 0] }).push
  { cls := .type "tuple", data := .seq #[.ref h.objs.size, .ref (h.objs.size + 1)] }).push { cls := .type "tuple", data := .seq #[.none, .none] }).push { cls := .type "zip", data := .fields #[.none, .bool false, .bool false, .ref (h.objs.size + 2), .ref (h.objs.size + 3)] }
theorem zmeets (k l : Bool) (a b : Addr) (xs ys : Array Value) : Meets (Builtin.«zip.__new__» ⟨[.type "zip", .ref a, .ref b], []⟩) (fun _ R s => SqA k s.heap a xs ∧ SqA l s.heap b ys ∧ R (.ok (.ret (.ref (s.heap.objs.size + 4)))) { s with heap := zh k l s.heap a b }) :=
  .of_wp fun prog w A R s h => by
    obtain ⟨hp, g, d, tk, os⟩ := s; obtain ⟨a1, a2, h⟩ := h
    have hsub := sub_zip
    have b1 : SqA k (Shared.heap ⟨hp, g, d, tk, os⟩) a xs := a1
    have b2 : SqA l (Shared.heap ⟨hp.push { cls := .type (if k then "list_iterator" else "tuple_iterator"), data := .fields #[.ref a, .int 0 0] }, g, d, tk, os⟩) b ys := SqA.keep a2 fun o e => Heap.get?_push_of_some _ e
    wp_walk using iter_A b1, iter_A b2
    refine ⟨_, rfl, ?_⟩
    simp only [Heap.size_push]
    exact h
theorem zcall {k l : Bool} {a b : Addr} {xs ys : Array Value} {Q : Value → Shared → Prop} (a1 : SqA k s.heap a xs) (a2 : SqA l s.heap b ys)
    (h : ZAt k l (zh k l s.heap a b) (s.heap.objs.size + 4) (s.heap.objs.size + 2) (s.heap.objs.size + 3) s.heap.objs.size (s.heap.objs.size + 1) a b 0 xs ys → (∀ c o, s.heap.get? c = some o → (zh k l s.heap a b).get? c = some o) → Q (.ref (s.heap.objs.size + 4)) { s with heap := zh k l s.heap a b }) :
    wpAny (model prog w) A (call (.type "zip") [.ref a, .ref b]) Q E s := by
  refine callType_new F.called_zip (by decide) (F.typeCall_zip_2 _ _) (F.newCall_zip_2 _ _) (fun obj => F.args_object_init_3 obj _ _) F.entry_zip_new (zmeets k l a b xs ys) ⟨a1, a2, ?_⟩
  have up : ∀ c o, s.heap.get? c = some o → (zh k l s.heap a b).get? c = some o := fun c o e => Heap.get?_push_of_some _ (Heap.get?_push_of_some _ (Heap.get?_push_of_some _ (Heap.get?_push_of_some _ (Heap.get?_push_of_some _ e))))
  have sz : ∀ (h : Heap) (o : Obj) (n : Nat), h.objs.size = n → o.isFreed = false → (h.push o).get? n = some o := fun h o n e f => by rw [← e]; exact Heap.get?_push_size _ f
  have e4 : (zh k l s.heap a b).get? (s.heap.objs.size + 4) = some _ := sz _ _ _ (by simp only [Heap.size_push]) rfl
  have e3 : (zh k l s.heap a b).get? (s.heap.objs.size + 3) = some _ := Heap.get?_push_of_some _ (sz _ _ _ (by simp only [Heap.size_push]) rfl)
  have e2 : (zh k l s.heap a b).get? (s.heap.objs.size + 2) = some _ := Heap.get?_push_of_some _ (Heap.get?_push_of_some _ (sz _ _ _ (by simp only [Heap.size_push]) rfl))
  have e1 : (zh k l s.heap a b).get? (s.heap.objs.size + 1) = some _ := Heap.get?_push_of_some _ (Heap.get?_push_of_some _ (Heap.get?_push_of_some _ (sz _ _ _ (by simp only [Heap.size_push]) rfl)))
  have e0 : (zh k l s.heap a b).get? s.heap.objs.size = some _ := Heap.get?_push_of_some _ (Heap.get?_push_of_some _ (Heap.get?_push_of_some _ (Heap.get?_push_of_some _ (Heap.get?_push_size _ rfl))))
  have i0 : ItA k (zh k l s.heap a b) s.heap.objs.size a 0 := by
    cases k
    · exact ⟨_, e0, rfl, rfl⟩
    · exact ⟨_, e0, rfl, rfl⟩
  have i1 : ItA l (zh k l s.heap a b) (s.heap.objs.size + 1) b 0 := by
    cases l
    · exact ⟨_, e1, rfl, rfl⟩
    · exact ⟨_, e1, rfl, rfl⟩
  exact ⟨⟨_, e4, rfl⟩, h ⟨e4, e2, ⟨_, _, e3⟩, i0, i1, a1.keep fun o e => up _ o e, a2.keep fun o e => up _ o e⟩ up⟩
theorem ZAp.new {n a b : Nat} (h1 : a < n) (h2 : b < n) : ZAp (n + 4) (n + 2) (n + 3) n (n + 1) a b := by
  constructor <;> (intro e; have e : (_ : Nat) = _ := e; omega)
end

/-- several records of ours have turned -/
theorem turnedL {X : Cx} {pins : List (Addr × Obj)} {σ : L2.St} {H : Hp} {s : Shared} {h' : Heap} {t' : Nat} {fp : List Addr} (I : Inv X pins σ H s) (k : ∀ b o, b ∉ fp → s.heap.get? b = some o → h'.get? b = some o) (hf : ∀ b ∈ fp, FpOk X pins H b) :
    Inv X pins σ H { s with heap := h', toks := t' } := by
  have nit : ∀ b u, H b = some u → b ∉ fp := fun b u e z => by rw [(hf b z).1] at e; cases e
  refine I.step (g' := s.gens) (d' := s.drawn) (ch := fp) (fun b hb => ?_) (fun b o _ _ hc e _ => k b o hc e) (fun b o _ _ hc e _ => ⟨o.slots, k b o hc e⟩) (fun _ _ _ _ n => n)
    (fun b o hc e => ⟨o, k b o hc e⟩) (fun _ _ e => e) (fun _ _ _ e => e) (fun b ps e => ⟨#[], by rw [e]; simp⟩) (fun m hm => ?_) (fun b u e => ?_) I.bare
  · obtain ⟨f0, f1, f2, f3, f4, f5⟩ := hf b hb
    exact ⟨f3, f1, f4, f5⟩
  · obtain ⟨o, es, ep, ho, r⟩ := hm
    exact ⟨o, es, ep, k _ o (fun z => (hf _ z).2.1 rfl) ho, r⟩
  · refine (I.hok b u e).stay (fun c v hc q => k c v ?_ q) (fun _ q => q) fun _ _ q => q
    rcases hc with z | z
    · rw [z]; exact nit b u e
    · exact nit c _ z
def SqV (k : Bool) (K : PySem.W.Frag) (H : Hp) (a : Addr) (xs : List V) : Prop := match k with | true => SqL K H a xs | false => SqT K H a xs
theorem SqV.at {k : Bool} {X : Cx} {pins : List (Addr × Obj)} {σ : L2.St} {H : Hp} {s : Shared} {a : Addr} {xs : List V} (I : Inv X pins σ H s) (h : SqV k X.K H a xs) : ∃ its : List Value, Vals xs its ∧ SqA k s.heap a its.toArray := by
  cases k
  · obtain ⟨its, r, p, _⟩ := I.tuple h
    exact ⟨its, r, p⟩
  · obtain ⟨its, r, p, _⟩ := I.list h
    exact ⟨its, r, p.isList⟩
theorem SqV.inj {k : Bool} {X : Cx} {pins : List (Addr × Obj)} {σ : L2.St} {H : Hp} {s : Shared} {a : Addr} {xs ys : List V} (I : Inv X pins σ H s) (h : SqV k X.K H a xs) (h' : SqV k X.K H a ys) : xs = ys := by
  cases k
  · exact I.tuple_inj h h'
  · exact I.list_inj h h'
def Itz (K : PySem.W.Frag) (k l : Bool) (a b : Addr) : It :=
  ⟨fun i H => ∃ xs ys x y, SqV k K H a xs ∧ SqV l K H b ys ∧ xs[i]? = some x ∧ ys[i]? = some y,
   fun i H v H' => ∃ T x y, H T = none ∧ H' = upd H T (.tup [x, y]) ∧ v = .ref T ∧ (∀ xs, SqV k K H a xs → xs[i]? = some x) ∧ ∀ ys, SqV l K H b ys → ys[i]? = some y,
   fun i H => ∃ xs ys, SqV k K H a xs ∧ SqV l K H b ys ∧ (xs.length ≤ i ∨ ys.length ≤ i)⟩
structure ZI (k l : Bool) (h : Heap) (z p o i j a b : Addr) (m : Nat) : Prop where
  hz : IsZip h z p o .none
  hp : IsPair h p (.ref i) (.ref j)
  ho : ∃ u v, IsPair h o u v
  hi : ItA k h i a m
  hj : ItA l h j b m
theorem ZAt.zi {k l : Bool} {h : Heap} {z p o i j a b : Addr} {m : Nat} {xs ys : Array Value} (Z : ZAt k l h z p o i j a b m xs ys) : ZI k l h z p o i j a b m := ⟨Z.hz, Z.hp, Z.ho, Z.hi, Z.hj⟩
theorem turn_zip {P : Program} {w : World} {K : PySem.W.Frag} {elts : List Expr} {x1} {pos : Pos} {k l : Bool} {z p o i j a b : Addr} (D : ZAp z p o i j a b) :
    Turn P w K (.Tuple elts x1 pos) (Itz K k l a b) [z, p, o, i, j] z (fun m h => ZI k l h z p o i j a b m) where
  mem := by simp
  obj := fun m h Z c hc => by
    simp only [List.mem_cons, List.not_mem_nil, or_false] at hc
    rcases hc with rfl | rfl | rfl | rfl | rfl
    · exact ⟨_, Z.hz, fun v => nofun⟩
    · exact ⟨_, Z.hp, fun v => nofun⟩
    · obtain ⟨u, v, e⟩ := Z.ho
      exact ⟨_, e, fun v => nofun⟩
    · obtain ⟨q, e, _, d⟩ := Z.hi.obj
      exact ⟨q, e, fun v => by rw [d]; nofun⟩
    · obtain ⟨q, e, _, d⟩ := Z.hj.obj
      exact ⟨q, e, fun v => by rw [d]; nofun⟩
  keep := fun m h h' Z kk => ⟨kk _ (by simp) _ Z.hz, kk _ (by simp) _ Z.hp, (by obtain ⟨u, v, e⟩ := Z.ho; exact ⟨u, v, kk _ (by simp) _ e⟩), Z.hi.keep fun q e => kk _ (by simp) q e, Z.hj.keep fun q e => kk _ (by simp) q e⟩
  item := by
    intro X hP hw hK hc m pins s σ H E I hf Z hg
    subst hP hw hK
    obtain ⟨xs, ys, x, y, h1, h2, hx, hy⟩ := hg
    obtain ⟨is, r1, p1⟩ := SqV.at I h1
    obtain ⟨js, r2, p2⟩ := SqV.at I h2
    obtain ⟨u, hu, ru⟩ := r1.get hx
    obtain ⟨v, hv, rv⟩ := r2.get hy
    refine thn (znext (E := E) (Q := fun _ s2 => ∃ x H', Inv X pins σ H' s2 ∧ RelV x (.ref s.heap.objs.size) ∧ (Itz X.K k l a b).yld m H x H' ∧ ZI k l s2.heap z p o i j a b (m + 1) ∧ ∀ b ∈ [z, p, o, i, j], H' b = none) (elts := elts) (x1 := x1) (pos := pos) D ⟨Z.hz, Z.hp, Z.ho, Z.hi, Z.hj, p1, p2⟩ (x := u) (y := v) (by simpa using hu) (by simpa using hv) fun h' Z' t' n' kk => ?_) fun r s1 ⟨u', e1, e2, q⟩ => ⟨u', e1, by subst e2; exact q⟩
    have hfr : H s.heap.objs.size = none := I.hok.fresh (Nat.le_refl _)
    have I1 : Inv X pins σ (upd H s.heap.objs.size (.tup [x, y])) { s with heap := s.heap.push { cls := .type "tuple", data := .seq #[u, v] } } := I.laid (t' := s.toks) (fun b u e => Heap.get?_push_of_some _ e) (Nat.le_refl _) ⟨by show 2 ≤ sizeLine; decide, [u, v], .cons ru (.cons rv .nil), ⟨_, Heap.get?_push_size _ rfl, rfl, _, rfl⟩⟩
    have lt : ∀ c ∈ [z, p, o, i, j], c ≠ s.heap.objs.size := fun c hc => by
      have : ∃ q, s.heap.get? c = some q := by
        simp only [List.mem_cons, List.not_mem_nil, or_false] at hc
        rcases hc with rfl | rfl | rfl | rfl | rfl
        · exact ⟨_, Z.hz⟩
        · exact ⟨_, Z.hp⟩
        · obtain ⟨u, v, e⟩ := Z.ho; exact ⟨_, e⟩
        · obtain ⟨q, e, _⟩ := Z.hi.obj; exact ⟨q, e⟩
        · obtain ⟨q, e, _⟩ := Z.hj.obj; exact ⟨q, e⟩
      obtain ⟨q, e⟩ := this
      exact Nat.ne_of_lt (Heap.lt_size e)
    have fr : ∀ c ∈ [z, p, o, i, j], upd H s.heap.objs.size (.tup [x, y]) c = none := fun c hc => by rw [upd_ne (lt c hc)]; exact (hf c hc).1
    have I2 : Inv X pins σ (upd H s.heap.objs.size (.tup [x, y])) { s with heap := h' } := turnedL (s := { s with heap := s.heap.push { cls := .type "tuple", data := .seq #[u, v] } }) (t' := s.toks) (fp := [z, p, o, i, j]) I1 (fun c q hc e => ?_) fun c hc => ⟨fr c hc, (hf c hc).2⟩
    · exact ⟨.ref s.heap.objs.size, _, I2, rfl, ⟨_, x, y, hfr, rfl, rfl, fun zs hz => by rw [SqV.inj I hz h1]; exact hx, fun zs hz => by rw [SqV.inj I hz h2]; exact hy⟩, Z'.zi, fr⟩
    · rcases Heap.get?_push_cases e with ⟨rfl, rfl⟩ | e
      · exact t'
      · exact kk c q (fun z => hc (by simp [z])) (fun z => hc (by simp [z])) (fun z => hc (by simp [z])) (fun z => hc (by simp [z])) e
  done := by
    intro X hP hw hK hc m pins s σ H E I hf Z hg
    subst hP hw hK
    obtain ⟨xs, ys, h1, h2, hl⟩ := hg
    obtain ⟨is, r1, p1⟩ := SqV.at I h1
    obtain ⟨js, r2, p2⟩ := SqV.at I h2
    have l1 := r1.length
    have l2 := r2.length
    refine zstop (I.ok.hd hc) D ⟨Z.hz, Z.hp, Z.ho, Z.hi, Z.hj, p1, p2⟩ (hl.imp (fun h => by simp; omega) fun h => by simp; omega) fun h' kk => ⟨rfl, turnedL (t' := s.toks) (fp := [z, p, o, i, j]) I (fun c q hc e => ?_) hf⟩
    exact kk c q (fun z => hc (by simp [z])) (fun z => hc (by simp [z])) (fun z => hc (by simp [z])) (fun z => hc (by simp [z])) e
  self := fun _ _ _ _ _ Z h => wpAny_pyIter_zip Z.hz h
section
variable {X : Cx}
def iZip (K : PySem.W.Frag) (k l : Bool) (ta : TA) : TI := fun σ H R => ta σ H fun vs H1 => ∃ a b, vs = [.ref a, .ref b] ∧ (∃ xs, SqV k K H1 a xs) ∧ (∃ ys, SqV l K H1 b ys) ∧ R (Itz K k l a b) H1
theorem pi_zip {k l : Bool} {a b : Expr} {ta : TA} {p pos : Pos} {elts : List Expr} {x1} {pos' : Pos} (hg : Gl X "zip") (hm : X.mg "zip" = none) (ha : PA X [a, b] ta) (hs : starEach [a, b] X.env = [(false, eval a X.env), (false, eval b X.env)] := by rfl) (hs2 : starEach [b] X.env = [(false, eval b X.env)] := by rfl) :
    PI X (.Tuple elts x1 pos') (.Call (.Name "zip" p) [a, b] [] pos) (iZip X.K k l ta) := by
  intro pins s σ H R I h
  refine Call_ (ld_blt I hg hm boot_zip (PyProof.Rows.callWith_type1 (thn (ha pos pins s σ H _ I h) fun us s1 ⟨vs, H1, I1, r1, q1⟩ => ?_) (by rw [hs, hs2]) (by rw [hs2]; rfl)))
  obtain ⟨c, d, e, ⟨xs, hx⟩, ⟨ys, hy⟩, q⟩ := q1
  subst e
  cases r1 with
  | cons r rr =>
    cases rr with
    | cons r' rr =>
      cases rr
      cases r
      cases r'
      obtain ⟨is, _, p1⟩ := SqV.at I1 hx
      obtain ⟨js, _, p2⟩ := SqV.at I1 hy
      refine zcall p1 p2 fun Z up => wpAny_pyIter_zip Z.hz ?_
      have lt : ∀ {k : Bool} {c : Addr} {zs : Array Value}, SqA k s1.heap c zs → c < s1.heap.objs.size := fun h => let ⟨_, e, _⟩ := h.there; Heap.lt_size e
      refine ⟨_, _, _, _, H1, rfl, I1.kept (t' := s1.toks) up, turn_zip (ZAp.new (lt p1) (lt p2)), Z.zi, fun b hb => ?_, q⟩
      have hb : s1.heap.objs.size ≤ b := by
        simp only [List.mem_cons, List.not_mem_nil, or_false] at hb
        rcases hb with rfl | rfl | rfl | rfl | rfl
        · exact Nat.le_add_right ..
        · exact Nat.le_add_right ..
        · exact Nat.le_add_right ..
        · exact Nat.le_refl _
        · exact Nat.le_add_right ..
      exact I1.fpOk hb (I1.hok.fresh hb)
end
/-! ### the data of it -/
def sq (k : Bool) (xs : List D) : D := match k with | true => .lst xs | false => .tup xs
def zipD (xs ys : List D) : List D := List.zipWith (fun x y => D.tup [x, y]) xs ys
def dcZip (k l : Bool) (t : TDA) : TDC := fun δ R => t δ fun ds δ1 => ∃ xs ys, ds = [sq k xs, sq l ys] ∧ R (zipD xs ys) δ1
section
variable {X : Cx} {ta : TDA}
theorem rep_sq {k : Bool} {K : PySem.W.Frag} {M : Addr → Prop} {H : Hp} {xs : List D} {v : V} (h : Rep K M H (sq k xs) v) : ∃ a vs, v = .ref a ∧ SqV k K H a vs ∧ Reps K M H xs vs := by
  cases k
  · unfold sq Rep at h
    exact h
  · unfold sq Rep at h
    obtain ⟨a, vs, e, _, l, r⟩ := h
    exact ⟨a, vs, e, SqL.of l, r⟩
theorem ci_zip (k l : Bool) {a b : Expr} {p pos : Pos} {elts : List Expr} {x1} {pos' : Pos} (hg : Gl X "zip") (hm : X.mg "zip" = none) (ha : DA X [a, b] ta) (hs : starEach [a, b] X.env = [(false, eval a X.env), (false, eval b X.env)] := by rfl) (hs2 : starEach [b] X.env = [(false, eval b X.env)] := by rfl) :
    CI X (.Tuple elts x1 pos') (.Call (.Name "zip" p) [a, b] [] pos) (dcZip k l ta) :=
  ⟨_, pi_zip (k := k) (l := l) hg hm ha hs hs2, fun G δ P σ H R Q s hs kk => ⟨G, δ, P, _, s, hs, fun ds δ1 h1 vs H1 hl s1 => by
    obtain ⟨xs, ys, e, r⟩ := h1
    subst e
    match vs, hl with
    | [v, w], _ =>
      have s2 : S X.K G δ1 ((sq k xs, v) :: (sq l ys, w) :: P) σ H1 := s1
      have at1 : ∀ A δ σ H, Sx X.K G A δ ((sq k xs, v) :: (sq l ys, w) :: P) σ H → ∃ a vs, v = .ref a ∧ SqV k X.K H a vs ∧ Reps X.K (fun b => G.M0 b ∨ A b) H xs vs := fun A δ σ H x => rep_sq (x.pnd (sq k xs, v) (by simp))
      have at2 : ∀ A δ σ H, Sx X.K G A δ ((sq k xs, v) :: (sq l ys, w) :: P) σ H → ∃ a vs, w = .ref a ∧ SqV l X.K H a vs ∧ Reps X.K (fun b => G.M0 b ∨ A b) H ys vs := fun A δ σ H x => rep_sq (x.pnd (sq l ys, w) (by simp))
      obtain ⟨A1, x1⟩ := id s2
      obtain ⟨a, vs0, rfl, l0, _⟩ := at1 _ _ _ _ x1
      obtain ⟨b, ws0, rfl, m0, _⟩ := at2 _ _ _ _ x1
      have hlen : (zipD xs ys).length = min xs.length ys.length := by unfold zipD; rw [List.length_zipWith]
      refine ⟨a, b, rfl, ⟨vs0, l0⟩, ⟨ws0, m0⟩, kk _ δ1 r _ _ H1 (fun q hq => by simp [hq]) s2 (fun A δ σ i H x hi => ?_) (fun A δ σ H x => ?_) fun A δ σ i y H H2 x hi hy => ?_⟩
      · obtain ⟨_, vs, e, l, r⟩ := at1 _ _ _ _ x
        cases e
        obtain ⟨_, ws, e, l2, r2⟩ := at2 _ _ _ _ x
        cases e
        obtain ⟨v', hv, _⟩ := Reps.get _ _ r i (xs[i]'(by omega)) (by simp)
        obtain ⟨w', hw, _⟩ := Reps.get _ _ r2 i (ys[i]'(by omega)) (by simp)
        exact ⟨vs, ws, v', w', l, l2, hv, hw⟩
      · obtain ⟨_, vs, e, l, r⟩ := at1 _ _ _ _ x
        cases e
        obtain ⟨_, ws, e, l2, r2⟩ := at2 _ _ _ _ x
        cases e
        have := Reps.length _ _ r
        have := Reps.length _ _ r2
        exact ⟨vs, ws, l, l2, by omega⟩
      · obtain ⟨_, vs, e, l, r⟩ := at1 _ _ _ _ x
        cases e
        obtain ⟨_, ws, e, l2, r2⟩ := at2 _ _ _ _ x
        cases e
        obtain ⟨T, x', y', hT, rfl, rfl, hx, hy⟩ := hy
        have hi1 : i < xs.length := by omega
        have hi2 : i < ys.length := by omega
        obtain ⟨v', hv, rv⟩ := Reps.get _ _ r i xs[i] (by simp [hi1])
        obtain ⟨w', hw, rw'⟩ := Reps.get _ _ r2 i ys[i] (by simp [hi2])
        have e1 := hx vs l
        have e2 := hy ws l2
        rw [hv] at e1
        rw [hw] at e2
        have e1 := Option.some.inj e1
        have e2 := Option.some.inj e2
        rw [e1] at rv
        rw [e2] at rw'
        have sm : Same H (upd H T (.tup [x', y'])) := same_new hT _
        refine ⟨sm, .tup [xs[i], ys[i]], ?_, ?_⟩
        · unfold zipD
          rw [List.getElem?_zipWith, List.getElem?_eq_getElem hi1, List.getElem?_eq_getElem hi2]
        · unfold Rep
          exact ⟨T, [x', y'], rfl, .inl (.inl upd_same), Reps.cons (Rep.kp (Kp.of_same sm) _ _ rv) (Reps.one (Rep.kp (Kp.of_same sm) _ _ rw'))⟩⟩⟩
end
/-! ### for, over any source of a comprehension -/
def dFor (src : TDC) (g : TDG) (tb : TDS) : TDS := fun R δ => src δ fun xs δ1 => ∃ I : Nat → En → Prop, I 0 δ1 ∧
  (∀ i x δ', xs[i]? = some x → I i δ' → g x δ' fun δ2 => tb { R with nx := I (i + 1), ct := I (i + 1), bk := R.nx } δ2) ∧ ∀ δ', I xs.length δ' → R.nx δ'
theorem ds_for {X : Cx} {pos : Pos} {tg e : Expr} {src : TDC} {g : TDG} {t : TDS} {body : List Stmt} (hp : PassesOwn (model X.prog X.w) X.A X.env X.xe) (hc : X.calm = true) (hi : CI X tg e src) (hg : DG X tg g) (hb : DSs X body t) (hs : ∀ x, foldedSetIterable e X.env x = pure x := by intro _; rfl) :
    DS X (.For tg e body [] pos) (dFor src g t) := by
  obtain ⟨wi, hi, hw⟩ := hi
  refine PS.imp (ps_for hp hc hi hg hb hs) fun E σ H ⟨G, δ, P, R, s, h, k1, k2, k3, k4⟩ => ?_
  refine hw G δ P σ H _ _ s h fun xs δ1 ⟨I, i0, turn, fin⟩ J P1 H1 hP s1 hgo hst hyl => ?_
  refine ⟨fun i m σ H => m = xs.length - i ∧ i ≤ xs.length ∧ ∃ δ, I i δ ∧ S X.K G δ P1 σ H, ⟨xs.length, by simp, Nat.zero_le _, δ1, i0, s1⟩, ?_⟩
  rintro i m σ H ⟨rfl, hi, δ', ii, s'⟩
  obtain ⟨A, x⟩ := id s'
  by_cases hlt : i < xs.length
  · refine .inr ⟨hgo A _ _ i H x hlt, fun σ' H' => ∃ δ', I (i + 1) δ' ∧ S X.K G δ' P1 σ' H', fun σ' H' ⟨δ', p', s'⟩ => ⟨xs.length - (i + 1), by omega, rfl, hlt, δ', p', s'⟩, fun y H' hy => ?_⟩
    obtain ⟨sm, d, hd, rd⟩ := hyl A _ _ i y H H' x hlt hy
    refine ⟨G, δ', P1, d, _, ⟨A, (x.same sm).push rd⟩, turn i d δ' hd ii, fun δ2 h2 σ2 H2 s2 => ?_⟩
    refine ⟨G, δ2, P1, _, s2, h2, fun δ3 h3 σ3 H3 s3 => ⟨δ3, h3, s3⟩, ⟨fun d δ3 h3 v3 σ3 H3 s3 => k2.1 d δ3 h3 v3 σ3 H3 (s3.sub fun p hp => ?_), k2.2⟩, fun δ3 h3 σ3 H3 s3 => k1 δ3 h3 σ3 H3 (s3.sub fun p hp => hP p hp), fun δ3 h3 σ3 H3 s3 => ⟨δ3, h3, s3⟩⟩
    rcases List.mem_cons.mp hp with rfl | hp
    · simp
    · simp [hP p hp]
  · have e : i = xs.length := by omega
    subst e
    exact .inl ⟨hst A _ _ H x, k1 δ' (fin δ' ii) σ H (s'.sub fun p hp => hP p hp)⟩
end DL

namespace DL
open PySem PySem.Spec PyProof.Rows L2
section
variable {X : Cx}
/-! ### sum of whole numbers, min of two -/
def fSum : List D → (D → Prop) → Prop
  | [.lst ds], R => ∃ ns : List Int, ds = ns.map D.int ∧ R (.int ns.sum)
  | _, _ => False
theorem fSum_lst {ds : List D} {R : D → Prop} : fSum [.lst ds] R ↔ ∃ ns : List Int, ds = ns.map D.int ∧ R (.int ns.sum) := Iff.rfl
def fMin : List D → (D → Prop) → Prop
  | [.int i, .int j], R => R (.int (min i j))
  | _, _ => False
theorem fMin_two {i j : Int} {R : D → Prop} : fMin [.int i, .int j] R ↔ R (.int (min i j)) := Iff.rfl
theorem c_sum (hc : X.calm = true) : CallR X (.builtin "sum") (pureR X.K fSum) := by
  intro pins s σ H xs us Q I rv h
  obtain ⟨M, ds, R, m, rs, h, k⟩ := h
  unfold fSum at h
  split at h
  · obtain ⟨ns, rfl, h⟩ := h
    obtain ⟨x, rfl, q⟩ := reps_one rs
    unfold Rep at q
    obtain ⟨a, vs, rfl, _, e, r⟩ := q
    obtain ⟨u, rfl, ru⟩ := vals1 rv
    cases ru
    cases reps_ints r
    obtain ⟨its, rv2, pl, _⟩ := I.list (SqL.of e)
    have hi := intsAre_of rv2
    obtain ⟨ys, ey⟩ := hi.allInts.items
    have hn : ys.toList.map (·.1) = ns := by
      have e1 := nums_intItems ys
      rw [← ey] at e1
      exact e1.symm.trans hi.numsOf
    have hl := pl.isList
    rw [ey] at hl
    refine sum_intListG (I.ok.hd hc) hl fun h' tk t' hk => ?_
    refine ⟨.int ns.sum, H, I.kept (t' := tk) hk, ⟨t', ?_⟩, k _ h _ H (Same.refl H) (Rep.sc rfl)⟩
    rw [preSum_eq, List.take_of_length_le (by simp), hn]
  · exact h.elim
theorem c_min (hc : X.calm = true) : CallR X (.builtin "min") (pureR X.K fMin) := by
  intro pins s σ H xs us Q I rv h
  obtain ⟨M, ds, R, m, rs, h, k⟩ := h
  unfold fMin at h
  split at h
  · rename_i i j
    refine call_min2 hc pins s σ H xs us Q I rv ?_
    obtain ⟨x, y, rfl, h1, h2⟩ := reps_two rs
    refine ⟨i, j, by rw [rep_int h1, rep_int h2], k _ h _ H (Same.refl H) ?_⟩
    unfold Rep
    congr 1
    by_cases z : j < i
    · rw [if_pos z]; omega
    · rw [if_neg z]; omega
  · exact h.elim
/-! ### d.get(k, x), the dict being the frame's own -/
def dGetO (i : Nat) (tk tx : TDE) : TDE := fun δ R => ∃ a ks ds, δ[i]? = some (.own a (.dct ks ds)) ∧ tk δ (wd fun z δ1 => tx δ1 (wd fun x δ2 => ∃ ks ds y, δ2[i]? = some (.own a (.dct ks ds)) ∧ z = .str y ∧ R (.d ((dAt ks ds y).getD x)) δ2))
variable {e f : Expr} {ta tb : TDE} {pos : Pos}
theorem de_getO (i : Nat) {y : Str} {p apos cpos : Pos} (hu : X.A.units + 64 < cLine) (he : DE X e ta) (hf : DE X f tb) (hN : X.N[i]? = some y := by rfl) (hv : Vis X.env.scope y := by first | exact Or.inl rfl | exact Or.inr (Or.inl rfl) | exact Or.inr (Or.inr rfl))
    (hd : (y == ("__debug__" : Str)) = false := by decide) (hcd : (y == ("__classdict__" : Str)) = false := by decide) (m : M2 X (.Name y p) "get" apos e f cpos := by exact ⟨rfl, rfl, rfl, rfl⟩) :
    DE X (.Call (.Attribute (.Name y p) "get" apos) [e, f] [] cpos) (dGetO i ta tb) :=
  PE.imp (pe_dget2 (by omega) (pe_var hN hv hd hcd) he hf m) fun σ H Q ⟨G, δ, P, R, s, ⟨a, ks0, ds0, hi0, h1⟩, k, _⟩ => ⟨.ref a, s.own hi0, a, rfl, by
    obtain ⟨A, q⟩ := id s
    obtain ⟨_, aa, vs, hvs, l, rs⟩ := q.own i a _ hi0
    exact .inl ⟨_, .inl hvs⟩, up.mk s h1 fun z δ1 h2 v H1 s1 => up.mk s1 h2 fun x δ2 ⟨ks, ds, y, hi, ez, r⟩ w H2 ⟨A, q⟩ => by
      subst ez
      obtain ⟨_, aa, vs, hvs, l, rs⟩ := q.own i a _ hi
      have p2 : v = .str y := rep_str (q.pnd (.str y, v) (by simp))
      have g := DGet.k (k := Sum.inr y) hvs
      rw [val_keys] at g
      refine ⟨_, by rw [p2]; exact g, ?_⟩
      cases ed : dAt ks ds y with
      | some d =>
        obtain ⟨w', hw, rw'⟩ := (Reps.dAt y ks ds vs rs).1 d ed
        rw [ed] at r
        rw [hw]
        exact k d δ2 r w' H2 ⟨A, (q.sub (P' := P) fun p hp => by simp [hp]).push rw'⟩
      | none =>
        have hw := (Reps.dAt y ks ds vs rs).2 ed
        rw [ed] at r
        rw [hw]
        exact k x δ2 r w H2 ⟨A, q.sub fun p hp => by
          rcases List.mem_cons.mp hp with rfl | hp
          · simp
          · simp [hp]⟩⟩
end
end DL
namespace DL
open PySem PyProof.Rows
theorem b_sum : bootBuiltins "sum" = some (.builtin "sum") := by decide +kernel
end DL

namespace DL
open PySem PySem.Spec PyProof.Rows L2
/-! ### the order of texts: a sorted list without doubles is the only one of its members -/
theorem lt_cons {x y : Nat} {r t : List Nat} : ltCps (x :: r) (y :: t) = if x < y then true else if y < x then false else ltCps r t := by
  show (decide (x < y) || (x == y && ltCps r t)) = _
  rcases Nat.lt_trichotomy x y with h | h | h
  · rw [if_pos h, decide_eq_true h]; rfl
  · subst h
    rw [if_neg (Nat.lt_irrefl x), if_neg (Nat.lt_irrefl x)]
    simp
  · rw [if_neg (Nat.lt_asymm h), if_pos h, decide_eq_false (Nat.lt_asymm h)]
    have : (x == y) = false := by simp; omega
    rw [this]; rfl
theorem ltCps_eq : ∀ {a b : List Nat}, ltCps a b = false → ltCps b a = false → a = b
  | [], [], _, _ => rfl
  | [], y :: s, h, _ => by simp [ltCps] at h
  | x :: r, [], _, h => by simp [ltCps] at h
  | x :: r, y :: s, h1, h2 => by
    rw [lt_cons] at h1 h2
    rcases Nat.lt_trichotomy x y with h | h | h
    · rw [if_pos h] at h1; cases h1
    · subst h
      rw [if_neg (Nat.lt_irrefl x), if_neg (Nat.lt_irrefl x)] at h1 h2
      rw [ltCps_eq h1 h2]
    · rw [if_pos h] at h2; cases h2
theorem leCps_trans : ∀ {a b c : List Nat}, ltCps b a = false → ltCps c b = false → ltCps c a = false
  | [], b, c, _, _ => by cases c <;> rfl
  | x :: r, [], c, h, _ => by simp [ltCps] at h
  | x :: r, y :: s, [], _, h => by simp [ltCps] at h
  | x :: r, y :: s, z :: t, h1, h2 => by
    rw [lt_cons] at h1 h2 ⊢
    rcases Nat.lt_trichotomy y x with h | h | h
    · rw [if_pos h] at h1; cases h1
    · subst h
      rw [if_neg (Nat.lt_irrefl y), if_neg (Nat.lt_irrefl y)] at h1
      rcases Nat.lt_trichotomy z y with g | g | g
      · rw [if_pos g] at h2; cases h2
      · subst g
        rw [if_neg (Nat.lt_irrefl z), if_neg (Nat.lt_irrefl z)] at h2 ⊢
        exact leCps_trans h1 h2
      · rw [if_neg (Nat.lt_asymm g), if_pos g]
    · rcases Nat.lt_trichotomy z y with g | g | g
      · rw [if_pos g] at h2; cases h2
      · subst g
        rw [if_neg (Nat.lt_asymm h), if_pos h]
      · have : x < z := Nat.lt_trans h g
        rw [if_neg (Nat.lt_asymm this), if_pos this]
def leS (a b : Str) : Prop := ltCps b.cps.toList a.cps.toList = false
theorem leS_eq {a b : Str} (h1 : leS a b) (h2 : leS b a) : a = b := by
  have := ltCps_eq h2 h1
  cases a; cases b
  simp only [Str.mk.injEq] at *
  exact Array.toList_inj.mp this
theorem srt_pw : ∀ {ss : List Str}, Srt ss → ss.Pairwise leS
  | [], _ => .nil
  | x :: r, h => by
    have h : risingS x r = true := h
    have key : ∀ (r : List Str) (x : Str), risingS x r = true → (∀ y ∈ r, leS x y) ∧ r.Pairwise leS := by
      intro r
      induction r with
      | nil => intro x _; exact ⟨fun y hy => (nomatch hy), .nil⟩
      | cons y r ih =>
        intro x h
        unfold risingS at h
        obtain ⟨h1, h2⟩ := Bool.and_eq_true_iff.mp h
        have h1 : leS x y := by unfold leS; cases q : ltCps y.cps.toList x.cps.toList with
          | false => rfl
          | true => rw [q] at h1; cases h1
        obtain ⟨i1, i2⟩ := ih y h2
        refine ⟨fun z hz => ?_, .cons i1 i2⟩
        rcases List.mem_cons.mp hz with rfl | hz
        · exact h1
        · exact leCps_trans h1 (i1 z hz)
    obtain ⟨k1, k2⟩ := key r x h
    exact .cons k1 k2
theorem pw_uniq : ∀ {as bs : List Str}, as.Pairwise leS → bs.Pairwise leS → as.Nodup → bs.Nodup → (∀ x, x ∈ as ↔ x ∈ bs) → as = bs
  | [], [], _, _, _, _, _ => rfl
  | [], b :: bs, _, _, _, _, h => by have := (h b).mpr (List.mem_cons_self ..); cases this
  | a :: as, [], _, _, _, _, h => by have := (h a).mp (List.mem_cons_self ..); cases this
  | a :: as, b :: bs, pa, pb, na, nb, h => by
    cases pa with
    | cons pa1 pa2 =>
      cases pb with
      | cons pb1 pb2 =>
        have e : a = b := by
          rcases List.mem_cons.mp ((h a).mp (List.mem_cons_self ..)) with e | ha
          · exact e
          · rcases List.mem_cons.mp ((h b).mpr (List.mem_cons_self ..)) with e | hb
            · exact e.symm
            · exact leS_eq (pa1 b hb) (pb1 a ha)
        subst e
        obtain ⟨n1, n2⟩ := List.nodup_cons.mp na
        obtain ⟨n3, n4⟩ := List.nodup_cons.mp nb
        rw [pw_uniq pa2 pb2 n2 n4 fun x => ⟨fun hx => ?_, fun hx => ?_⟩]
        · rcases List.mem_cons.mp ((h x).mp (List.mem_cons_of_mem _ hx)) with e | hx'
          · exact absurd (e ▸ hx) n1
          · exact hx'
        · rcases List.mem_cons.mp ((h x).mpr (List.mem_cons_of_mem _ hx)) with e | hx'
          · exact absurd (e ▸ hx) n3
          · exact hx'
end DL

namespace Mf
/-- the greatest common divisor, a whole number -/
def gc (a b : Int) : Int := (Int.gcd a b : Nat)
theorem gc_pos (a : Int) {b : Int} (h : b ≠ 0) : 0 < gc a b := by
  unfold gc
  have := Int.gcd_pos_of_ne_zero_right a h
  omega
theorem gc_dvd_left (a b : Int) : gc a b ∣ a := Int.gcd_dvd_left a b
theorem gc_dvd_right (a b : Int) : gc a b ∣ b := Int.gcd_dvd_right a b
/-- a fraction in lowest terms -/
structure Low (p q : Int) : Prop where
  pos : 0 < q
  cop : gc p q = 1
theorem Low.cop' {p q : Int} (h : Low p q) : Int.gcd p q = 1 := by have := h.cop; unfold gc at this; omega
theorem Low.ne {p q : Int} (h : Low p q) : q ≠ 0 := by have := h.pos; omega
/-- two in lowest terms that are crosswise the same are the same -/
theorem Low.uniq {p q p' q' : Int} (h : Low p q) (h' : Low p' q') (e : p * q' = p' * q) : p = p' ∧ q = q' := by
  have d1 : q ∣ q' := by
    have : q ∣ p * q' := ⟨p', by rw [e, Int.mul_comm]⟩
    have g : Int.gcd q p = 1 := by rw [Int.gcd_comm]; exact h.cop'
    have k := (Int.dvd_gcd_mul_iff_dvd_mul (k := q) (n := p) (m := q')).mpr this
    rw [g] at k
    simpa using k
  have d2 : q' ∣ q := by
    have : q' ∣ p' * q := ⟨p, by rw [← e, Int.mul_comm]⟩
    have g : Int.gcd q' p' = 1 := by rw [Int.gcd_comm]; exact h'.cop'
    have k := (Int.dvd_gcd_mul_iff_dvd_mul (k := q') (n := p') (m := q)).mpr this
    rw [g] at k
    simpa using k
  have eq : q = q' := by
    have a1 := Int.le_of_dvd h'.pos d1
    have a2 := Int.le_of_dvd h.pos d2
    omega
  subst eq
  exact ⟨Int.eq_of_mul_eq_mul_right h.ne e, rfl⟩
/-- what made tells -/
def dv (t b : Int) : Int := if b < 0 then -(gc t b) else gc t b
def mkT (t b : Int) : Int := t.fdiv (dv t b)
def mkB (t b : Int) : Int := b.fdiv (dv t b)
theorem dv_ne (t : Int) {b : Int} (h : b ≠ 0) : dv t b ≠ 0 := by
  have := gc_pos t h
  unfold dv
  split <;> omega
theorem dv_dvd_left (t b : Int) : dv t b ∣ t := by
  unfold dv
  split
  · exact (Int.neg_dvd).mpr (gc_dvd_left t b)
  · exact gc_dvd_left t b
theorem dv_dvd_right (t b : Int) : dv t b ∣ b := by
  unfold dv
  split
  · exact (Int.neg_dvd).mpr (gc_dvd_right t b)
  · exact gc_dvd_right t b
theorem mkT_mul (t b : Int) : mkT t b * dv t b = t := Int.fdiv_mul_cancel (dv_dvd_left t b)
theorem mkB_mul (t b : Int) : mkB t b * dv t b = b := Int.fdiv_mul_cancel (dv_dvd_right t b)
theorem dv_natAbs (t b : Int) : (dv t b).natAbs = Int.gcd t b := by
  unfold dv gc
  split <;> omega
theorem mk_low (t : Int) {b : Int} (h : b ≠ 0) : Low (mkT t b) (mkB t b) := by
  have e1 := mkT_mul t b
  have e2 := mkB_mul t b
  have hd := dv_ne t h
  constructor
  · unfold dv at e2 hd
    have gp := gc_pos t h
    by_cases hb : b < 0
    · rw [if_pos hb] at e2
      have : mkB t b * gc t b = -b := by rw [Int.mul_neg] at e2; omega
      exact Int.pos_of_mul_pos_left (by omega) gp |> fun z => z
    · rw [if_neg hb] at e2
      exact Int.pos_of_mul_pos_left (by omega) gp |> fun z => z
  · have g : Int.gcd (mkT t b * dv t b) (mkB t b * dv t b) = Int.gcd (mkT t b) (mkB t b) * (dv t b).natAbs := Int.gcd_mul_right _ _ _
    rw [e1, e2, dv_natAbs] at g
    have gp := Int.gcd_pos_of_ne_zero_right t h
    unfold gc
    have : Int.gcd (mkT t b) (mkB t b) = 1 := by
      have g2 : 1 * Int.gcd t b = Int.gcd (mkT t b) (mkB t b) * Int.gcd t b := by rw [Nat.one_mul]; exact g
      exact (Nat.eq_of_mul_eq_mul_right gp g2).symm
    omega
theorem mk_cross (t b : Int) : mkT t b * b = t * mkB t b := by
  have e1 := mkT_mul t b
  have e2 := mkB_mul t b
  calc mkT t b * b = mkT t b * (mkB t b * dv t b) := by rw [e2]
    _ = (mkT t b * dv t b) * mkB t b := by rw [Int.mul_assoc, Int.mul_comm (mkB t b)]
    _ = t * mkB t b := by rw [e1]
theorem mk_uniq {t b p q : Int} (hb : b ≠ 0) (h : Low p q) (e : p * b = t * q) : mkT t b = p ∧ mkB t b = q := by
  refine (mk_low t hb).uniq h ?_
  have c := mk_cross t b
  refine Int.eq_of_mul_eq_mul_right hb ?_
  calc mkT t b * q * b = mkT t b * b * q := by rw [Int.mul_assoc, Int.mul_comm q, ← Int.mul_assoc]
    _ = t * mkB t b * q := by rw [c]
    _ = (t * q) * mkB t b := by rw [Int.mul_assoc, Int.mul_comm (mkB t b), ← Int.mul_assoc]
    _ = p * b * mkB t b := by rw [e]
    _ = p * mkB t b * b := by rw [Int.mul_assoc, Int.mul_comm b, ← Int.mul_assoc]
theorem Low.self {p q : Int} (h : Low p q) : mkT p q = p ∧ mkB p q = q := mk_uniq h.ne h rfl
end Mf

namespace Mf
open PySem L2 DL
/-- the product of the bottoms -/
def bot (q : Str → Int) : List Str → Int
  | [] => 1
  | n :: r => q n * bot q r
/-- the sum of weights times what a name stands for -/
def sumT (f : Str → Int) : List (Str × Int) → Int
  | [] => 0
  | t :: r => t.2 * f t.1 + sumT f r
/-- what a name stands for over the bottom B -/
def ov (p q : Str → Int) (B : Int) (n : Str) : Int := p n * B.fdiv (q n)
end Mf

namespace Lw
open PySem L2 DL
def top (i : Nat) : Stmt := PySem.Challenge.pw_rowbetween_k22_added.main.body.getD i (.Pass ⟨0, 0, 0, 0⟩)
open Mf
theorem seq_cut {t u : TDS} {R : DEnds} {δ : En} (h : ∀ K : En → Prop, K = u R → t { R with nx := K } δ) : dSeq t u R δ := h _ rfl
theorem sq_t {xs : List D} : sq true xs = .lst xs := rfl
theorem sq_f {xs : List D} : sq false xs = .tup xs := rfl
def dForF (src : TDC) (F : D → DEnds → En → Prop) : TDS := fun R δ => src δ fun xs δ1 => ∃ I : Nat → En → Prop, I 0 δ1 ∧
  (∀ i x δ', xs[i]? = some x → I i δ' → F x { R with nx := I (i + 1), ct := I (i + 1), bk := R.nx } δ') ∧ ∀ δ', I xs.length δ' → R.nx δ'
theorem for_cut {src : TDC} {g : TDG} {tb : TDS} {R : DEnds} {δ : En} (h : ∀ (F : D → DEnds → En → Prop) (N : En → Prop), F = (fun x R δ => g x δ fun δ2 => tb R δ2) → N = R.nx → dForF src F { R with nx := N } δ) : dFor src g tb R δ := h _ _ rfl rfl
def dForLF (t : TDE) (F : D → DEnds → En → Prop) : TDS := fun R δ => t δ (wd fun d δ1 => ∃ xs, d = .lst xs ∧ ∃ I : Nat → En → Prop, I 0 δ1 ∧
  (∀ i x δ', xs[i]? = some x → I i δ' → F x { R with nx := I (i + 1), ct := I (i + 1), bk := R.nx } δ') ∧ ∀ δ', I xs.length δ' → R.nx δ')
theorem forL_cut {t : TDE} {g : TDG} {tb : TDS} {R : DEnds} {δ : En} (h : ∀ (F : D → DEnds → En → Prop) (N : En → Prop), F = (fun x R δ => g x δ fun δ2 => tb R δ2) → N = R.nx → dForLF t F { R with nx := N } δ) : dForL t g tb R δ := h _ _ rfl rfl
def dForTF (t : TDE) (F : D → DEnds → En → Prop) : TDS := fun R δ => t δ (wd fun d δ1 => ∃ xs, d = .tup xs ∧ ∃ I : Nat → En → Prop, I 0 δ1 ∧
  (∀ i x δ', xs[i]? = some x → I i δ' → F x { R with nx := I (i + 1), ct := I (i + 1), bk := R.nx } δ') ∧ ∀ δ', I xs.length δ' → R.nx δ')
theorem forT_cut {t : TDE} {g : TDG} {tb : TDS} {R : DEnds} {δ : En} (h : ∀ (F : D → DEnds → En → Prop) (N : En → Prop), F = (fun x R δ => g x δ fun δ2 => tb R δ2) → N = R.nx → dForTF t F { R with nx := N } δ) : dForT t g tb R δ := h _ _ rfl rfl
def dForRF (t : TDA) (F : D → DEnds → En → Prop) : TDS := fun R δ => t δ fun ds δ1 => ∃ j : Int, ds = [.int j] ∧ -(2 ^ 62) ≤ j ∧ j < 2 ^ 62 ∧ ∃ I : Nat → En → Prop, I 0 δ1 ∧
  (∀ i δ', i < j.toNat → I i δ' → F (.int i) { R with nx := I (i + 1), ct := I (i + 1), bk := R.nx } δ') ∧ ∀ δ', I j.toNat δ' → R.nx δ'
theorem forR_cut {t : TDA} {g : TDG} {tb : TDS} {R : DEnds} {δ : En} (h : ∀ (F : D → DEnds → En → Prop) (N : En → Prop), F = (fun x R δ => g x δ fun δ2 => tb R δ2) → N = R.nx → dForRF t F { R with nx := N } δ) : dForR t g tb R δ := h _ _ rfl rfl
theorem body_cut {g : TDG} {x : D} {t u : TDS} {R : DEnds} {δ : En} (h : ∀ K : En → Prop, K = u R → g x δ fun δ2 => t { R with nx := K } δ2) : g x δ fun δ2 => dSeq t u R δ2 := h _ rfl
theorem filterMap_of {α β γ : Type} (f : β → Option γ) (g : α → β) (h : α → γ) : ∀ (l : List α), (∀ x ∈ l, f (g x) = some (h x)) → (l.map g).filterMap f = l.map h
  | [], _ => rfl
  | x :: l, e => by rw [List.map_cons, List.map_cons, List.filterMap_cons, e x (List.mem_cons_self ..), filterMap_of f g h l fun y hy => e y (List.mem_cons_of_mem _ hy)]
theorem ifn {c A B : Prop} [Decidable c] (hc : ¬ c) (h : B) : if c then A else B := by rw [if_neg hc]; exact h
theorem ifp {c A B : Prop} [Decidable c] (hc : c) (h : A) : if c then A else B := by rw [if_pos hc]; exact h
theorem at0 {α : Type} {x : α} {xs : List α} : atI (x :: xs) 0 = some x := by
  unfold atI ixN
  simp only [List.length_cons]
  rw [if_pos (by omega), if_pos (by omega)]
  rfl
theorem at1 {α : Type} {x y : α} {xs : List α} : atI (x :: y :: xs) 1 = some y := by
  unfold atI ixN
  simp only [List.length_cons]
  rw [if_pos (by omega), if_pos (by omega)]
  rfl
theorem at2 {α : Type} {x y z : α} {xs : List α} : atI (x :: y :: z :: xs) 2 = some z := by
  unfold atI ixN
  simp only [List.length_cons]
  rw [if_pos (by omega), if_pos (by omega)]
  rfl
theorem atm1 {α : Type} {x : α} {xs : List α} : atI (xs ++ [x]) (-1) = some x := atI_last xs x
theorem fPlus_int {i j : Int} {R : D → Prop} : fPlus [.int i, .int j] R ↔ R (.int (i + j)) := Iff.rfl
theorem fPlus_lst {xs ys : List D} {R : D → Prop} : fPlus [.lst xs, .lst ys] R ↔ xs.length + ys.length ≤ 1000 ∧ R (.lst (xs ++ ys)) := Iff.rfl
theorem fLen_lst {xs : List D} {R : D → Prop} : fLen [.lst xs] R ↔ R (.int xs.length) := Iff.rfl
theorem fLen_fz {xs : List D} {R : D → Prop} : fLen [.fz xs] R ↔ R (.int xs.length) := Iff.rfl
theorem fLen_tup {xs : List D} {R : D → Prop} : fLen [.tup xs] R ↔ R (.int xs.length) := Iff.rfl
theorem fInt_int {i : Int} {R : D → Prop} : fInt [.int i] R ↔ R (.int i) := Iff.rfl
theorem fInt_bl {b : Bool} {R : D → Prop} : fInt [.bl b] R ↔ R (.int (if b then 1 else 0)) := Iff.rfl
theorem fIx_tup {xs : List D} {i : Int} {R : D → Prop} : fIx [.tup xs, .int i] R ↔ ∃ v, atI xs i = some v ∧ R v := Iff.rfl
theorem fIx_lst {xs : List D} {i : Int} {R : D → Prop} : fIx [.lst xs, .int i] R ↔ ∃ v, atI xs i = some v ∧ R v := Iff.rfl
theorem fIx_fz {xs : List D} {i : Int} {R : D → Prop} : fIx [.fz xs, .int i] R ↔ ∃ v, atI xs i = some v ∧ R v := Iff.rfl
theorem fIx_str {z : Str} {i : Int} {R : D → Prop} : fIx [.str z, .int i] R ↔ z.length ≤ 1000 ∧ ∃ c, atI z.cps.toList i = some c ∧ R (.str ⟨#[c]⟩) := Iff.rfl
theorem fSl_lst {xs : List D} {l u : Option Int} {R : D → Prop} : fSl (.lst xs) l u R ↔ R (.lst (cut xs l u)) := Iff.rfl
theorem fSl_fz {xs : List D} {l u : Option Int} {R : D → Prop} : fSl (.fz xs) l u R ↔ R (.lst (cut xs l u)) := Iff.rfl
theorem fNe_str {i j : Str} {R : D → Prop} : fNe [.str i, .str j] R ↔ R (.bl (!decide (i = j))) := Iff.rfl
theorem fNe_bl {i j : Bool} {R : D → Prop} : fNe [.bl i, .bl j] R ↔ R (.bl (!decide (i = j))) := Iff.rfl
theorem Nat.cast_ofNat_Int {n : Nat} : ((OfNat.ofNat n : Nat) : Int) = OfNat.ofNat n := rfl
theorem is_int_non : isT "int" (tyN .non) = false := rfl
theorem is_int_bl {b : Bool} : isT "int" (tyN (.bl b)) = true := rfl
theorem is_int_int {i : Int} : isT "int" (tyN (.int i)) = true := rfl
theorem is_int_str {x : Str} : isT "int" (tyN (.str x)) = false := rfl
theorem is_int_tup {xs : List D} : isT "int" (tyN (.tup xs)) = false := rfl
theorem is_int_lst {xs : List D} : isT "int" (tyN (.lst xs)) = false := rfl
theorem is_int_fz {xs : List D} : isT "int" (tyN (.fz xs)) = false := rfl
theorem is_int_dct {ks : List Str} {vs : List D} : isT "int" (tyN (.dct ks vs)) = false := rfl
theorem is_bool_non : isT "bool" (tyN .non) = false := rfl
theorem is_bool_bl {b : Bool} : isT "bool" (tyN (.bl b)) = true := rfl
theorem is_bool_int {i : Int} : isT "bool" (tyN (.int i)) = false := rfl
theorem is_bool_str {x : Str} : isT "bool" (tyN (.str x)) = false := rfl
theorem is_bool_tup {xs : List D} : isT "bool" (tyN (.tup xs)) = false := rfl
theorem is_bool_lst {xs : List D} : isT "bool" (tyN (.lst xs)) = false := rfl
theorem is_bool_fz {xs : List D} : isT "bool" (tyN (.fz xs)) = false := rfl
theorem is_bool_dct {ks : List Str} {vs : List D} : isT "bool" (tyN (.dct ks vs)) = false := rfl
theorem is_tuple_non : isT "tuple" (tyN .non) = false := rfl
theorem is_tuple_bl {b : Bool} : isT "tuple" (tyN (.bl b)) = false := rfl
theorem is_tuple_int {i : Int} : isT "tuple" (tyN (.int i)) = false := rfl
theorem is_tuple_str {x : Str} : isT "tuple" (tyN (.str x)) = false := rfl
theorem is_tuple_tup {xs : List D} : isT "tuple" (tyN (.tup xs)) = true := rfl
theorem is_tuple_lst {xs : List D} : isT "tuple" (tyN (.lst xs)) = false := rfl
theorem is_tuple_fz {xs : List D} : isT "tuple" (tyN (.fz xs)) = false := rfl
theorem is_tuple_dct {ks : List Str} {vs : List D} : isT "tuple" (tyN (.dct ks vs)) = false := rfl
theorem is_list_non : isT "list" (tyN .non) = false := rfl
theorem is_list_bl {b : Bool} : isT "list" (tyN (.bl b)) = false := rfl
theorem is_list_int {i : Int} : isT "list" (tyN (.int i)) = false := rfl
theorem is_list_str {x : Str} : isT "list" (tyN (.str x)) = false := rfl
theorem is_list_tup {xs : List D} : isT "list" (tyN (.tup xs)) = false := rfl
theorem is_list_lst {xs : List D} : isT "list" (tyN (.lst xs)) = true := rfl
theorem is_list_fz {xs : List D} : isT "list" (tyN (.fz xs)) = true := rfl
theorem is_list_dct {ks : List Str} {vs : List D} : isT "list" (tyN (.dct ks vs)) = false := rfl
theorem is_str_non : isT "str" (tyN .non) = false := rfl
theorem is_str_bl {b : Bool} : isT "str" (tyN (.bl b)) = false := rfl
theorem is_str_int {i : Int} : isT "str" (tyN (.int i)) = false := rfl
theorem is_str_str {x : Str} : isT "str" (tyN (.str x)) = true := rfl
theorem is_str_tup {xs : List D} : isT "str" (tyN (.tup xs)) = false := rfl
theorem is_str_lst {xs : List D} : isT "str" (tyN (.lst xs)) = false := rfl
theorem is_str_fz {xs : List D} : isT "str" (tyN (.fz xs)) = false := rfl
theorem is_str_dct {ks : List Str} {vs : List D} : isT "str" (tyN (.dct ks vs)) = false := rfl
theorem is_dict_non : isT "dict" (tyN .non) = false := rfl
theorem is_dict_bl {b : Bool} : isT "dict" (tyN (.bl b)) = false := rfl
theorem is_dict_int {i : Int} : isT "dict" (tyN (.int i)) = false := rfl
theorem is_dict_str {x : Str} : isT "dict" (tyN (.str x)) = false := rfl
theorem is_dict_tup {xs : List D} : isT "dict" (tyN (.tup xs)) = false := rfl
theorem is_dict_lst {xs : List D} : isT "dict" (tyN (.lst xs)) = false := rfl
theorem is_dict_fz {xs : List D} : isT "dict" (tyN (.fz xs)) = false := rfl
theorem is_dict_dct {ks : List Str} {vs : List D} : isT "dict" (tyN (.dct ks vs)) = true := rfl
local macro_rules | `(tactic| walk_at "rd") => `(tactic| simp only [dGetO, dcZip, sq_t, sq_f, fSum_lst, fMin_two, dSetN, dNewL, dNewD, dRetO, dRetL, dCallO, dLenO, dTupleO, dFreeze, Sl.own.injEq, exists_const, exists_eq, D.lst.injEq, D.dct.injEq, D.str.injEq, dSeq, dIf, dRet, dSet, dV, dO, dC, dOp, dUn, wd, dTst, dAnd, dOr, dNot, dAndV, dOrV, dNotV, dIfE, dACons, dANil, dCall, dTup, dLst, dPar, dNext, dNever, dDrop, dAsg, dgName, dgNil, dgCons, dgTup, dgLst, dGtab, fMax_two, fMax_lst, dSl, dNoPart, dPart, dIsi, fI0_eq, fI_eq, fU_eq, fEq_int, fEq_str, fEq_bl, fEq_tup, fNeq_int, fIs_bl, fIsN_bl, fPlus_int, fPlus_lst, fLen_lst, fLen_fz, fLen_tup, fInt_int, fInt_bl, fIx_tup, fIx_lst, fIx_fz, fIx_str, fSl_lst, fSl_fz, fNeq_str, fNeq_bl, fNeq_tup, fNeq_lst, fNeq_dct, dPutD, dPop, fDget_eq, fIn_dct, fIn_lst, fSorted_lst, fSorted_dct, dRetN, fDict_dct, fTuple_lst, fTuple_tup, fList_lst, fList_tup, dcStr, dComp, dcLst, dcTup, dcRng, allT, okT, capL, capO, oS, startD, is_int_non, is_int_bl, is_int_int, is_int_str, is_int_tup, is_int_lst, is_int_fz, is_int_dct, is_bool_non, is_bool_bl, is_bool_int, is_bool_str, is_bool_tup, is_bool_lst, is_bool_fz, is_bool_dct, is_tuple_non, is_tuple_bl, is_tuple_int, is_tuple_str, is_tuple_tup, is_tuple_lst, is_tuple_fz, is_tuple_dct, is_list_non, is_list_bl, is_list_int, is_list_str, is_list_tup, is_list_lst, is_list_fz, is_list_dct, is_str_non, is_str_bl, is_str_int, is_str_str, is_str_tup, is_str_lst, is_str_fz, is_str_dct, is_dict_non, is_dict_bl, is_dict_int, is_dict_str, is_dict_tup, is_dict_lst, is_dict_fz, is_dict_dct,
  List.map_cons, List.map_nil, List.length_cons, List.length_nil, List.replicate, List.cons_append, List.nil_append, List.append_nil, List.getElem?_cons_zero, List.getElem?_cons_succ, List.set_cons_zero, List.set_cons_succ, Option.some.injEq, Sl.dat.injEq, D.int.injEq, D.bl.injEq, D.tup.injEq, List.cons.injEq, and_assoc, and_true, true_and, exists_eq_left', exists_eq_left, exists_eq_right', exists_and_left, Nat.zero_add, Nat.reduceAdd, Nat.reduceSub, Nat.add_zero, Nat.reduceLeDiff, Nat.sub_self, at0, at1, at2, atm1, if_true, if_false, ite_true, ite_false, Int.reduceEq, Int.reduceLT, Nat.cast_ofNat_Int, not_true_eq_false, not_false_eq_true, Bool.false_eq_true, reduceCtorEq, Bool.not_false, Bool.not_true, List.forall_mem_cons, List.mem_cons, List.not_mem_nil, forall_const, false_implies, implies_true, Nat.reduceLT, if_pos, List.filterMap_cons, List.filterMap_nil, decide_eq_true_eq, Bool.not_eq_true', decide_eq_false_iff_not])

theorem mo2 {x y : Int} {m n : Nat} (h1 : Builtin.Int.intBits x ≤ m) (h2 : Builtin.Int.intBits y ≤ n) (h : m + n ≤ 134217728 := by decide) : IntMulOk x y := IntMulOk.of_le h1 h2 h
theorem sm64 {x : Int} (h0 : 0 ≤ x) (h1 : x < 18446744073709551616) : Builtin.Int.intBits x ≤ 64 := intBits_le_64 (by omega) (by omega)

/-- terms: names and weights -/
def tmD (t : Str × Int) : D := .tup [.str t.1, .int t.2]
structure Terms (names : List Str) (ts : List (Str × Int)) : Prop where
  sub : (ts.map (·.1)).Sublist names
  nz : ∀ t ∈ ts, t.2 ≠ 0
  bits : ∀ t ∈ ts, Builtin.Int.intBits t.2 ≤ 200
theorem terms_get {ts : List (Str × Int)} {i : Nat} {d : D} (h : (ts.map tmD)[i]? = some d) : ∃ t, ts[i]? = some t ∧ d = .tup [.str t.1, .int t.2] := by
  rw [List.getElem?_map] at h
  cases e : ts[i]? with
  | none => rw [e] at h; cases h
  | some n => rw [e] at h; exact ⟨n, rfl, (Option.some.inj h).symm⟩
theorem take_snoc {α : Type} {l : List α} {i : Nat} {x : α} (h : l[i]? = some x) : l.take (i + 1) = l.take i ++ [x] := by rw [List.take_add_one, h]; rfl
inductive Kd where
  | least | more
def kdS : Kd → Str
  | .least => "least"
  | .more => "more"
/-- a row -/
def rowD (k : Kd) (ts : List (Str × Int)) (b : Int) : D := .tup [.str (kdS k), .tup (ts.map tmD), .int b]
theorem tms_nds : ∀ ts : List (Str × Int), D.nds (ts.map tmD) = true
  | [] => rfl
  | t :: r => by rw [List.map_cons]; unfold D.nds; rw [tms_nds r]; rfl
theorem tms_dps : ∀ ts : List (Str × Int), D.dps (ts.map tmD) ≤ 1
  | [] => Nat.zero_le _
  | t :: r => by
    rw [List.map_cons]; unfold D.dps
    exact Nat.max_le.mpr ⟨by show 1 ≤ 1; decide, tms_dps r⟩

/-- a point: names and fractions -/
def frD (p : Int × Int) : D := .tup [.int p.1, .int p.2]
theorem frs_nds : ∀ ps : List (Int × Int), D.nds (ps.map frD) = true
  | [] => rfl
  | p :: r => by rw [List.map_cons]; unfold D.nds; rw [frs_nds r]; rfl
theorem frs_dps : ∀ ps : List (Int × Int), D.dps (ps.map frD) ≤ 60
  | [] => Nat.zero_le _
  | p :: r => by
    rw [List.map_cons]; unfold D.dps
    exact Nat.max_le.mpr ⟨by show 1 ≤ 60; decide, frs_dps r⟩
structure Point (ks : List Str) (ps : List (Int × Int)) : Prop where
  len : ps.length = ks.length
  low : ∀ p ∈ ps, Low p.1 p.2
  b1 : ∀ p ∈ ps, Builtin.Int.intBits p.1 ≤ 200
  b2 : ∀ p ∈ ps, Builtin.Int.intBits p.2 ≤ 64
def ptOf (ks : List Str) (ps : List (Int × Int)) (n : Str) : Int × Int := (dAt ks ps n).getD (0, 1)
def pT (ks : List Str) (ps : List (Int × Int)) (n : Str) : Int := (ptOf ks ps n).1
def pB (ks : List Str) (ps : List (Int × Int)) (n : Str) : Int := (ptOf ks ps n).2
theorem dAt_map {α β : Type} (f : α → β) : ∀ (ks : List Str) (ps : List α) (n : Str), dAt ks (ps.map f) n = (dAt ks ps n).map f
  | [], ps, n => by cases ps <;> rfl
  | k :: ks, [], n => rfl
  | k :: ks, p :: ps, n => by
    show (if k = n then some (f p) else dAt ks (ps.map f) n) = (if k = n then some p else dAt ks ps n).map f
    by_cases e : k = n
    · rw [if_pos e, if_pos e]; rfl
    · rw [if_neg e, if_neg e]; exact dAt_map f ks ps n
theorem dAt_mem {α : Type} : ∀ {ks : List Str} {ps : List α} {n : Str} {p : α}, dAt ks ps n = some p → p ∈ ps
  | [], ps, n, p, h => by cases ps <;> cases h
  | k :: ks, [], n, p, h => by cases h
  | k :: ks, x :: ps, n, p, h => by
    have h : (if k = n then some x else dAt ks ps n) = some p := h
    by_cases e : k = n
    · rw [if_pos e] at h; cases h; exact List.mem_cons_self ..
    · rw [if_neg e] at h; exact List.mem_cons_of_mem _ (dAt_mem h)
theorem pt_at {ks : List Str} {ps : List (Int × Int)} {n : Str} (hp : Point ks ps) (h : n ∈ ks) : dAt ks ps n = some (ptOf ks ps n) ∧ ptOf ks ps n ∈ ps := by
  have e := dAt_some (ks := ks) (ds := ps) (x := n) hp.len.symm
  rw [decide_eq_true h] at e
  cases q : dAt ks ps n with
  | none => rw [q] at e; cases e
  | some p =>
    have : ptOf ks ps n = p := by unfold ptOf; rw [q]; rfl
    rw [this]
    exact ⟨rfl, dAt_mem q⟩
theorem pt_D {ks : List Str} {ps : List (Int × Int)} {n : Str} (hp : Point ks ps) (h : n ∈ ks) : dAt ks (ps.map frD) n = some (.tup [.int (pT ks ps n), .int (pB ks ps n)]) := by
  rw [dAt_map, (pt_at hp h).1]; rfl
theorem pB_pos {ks : List Str} {ps : List (Int × Int)} {n : Str} (hp : Point ks ps) (h : n ∈ ks) : 0 < pB ks ps n := (hp.low _ (pt_at hp h).2).pos
theorem pB_bits {ks : List Str} {ps : List (Int × Int)} {n : Str} (hp : Point ks ps) (h : n ∈ ks) : Builtin.Int.intBits (pB ks ps n) ≤ 64 := hp.b2 _ (pt_at hp h).2
theorem pT_bits {ks : List Str} {ps : List (Int × Int)} {n : Str} (hp : Point ks ps) (h : n ∈ ks) : Builtin.Int.intBits (pT ks ps n) ≤ 200 := hp.b1 _ (pt_at hp h).2
theorem bot_bits {q : Str → Int} : ∀ {l : List Str}, (∀ n ∈ l, Builtin.Int.intBits (q n) ≤ 64) → Builtin.Int.intBits (bot q l) ≤ 64 * l.length + 1
  | [], _ => by show Builtin.Int.intBits 1 ≤ 1; decide
  | n :: r, h => by
    have h1 := intBits_mul_le (h n (List.mem_cons_self ..)) (bot_bits fun m hm => h m (List.mem_cons_of_mem _ hm))
    rw [List.length_cons]
    show Builtin.Int.intBits (q n * bot q r) ≤ _
    omega
theorem names_get {names : List Str} {i : Nat} {d : D} (h : (names.map D.str)[i]? = some d) : ∃ n, names[i]? = some n ∧ d = .str n := by
  rw [List.getElem?_map] at h
  cases e : names[i]? with
  | none => rw [e] at h; cases h
  | some n => rw [e] at h; exact ⟨n, rfl, (Option.some.inj h).symm⟩
def f_tops_of : List D → (D → Prop) → Prop := fun ds R => ∃ names ks ps, ds = [.lst (names.map D.str), .dct ks (ps.map frD)] ∧ names.Nodup ∧ names.length ≤ 100 ∧ (∀ n ∈ names, n ∈ ks) ∧ Point ks ps ∧
  R (.tup [.dct names (names.map fun n => .int (ov (pT ks ps) (pB ks ps) (bot (pB ks ps) names) n)), .int (bot (pB ks ps) names)])
theorem f_tops_of_len : ∀ ds R, f_tops_of ds R → ds.length = 2 := fun _ _ ⟨_, _, _, e, _⟩ => by rw [e]; rfl
theorem kPut_new {ks : List Str} {x : Str} (h : x ∉ ks) : kPut ks x = ks ++ [x] := by unfold kPut; rw [if_neg h]
theorem vPut_new {ks : List Str} {ds : List D} {x : Str} {y : D} (h : x ∉ ks) : vPut ks ds x y = ds ++ [y] := by unfold vPut; rw [if_neg h]
theorem not_take {l : List Str} {i : Nat} {x : Str} (nd : l.Nodup) (h : l[i]? = some x) : x ∉ l.take i := by
  intro hm
  obtain ⟨j, hj, e⟩ := List.getElem_of_mem hm
  rw [List.length_take] at hj
  rw [List.getElem_take] at e
  obtain ⟨hi, e2⟩ := List.getElem?_eq_some_iff.mp h
  have := (List.getElem_inj (h₀ := by omega) (h₁ := hi) nd).mp (e.trans e2.symm)
  omega
theorem mem_get {l : List Str} {i : Nat} {x : Str} (h : l[i]? = some x) : x ∈ l := List.mem_of_getElem? h
theorem lt_get {α : Type} {l : List α} {i : Nat} {x : α} (h : l[i]? = some x) : i < l.length := (List.getElem?_eq_some_iff.mp h).1
def f_top_of_sum : List D → (D → Prop) → Prop := fun ds R => ∃ (ts : List (Str × Int)) (ks : List Str) (vs : List D) (f : Str → Int), ds = [.tup (ts.map tmD), .dct ks vs] ∧ (∀ t ∈ ts, dAt ks vs t.1 = some (.int (f t.1)) ∧ Builtin.Int.intBits t.2 ≤ 200 ∧ Builtin.Int.intBits (f t.1) ≤ 100000) ∧ R (.int (sumT f ts))
theorem f_top_of_sum_len : ∀ ds R, f_top_of_sum ds R → ds.length = 2 := fun _ _ ⟨_, _, _, _, e, _⟩ => by rw [e]; rfl
theorem ov_bits {ks : List Str} {ps : List (Int × Int)} {names : List Str} {n : Str} (hp : Point ks ps) (hl : names.length ≤ 100) (hin : ∀ n ∈ names, n ∈ ks) (hn : n ∈ names) : Builtin.Int.intBits (ov (pT ks ps) (pB ks ps) (bot (pB ks ps) names) n) ≤ 7000 := by
  have bb : Builtin.Int.intBits (bot (pB ks ps) names) ≤ 64 * names.length + 1 := bot_bits fun n hn => pB_bits hp (hin n hn)
  exact Nat.le_trans (intBits_mul_le (pT_bits hp (hin n hn)) (intBits_fdiv_le bb)) (by omega)
theorem dAt_self {α : Type} (f : Str → α) : ∀ {names : List Str} {n : Str}, n ∈ names → dAt names (names.map f) n = some (f n)
  | x :: r, n, h => by
    show (if x = n then some (f x) else dAt r (r.map f) n) = _
    by_cases e : x = n
    · rw [if_pos e, e]
    · rw [if_neg e]
      exact dAt_self f ((List.mem_cons.mp h).resolve_left fun z => e z.symm)
theorem sumT_bits {f : Str → Int} {m : Nat} : ∀ {ts : List (Str × Int)}, (∀ t ∈ ts, Builtin.Int.intBits t.2 ≤ 200 ∧ Builtin.Int.intBits (f t.1) ≤ m) → Builtin.Int.intBits (sumT f ts) ≤ 200 + m + ts.length
  | [], _ => by show Builtin.Int.intBits 0 ≤ _; exact Nat.le_trans (by decide : Builtin.Int.intBits 0 ≤ 0) (Nat.zero_le _)
  | t :: r, h => by
    have h1 := h t (List.mem_cons_self ..)
    have h2 := intBits_add_le (intBits_mul_le h1.1 h1.2) (sumT_bits (m := m) fun u hu => h u (List.mem_cons_of_mem _ hu))
    show Builtin.Int.intBits (t.2 * f t.1 + sumT f r) ≤ _
    rw [List.length_cons]
    omega
def f_total : List D → (D → Prop) → Prop := fun ds R => ∃ (ts : List (Str × Int)) (ks : List Str) (ps : List (Int × Int)), ds = [.tup (ts.map tmD), .dct ks (ps.map frD)] ∧ (ts.map (·.1)).Nodup ∧ ts.length ≤ 100 ∧ (∀ t ∈ ts, t.1 ∈ ks ∧ Builtin.Int.intBits t.2 ≤ 200) ∧ Point ks ps ∧
  R (.tup [.int (mkT (sumT (ov (pT ks ps) (pB ks ps) (bot (pB ks ps) (ts.map (·.1)))) ts) (bot (pB ks ps) (ts.map (·.1)))), .int (mkB (sumT (ov (pT ks ps) (pB ks ps) (bot (pB ks ps) (ts.map (·.1)))) ts) (bot (pB ks ps) (ts.map (·.1))))])
theorem f_total_len : ∀ ds R, f_total ds R → ds.length = 2 := fun _ _ ⟨_, _, _, e, _⟩ => by rw [e]; rfl
/-- a row as a triple; the sum of rows, so many times each -/
abbrev Rw := Kd × List (Str × Int) × Int
def rwD (r : Rw) : D := rowD r.1 r.2.1 r.2.2
def cf : List (Str × Int) → Str → Int
  | [], _ => 0
  | t :: r, n => (if t.1 = n then t.2 else 0) + cf r n
def cfs : List (Rw × Int) → Str → Int
  | [], _ => 0
  | p :: r, n => p.2 * cf p.1.2.1 n + cfs r n
def bds : List (Rw × Int) → Int
  | [] => 0
  | p :: r => p.2 * p.1.2.2 + bds r
def isM : Kd → Bool
  | .least => false
  | .more => true
def stc (l : List (Rw × Int)) : Bool := l.any fun p => isM p.1.1 && decide (0 < p.2)
def kOf : Bool → Kd
  | true => .more
  | false => .least
theorem cf_app {n : Str} : ∀ {a b : List (Str × Int)}, cf (a ++ b) n = cf a n + cf b n
  | [], b => (Int.zero_add _).symm
  | t :: a, b => by show _ + cf (a ++ b) n = _ + cf a n + _; rw [cf_app]; omega
theorem cfs_app {n : Str} : ∀ {a b : List (Rw × Int)}, cfs (a ++ b) n = cfs a n + cfs b n
  | [], b => (Int.zero_add _).symm
  | t :: a, b => by show _ + cfs (a ++ b) n = _ + cfs a n + _; rw [cfs_app]; omega
theorem bds_app : ∀ {a b : List (Rw × Int)}, bds (a ++ b) = bds a + bds b
  | [], b => (Int.zero_add _).symm
  | t :: a, b => by show _ + bds (a ++ b) = _ + bds a + _; rw [bds_app]; omega
theorem stc_app {a b : List (Rw × Int)} : stc (a ++ b) = (stc a || stc b) := List.any_append
theorem stc_one {p : Rw × Int} : stc [p] = (isM p.1.1 && decide (0 < p.2)) := by unfold stc; simp
theorem cf_not {n : Str} : ∀ {ts : List (Str × Int)}, n ∉ ts.map (·.1) → cf ts n = 0
  | [], _ => rfl
  | t :: r, h => by
    rw [List.map_cons, List.mem_cons, not_or] at h
    show (if t.1 = n then t.2 else 0) + cf r n = 0
    rw [if_neg (fun z => h.1 z.symm), cf_not h.2]; rfl
/-- the terms that a sum leaves -/
structure IsSum (F : Str → Int) (ts : List (Str × Int)) : Prop where
  pw : (ts.map (·.1)).Pairwise leS
  nd : (ts.map (·.1)).Nodup
  val : ∀ t ∈ ts, t.2 = F t.1 ∧ t.2 ≠ 0
  all : ∀ n, F n ≠ 0 → n ∈ ts.map (·.1)
theorem IsSum.ext {F : Str → Int} {ts us : List (Str × Int)} (h1 : ∀ t ∈ ts, t.2 = F t.1) (h2 : ∀ t ∈ us, t.2 = F t.1) (h : ts.map (·.1) = us.map (·.1)) : ts = us := by
  have e : ∀ {l : List (Str × Int)}, (∀ t ∈ l, t.2 = F t.1) → l = (l.map (·.1)).map fun n => (n, F n) := fun {l} hl => by
    rw [List.map_map]
    conv => lhs; rw [← List.map_id l]
    refine List.map_congr_left fun t ht => ?_
    show t = (t.1, F t.1)
    rw [← hl t ht]
  rw [e h1, e h2, h]
theorem IsSum.uniq {F : Str → Int} {ts us : List (Str × Int)} (a : IsSum F ts) (b : IsSum F us) : ts = us := by
  refine IsSum.ext (fun t h => (a.val t h).1) (fun t h => (b.val t h).1) (pw_uniq a.pw b.pw a.nd b.nd fun n => ⟨fun h => b.all n ?_, fun h => a.all n ?_⟩)
  · obtain ⟨t, ht, rfl⟩ := List.mem_map.mp h
    rw [← (a.val t ht).1]; exact (a.val t ht).2
  · obtain ⟨t, ht, rfl⟩ := List.mem_map.mp h
    rw [← (b.val t ht).1]; exact (b.val t ht).2
theorem IsSum.mk' {F : Str → Int} {ns : List Str} (pw : ns.Pairwise leS) (nd : ns.Nodup) (all : ∀ n, F n ≠ 0 → n ∈ ns) : IsSum F ((ns.filter fun n => decide (F n ≠ 0)).map fun n => (n, F n)) := by
  have e : ((ns.filter fun n => decide (F n ≠ 0)).map fun n => (n, F n)).map (·.1) = ns.filter fun n => decide (F n ≠ 0) := by rw [List.map_map]; exact List.map_id _
  refine ⟨by rw [e]; exact pw.filter _, by rw [e]; exact nd.filter _, fun t ht => ?_, fun n hn => ?_⟩
  · obtain ⟨n, h1, rfl⟩ := List.mem_map.mp ht
    exact ⟨rfl, by simpa using (List.mem_filter.mp h1).2⟩
  · rw [e, List.mem_filter]
    exact ⟨all n hn, by simpa using hn⟩
theorem vRep_map {f g : Str → D} {x : Str} (h : ∀ n, n ≠ x → g n = f n) : ∀ ks : List Str, vRep ks (ks.map f) x (g x) = ks.map g
  | [] => rfl
  | k :: ks => by
    show (if k = x then g x else f k) :: vRep ks (ks.map f) x (g x) = g k :: ks.map g
    rw [vRep_map h ks]
    by_cases e : k = x
    · rw [if_pos e, e]
    · rw [if_neg e, h k e]
theorem put_map {f g : Str → D} {x : Str} {ks : List Str} (h : ∀ n, n ≠ x → g n = f n) : vPut ks (ks.map f) x (g x) = (kPut ks x).map g := by
  unfold vPut kPut
  by_cases e : x ∈ ks
  · rw [if_pos e, if_pos e, vRep_map h]
  · rw [if_neg e, if_neg e, List.map_append]
    congr 1
    exact List.map_congr_left fun n hn => (h n fun z => e (z ▸ hn)).symm
theorem kPut_nd {ks : List Str} {x : Str} (h : ks.Nodup) : (kPut ks x).Nodup := by
  unfold kPut
  by_cases e : x ∈ ks
  · rw [if_pos e]; exact h
  · rw [if_neg e, List.nodup_append]
    exact ⟨h, by simp, fun a ha b hb z => by rw [List.mem_singleton.mp hb] at z; exact e (z ▸ ha)⟩
theorem mem_kPut {ks : List Str} {x n : Str} : n ∈ kPut ks x ↔ n ∈ ks ∨ n = x := by
  unfold kPut
  by_cases e : x ∈ ks
  · rw [if_pos e]
    exact ⟨.inl, fun h => h.elim id fun z => z ▸ e⟩
  · rw [if_neg e, List.mem_append, List.mem_singleton]
theorem nd_le : ∀ {ks nm : List Str}, ks.Nodup → (∀ n ∈ ks, n ∈ nm) → ks.length ≤ nm.length
  | [], _, _, _ => Nat.zero_le _
  | k :: ks, nm, h, hs => by
    obtain ⟨h1, h2⟩ := List.nodup_cons.mp h
    have hk := hs k (List.mem_cons_self ..)
    have := nd_le (ks := ks) (nm := nm.erase k) h2 fun n hn => (List.mem_erase_of_ne (fun z => h1 (by rw [← z]; exact hn))).mpr (hs n (List.mem_cons_of_mem _ hn))
    rw [List.length_erase_of_mem hk] at this
    have : 0 < nm.length := List.length_pos_of_mem hk
    rw [List.length_cons]
    omega
theorem dAt_not {α : Type} {x : Str} : ∀ {ks : List Str} {ds : List α}, x ∉ ks → dAt ks ds x = none
  | [], ds, _ => by cases ds <;> rfl
  | k :: ks, [], _ => rfl
  | k :: ks, d :: ds, h => by
    rw [List.mem_cons, not_or] at h
    show (if k = x then some d else dAt ks ds x) = none
    rw [if_neg (fun z => h.1 z.symm)]
    exact dAt_not h.2
theorem getD_map {F : Str → Int} {ks : List Str} {x : Str} (h : x ∉ ks → F x = 0) : (dAt ks (ks.map fun n => D.int (F n)) x).getD (.int 0) = .int (F x) := by
  by_cases e : x ∈ ks
  · rw [dAt_self (fun n => D.int (F n)) e]; rfl
  · rw [dAt_not e, h e]; rfl
theorem zip_rows {rows : List Rw} {ws : List Int} : zipD (rows.map rwD) (ws.map D.int) = (rows.zip ws).map fun p => D.tup [rwD p.1, .int p.2] := by
  unfold zipD
  rw [List.zipWith_map, List.zip, List.map_zipWith]
theorem kdS_eq {k : Kd} : (decide (kdS k = ("more" : Str)) : Bool) = isM k := by cases k <;> rfl
theorem rws_nds : ∀ rows : List Rw, D.nds (rows.map rwD) = true
  | [] => rfl
  | r :: rs => by
    rw [List.map_cons]; unfold D.nds; rw [rws_nds rs, Bool.and_true]
    show D.nds [.str _, .tup (r.2.1.map tmD), .int _] = true
    simp only [D.nds, D.nd, tms_nds, Bool.and_true]
theorem rws_dps : ∀ rows : List Rw, D.dps (rows.map rwD) ≤ 60
  | [] => Nat.zero_le _
  | r :: rs => by
    rw [List.map_cons]; unfold D.dps
    refine Nat.max_le.mpr ⟨?_, rws_dps rs⟩
    have := tms_dps r.2.1
    show D.dps [.str _, .tup (r.2.1.map tmD), .int _] + 1 ≤ 60
    simp only [D.dps, D.dp]
    omega
theorem cfs_sub {nm : List Str} {n : Str} : ∀ {l : List (Rw × Int)}, (∀ p ∈ l, ∀ t ∈ p.1.2.1, t.1 ∈ nm) → cfs l n ≠ 0 → n ∈ nm
  | [], _, h => absurd rfl h
  | p :: r, hp, h => by
    refine Classical.byContradiction fun z => ?_
    have h1 : cfs r n = 0 := Classical.byContradiction fun y => z (cfs_sub (fun p h => hp p (List.mem_cons_of_mem _ h)) y)
    have h2 : cf p.1.2.1 n = 0 := cf_not fun hm => by
      obtain ⟨t, ht, e⟩ := List.mem_map.mp hm
      exact z (e ▸ hp p (List.mem_cons_self ..) t ht)
    refine h ?_
    show p.2 * cf p.1.2.1 n + cfs r n = 0
    rw [h1, h2, Int.mul_zero, Int.zero_add]
structure RwOk (nm : List Str) (B : Nat) (r : Rw) : Prop where
  sub : ∀ t ∈ r.2.1, t.1 ∈ nm
  bw : ∀ t ∈ r.2.1, Builtin.Int.intBits t.2 ≤ B
  bb : Builtin.Int.intBits r.2.2 ≤ B
def f_added : List D → (D → Prop) → Prop := fun ds R => ∃ (rows : List Rw) (ws : List Int) (nm : List Str), ds = [.lst (rows.map rwD), .tup (ws.map D.int)] ∧ nm.length ≤ 60 ∧ (∀ r ∈ rows, RwOk nm 60000000 r) ∧ (∀ w ∈ ws, Builtin.Int.intBits w ≤ 60000000) ∧
  ∀ ts, IsSum (cfs (rows.zip ws)) ts → R (rowD (kOf (stc (rows.zip ws))) ts (bds (rows.zip ws)))
theorem f_added_len : ∀ ds R, f_added ds R → ds.length = 2 := fun _ _ ⟨_, _, _, e, _⟩ => by rw [e]; rfl
abbrev s_added : Stmt := top 1
theorem sc_added : FnScope ["rows", "weights", "word", "sums", "bound", "row", "often", "name", "weight", "terms"] ["rows", "weights"] (defScope s_added) := ⟨rfl, rfl, rfl, by decide +kernel, rfl, by decide +kernel, by decide +kernel⟩
theorem cal_added {P : Program} {w : World} {K : PySem.W.Frag} {mg : Str → Option Value} {base : Heap} (F : Fd K mg "added" s_added ["rows", "weights"]) (z_zip : mg "zip" = none) (z_tuple : mg "tuple" = none) (z_sorted : mg "sorted" = none) : Cal P w K mg base 1 "added" ["rows", "weights"] (spD K f_added) := by
  refine fn_D F sc_added f_added_len fun fa cdv A outer s H E ds R hr h => ?_
  have hU := hr.units
  refine ⟨_, (dss_cons (ds_set 2 sc_added.nd de_str) (dss_cons (ds_newD 3 sc_added.nd) (dss_cons (ds_set 4 sc_added.nd de_int) (dss_cons (ds_for PassesOwn.never rfl (ci_zip true false rfl z_zip (da_cons (de_v 0) (da_cons (de_v 1) da_nil))) (dg_tup (n := 2) rfl (dgs_cons (dg_name 5 sc_added.nd) (dgs_cons (dg_name 6 sc_added.nd) dgs_nil))) (dss_cons (ds_if (DW.dt (dw_and (dt_cmp (o_eq hU) (de_ix x_seq (de_v 5) de_int (fun _ _ => rfl)) de_str (nomark _)) (dw_and1 (dt_cmp o_gt (de_v 6) de_int (nomark _))))) (dss_one (ds_set 2 sc_added.nd de_str)) dss_nil) (dss_cons (ds_forT PassesOwn.never rfl (de_ix x_seq (de_v 5) de_int (fun _ _ => rfl)) (dg_tup (n := 2) rfl (dgs_cons (dg_name 7 sc_added.nd) (dgs_cons (dg_name 8 sc_added.nd) dgs_nil))) (dss_one (ds_putD 3 hU (de_op o_plus (de_getO 3 hU (de_v 7) de_int) (de_op o_mul (de_v 6) (de_v 8))) (de_v 7)))) (dss_one (ds_set 4 sc_added.nd (de_op o_plus (de_v 4) (de_op o_mul (de_v 6) (de_ix x_seq (de_v 5) de_int (fun _ _ => rfl))))))))) (dss_freeze 3 (dss_cons (ds_set 9 sc_added.nd (de_callTy c_tuple rfl z_tuple b_tuple (da_cons (de_comp ["name"] [(3, "sums")] rfl rfl (by decide +kernel) rfl (by decide +kernel) (cl_sub ⟨rfl, trivial⟩) (cl_has rfl) (cap_all ⟨⟨rfl, rfl, .inl rfl⟩, trivial⟩) (ci_lst (de_callB (c_sorted rfl) rfl z_sorted b_sorted (da_cons (de_v 3) da_nil))) fun _ _ _ _ _ => ⟨(dg_name 0 (show List.Nodup (["name", "sums"] : List Str) by decide +kernel)), (cf_one (dt_cmp (o_neq hU) (de_dget hU (de_v 1) (de_v 0) (fun _ _ => rfl)) de_int (nomark _))), (de_tup (da_cons (de_v 0) (da_cons (de_dget hU (de_v 1) (de_v 0) (fun _ _ => rfl)) da_nil)))⟩) da_nil))) (dss_one (ds_ret (de_tup (da_cons (de_v 2) (da_cons (de_v 9) (da_cons (de_v 4) da_nil)))))))))))), ?_⟩
  obtain ⟨rows, ws, nm, rfl, hnm, hr, hw, q⟩ := h
  walk_at "rd"
  intro da
  refine for_cut fun B N hB hN => ?_
  simp only [dForF]
  walk_at "rd"
  rw [zip_rows]
  generalize hl : rows.zip ws = l at q ⊢
  have hl1 : ∀ p ∈ l, RwOk nm 60000000 p.1 ∧ Builtin.Int.intBits p.2 ≤ 60000000 := fun p hp => by
    rw [← hl] at hp
    exact ⟨hr _ (List.of_mem_zip hp).1, hw _ (List.of_mem_zip hp).2⟩
  clear hl hr hw
  refine ⟨fun i δ => ∃ ks u v w z y, δ = [.dat (.lst (rows.map rwD)), .dat (.tup (ws.map D.int)), .dat (.str (kdS (kOf (stc (l.take i))))), .own da (.dct ks (ks.map fun n => .int (cfs (l.take i) n))), .dat (.int (bds (l.take i))), u, v, w, z, y] ∧ ks.Nodup ∧ (∀ n ∈ ks, n ∈ nm) ∧ ∀ n, n ∉ ks → cfs (l.take i) n = 0,
    ⟨[], _, _, _, _, _, rfl, List.nodup_nil, fun n h => (nomatch h), fun n h => rfl⟩, ?_, ?_⟩
  · rintro i d δ hd ⟨ks, u, v, w, z, y, rfl, nd, hs, h0⟩
    rw [List.getElem?_map] at hd
    cases hn : l[i]? with
    | none => rw [hn] at hd; cases hd
    | some p =>
      rw [hn] at hd
      cases hd
      obtain ⟨⟨k, ts, b⟩, c⟩ := p
      obtain ⟨ok, bc⟩ := hl1 _ (List.mem_of_getElem? hn)
      have htk := take_snoc hn
      rw [hB]
      show dgTup _ _ (.tup [.tup [.str (kdS k), .tup (ts.map tmD), .int b], .int c]) _ _
      refine body_cut fun K hK => ?_
      walk_at "rd"
      have go : ∀ wd, wd = kdS (kOf (stc (l.take (i + 1)))) → K [.dat (.lst (rows.map rwD)), .dat (.tup (ws.map D.int)), .dat (.str wd), .own da (.dct ks (ks.map fun n => .int (cfs (l.take i) n))), .dat (.int (bds (l.take i))), .dat (.tup [.str (kdS k), .tup (ts.map tmD), .int b]), .dat (.int c), w, z, y] := ?_
      · have e : stc (l.take (i + 1)) = (stc (l.take i) || (isM k && decide (0 < c))) := by rw [htk, stc_app, stc_one]
        cases k with
        | least =>
          refine ifn (by decide) (go _ ?_)
          rw [e]
          simp only [isM, Bool.false_and, Bool.or_false]
        | more =>
          refine ifp rfl (ite2 (fun hc => go _ ?_) fun hc => go _ ?_)
          · rw [e, decide_eq_true hc]
            simp only [isM, Bool.and_true, Bool.or_true]
            rfl
          · rw [e, decide_eq_false hc]
            simp only [isM, Bool.and_false, Bool.or_false]
      intro wd hwd
      rw [hK]
      refine seq_cut fun K2 hK2 => ?_
      simp only [dForT]
      walk_at "rd"
      refine ⟨fun j δ => ∃ ks w z y, δ = [.dat (.lst (rows.map rwD)), .dat (.tup (ws.map D.int)), .dat (.str wd), .own da (.dct ks (ks.map fun n => .int (cfs (l.take i) n + c * cf (ts.take j) n))), .dat (.int (bds (l.take i))), .dat (.tup [.str (kdS k), .tup (ts.map tmD), .int b]), .dat (.int c), w, z, y] ∧ ks.Nodup ∧ (∀ n ∈ ks, n ∈ nm) ∧ ∀ n, n ∉ ks → cfs (l.take i) n + c * cf (ts.take j) n = 0,
        ⟨ks, w, z, y, by simp only [List.take_zero, cf, Int.mul_zero, Int.add_zero], nd, hs, fun n hn => by rw [h0 n hn, List.take_zero]; show 0 + c * 0 = 0; omega⟩, ?_, ?_⟩
      · rintro j d δ hd ⟨ks, w, z, y, rfl, nd, hs, h0⟩
        obtain ⟨t, ht, rfl⟩ := terms_get hd
        have htm := List.mem_of_getElem? ht
        have hj := take_snoc ht
        walk_at "rd"
        rw [getD_map (h0 t.1)]
        refine ⟨mo2 bc (ok.bw t htm), by have := nd_le nd hs; omega, ?_, kPut_nd nd, fun n hn => ?_, fun n hn => ?_⟩
        · have e : ∀ n, cfs (l.take i) n + c * cf (ts.take (j + 1)) n = (cfs (l.take i) n + c * cf (ts.take j) n) + c * (if t.1 = n then t.2 else 0) := fun n => by
            rw [hj, cf_app, Int.mul_add]
            show _ + (_ + c * ((if t.1 = n then t.2 else 0) + 0)) = _
            rw [Int.add_zero, Int.add_assoc]
          have := put_map (ks := ks) (x := t.1) (f := fun n => D.int (cfs (l.take i) n + c * cf (ts.take j) n)) (g := fun n => D.int (cfs (l.take i) n + c * cf (ts.take (j + 1)) n)) (fun n hn => by rw [e, if_neg (fun z => hn z.symm), Int.mul_zero, Int.add_zero])
          rw [← this, e, if_pos rfl]
        · rcases mem_kPut.mp hn with h | h
          · exact hs n h
          · rw [h]; exact ok.sub t htm
        · rw [mem_kPut, not_or] at hn
          rw [hj, cf_app, Int.mul_add, ← Int.add_assoc, h0 n hn.1]
          show 0 + c * ((if t.1 = n then t.2 else 0) + 0) = 0
          rw [if_neg (fun z => hn.2 z.symm)]; omega
      · rintro δ ⟨ks, w, z, y, rfl, nd, hs, h0⟩
        have e1 : ts.take (ts.map tmD).length = ts := by rw [List.length_map, List.take_length]
        rw [e1] at h0 ⊢
        rw [hK2]
        walk_at "rd"
        have e2 : ∀ n, cfs (l.take (i + 1)) n = cfs (l.take i) n + c * cf ts n := fun n => by
          rw [htk, cfs_app]
          show _ + (c * cf ts n + 0) = _
          rw [Int.add_zero]
        simp only [e2]
        rw [htk, bds_app]
        exact ⟨mo2 bc ok.bb, by rw [← htk]; exact hwd, trivial, (by show _ = _ + (c * b + 0); rw [Int.add_zero]), nd, hs, fun n hn => h0 n hn⟩
  · rintro δ ⟨ks, u, v, w, z, y, rfl, nd, hs, h0⟩
    rw [List.length_map, List.take_length] at h0 ⊢
    rw [hN]
    walk_at "rd"
    have hk := nd_le nd hs
    refine ⟨by omega, fun ss' pm st => ?_⟩
    have hl' := pm.length_eq
    refine ⟨by rw [List.length_map]; omega, fun d => match d with | .str n => if cfs l n ≠ 0 then some (.tup [.str n, .int (cfs l n)]) else none | _ => none, fun x hx => ?_, ?_⟩
    · obtain ⟨n, hn, rfl⟩ := List.mem_map.mp hx
      have hnk : n ∈ ks := pm.mem_iff.mp hn
      walk_at "rd"
      refine ⟨_, dAt_self (fun n => D.int (cfs l n)) hnk, ?_⟩
      walk_at "rd"
      refine ite2 (fun hz => ?_) fun hz => ?_
      · exact ⟨_, dAt_self (fun n => D.int (cfs l n)) hnk, by rw [if_pos hz]⟩
      · rw [if_neg hz]
    · have e : (ss'.map D.str).filterMap (fun d => match d with | .str n => if cfs l n ≠ 0 then some (D.tup [.str n, .int (cfs l n)]) else none | _ => none) = ((ss'.filter fun n => decide (cfs l n ≠ 0)).map fun n => (n, cfs l n)).map tmD := by
        clear hl' pm st
        induction ss' with
        | nil => rfl
        | cons n r ih =>
          rw [List.map_cons, List.filterMap_cons]
          simp only
          by_cases hz : cfs l n ≠ 0
          · rw [if_pos hz, List.filter_cons_of_pos (by simpa using hz)]
            simp only [List.map_cons]
            rw [ih]; rfl
          · rw [if_neg hz, List.filter_cons_of_neg (by simpa using hz)]
            exact ih
      rw [e]
      exact q _ (IsSum.mk' (srt_pw st) (pm.nodup_iff.mpr nd) fun n hn => pm.mem_iff.mpr (Classical.byContradiction fun z => hn (h0 n z)))

def cellAt (ns : List Int) (k : Int) : Int := ns.getD k.toNat 0
def f__law_cell : List D → (D → Prop) → Prop := fun ds R => ∃ (ns : List Int) (k : Int), ds = [.fz (ns.map D.int), .int k] ∧ 0 ≤ k ∧ R (.int (cellAt ns k))
theorem f__law_cell_len : ∀ ds R, f__law_cell ds R → ds.length = 2 := fun _ _ ⟨_, _, e, _⟩ => by rw [e]; rfl
theorem atI_in {α : Type} {xs : List α} {k : Int} (h0 : 0 ≤ k) (h : k < xs.length) : atI xs k = xs[k.toNat]? := by
  unfold atI ixN
  rw [if_pos h0, if_pos h]
  rfl
abbrev s__law_cell : Stmt := top 3
theorem sc__law_cell : FnScope ["_law_script", "_law_k"] ["_law_script", "_law_k"] (defScope s__law_cell) := ⟨rfl, rfl, rfl, by decide +kernel, rfl, by decide +kernel, by decide +kernel⟩
theorem cal__law_cell {P : Program} {w : World} {K : PySem.W.Frag} {mg : Str → Option Value} {base : Heap} (F : Fd K mg "_law_cell" s__law_cell ["_law_script", "_law_k"]) (z_len : mg "len" = none) : Cal P w K mg base 1 "_law_cell" ["_law_script", "_law_k"] (spD K f__law_cell) := by
  refine fn_D F sc__law_cell f__law_cell_len fun fa cdv A outer s H E ds R hr h => ?_
  have hU := hr.units
  refine ⟨_, (dss_cons (ds_if (dt_cmp o_lt (de_v 1) (de_callB c_len rfl z_len b_len (da_cons (de_v 0) da_nil)) (nomark _)) (dss_one (ds_ret (de_ix x_seq (de_v 0) (de_v 1) (fun _ _ => rfl)))) dss_nil) (dss_one (ds_ret de_int))), ?_⟩
  obtain ⟨ns, k, rfl, h0, q⟩ := h
  walk_at "rd"
  refine ite2 (fun c => ?_) (fun c => ?_)
  · rw [List.length_map] at c
    refine ⟨.int (cellAt ns k), ?_, q⟩
    rw [atI_in h0 (by rw [List.length_map]; exact c), List.getElem?_map]
    have : k.toNat < ns.length := by omega
    unfold cellAt
    rw [List.getD_eq_getElem?_getD, List.getElem?_eq_getElem this]
    rfl
  · rw [List.length_map] at c
    have : ns.length ≤ k.toNat := by omega
    unfold cellAt at q
    rw [List.getD_eq_getElem?_getD, List.getElem?_eq_none this] at q
    exact q

theorem cut_to {α : Type} {xs : List α} {k : Nat} : cut xs none (some (k : Int)) = xs.take k := by
  unfold cut
  rw [HT.sIx_none, HT.sIx_nat, List.drop_zero, Nat.sub_zero]
  by_cases h : k ≤ xs.length
  · rw [Nat.min_eq_left h]
  · rw [Nat.min_eq_right (by omega), List.take_length, List.take_of_length_le (by omega)]
theorem atI_map {α β : Type} {f : α → β} {xs : List α} {k : Nat} (h : k < xs.length) : atI (xs.map f) (k : Int) = some (f xs[k]) := by
  rw [atI_in (by omega) (by rw [List.length_map]; omega), List.getElem?_map, Int.toNat_natCast, List.getElem?_eq_getElem h]
  rfl
theorem cell_bits {ns : List Int} {n : Nat} (hb : ∀ c ∈ ns, Builtin.Int.intBits c ≤ n) (k : Int) : Builtin.Int.intBits (cellAt ns k) ≤ n := by
  unfold cellAt
  rw [List.getD_eq_getElem?_getD]
  cases e : ns[k.toNat]? with
  | none => exact Nat.le_trans (by decide : Builtin.Int.intBits 0 ≤ 0) (Nat.zero_le _)
  | some c => exact hb c (List.mem_of_getElem? e)
theorem cut_map {α β : Type} (f : α → β) (l : List α) (lo hi : Option Int) : cut (l.map f) lo hi = (cut l lo hi).map f := by
  unfold cut
  rw [List.length_map, List.map_take, List.map_drop]
theorem cut_mem {α : Type} {l : List α} {lo hi : Option Int} {x : α} (h : x ∈ cut l lo hi) : x ∈ l := List.mem_of_mem_drop (List.mem_of_mem_take h)
theorem cut_le {α : Type} {l : List α} {lo hi : Option Int} : (cut l lo hi).length ≤ l.length := by
  unfold cut
  rw [List.length_take, List.length_drop]; omega
theorem cut_len {α : Type} {l : List α} (a b : Nat) : (cut l (some (a : Int)) (some (b : Int))).length ≤ b - a := by
  unfold cut
  rw [List.length_take, List.length_drop, HT.sIx_nat, HT.sIx_nat]; omega

theorem dv_bits {t b : Int} {n : Nat} (hb : b ≠ 0) (h : Builtin.Int.intBits b ≤ n) : Builtin.Int.intBits (dv t b) ≤ n := by
  refine intBits_le_of_natAbs ?_ h
  rw [dv_natAbs]
  exact Int.gcd_le_natAbs_right t hb
def f_made : List D → (D → Prop) → Prop := fun ds R => ∃ t b, ds = [.int t, .int b] ∧ b ≠ 0 ∧ Builtin.Int.intBits b ≤ 8000 ∧ R (.tup [.int (mkT t b), .int (mkB t b)])
theorem f_made_len : ∀ ds R, f_made ds R → ds.length = 2 := fun _ _ ⟨_, _, e, _⟩ => by rw [e]; rfl
theorem cnz {i j : Int} (h : j ≠ 0) : CNz i j := h
theorem cf_of {i j : Int} (h0 : j ≠ 0) (h : j.natAbs.log2 < 9000) : CFd i j := ⟨h0, h⟩
def f__law_number : List D → (D → Prop) → Prop := fun ds R => ∃ c, ds = [.int c] ∧ Builtin.Int.intBits c ≤ 1048580 ∧ ∀ r, Builtin.Int.intBits r ≤ 200 → R (.int r)
theorem f__law_number_len : ∀ ds R, f__law_number ds R → ds.length = 1 := fun _ _ ⟨_, e, _⟩ => by rw [e]; rfl
abbrev s__law_number : Stmt := top 4
theorem sc__law_number : FnScope ["_law_cell_here", "_law_kind"] ["_law_cell_here"] (defScope s__law_number) := ⟨rfl, rfl, rfl, by decide +kernel, rfl, by decide +kernel, by decide +kernel⟩
theorem cal__law_number {P : Program} {w : World} {K : PySem.W.Frag} {mg : Str → Option Value} {base : Heap} (F : Fd K mg "_law_number" s__law_number ["_law_cell_here"]) : Cal P w K mg base 1 "_law_number" ["_law_cell_here"] (spD K f__law_number) := by
  refine fn_D F sc__law_number f__law_number_len fun fa cdv A outer s H E ds R hr h => ?_
  have hU := hr.units
  refine ⟨_, (dss_cons (ds_set 1 sc__law_number.nd (de_op o_mod (de_v 0) de_int)) (dss_cons (ds_set 0 sc__law_number.nd (de_op o_fdiv (de_v 0) de_int)) (dss_cons (ds_if (dt_cmp (o_eq hU) (de_v 1) de_int (nomark _)) (dss_one (ds_ret de_int)) dss_nil) (dss_cons (ds_if (dt_cmp o_lt (de_v 1) de_int (nomark _)) (dss_one (ds_ret (de_op o_sub (de_op o_mod (de_v 0) de_int) de_int))) dss_nil) (dss_one (ds_ret (de_op o_sub (de_op o_mod (de_v 0) (de_op o_plus (de_op o_mul de_int (de_op o_pow de_int de_int)) de_int)) (de_op o_pow de_int de_int)))))))), ?_⟩
  obtain ⟨c, rfl, hc, q⟩ := h
  walk_at "rd"
  have e20 : (10 : Int) ^ Int.toNat 20 = 100000000000000000000 := by decide +kernel
  rw [e20]
  refine ⟨cnz (by decide), cf_of (by decide) (by decide +kernel), ite2 (fun _ => q 0 (by decide)) fun _ => ite2 (fun _ => ⟨cnz (by decide), q _ ?_⟩) fun _ => ⟨⟨by decide, by decide, by decide⟩, IntMulOk.of_left (by decide), cnz (by decide), ⟨by decide, by decide, by decide⟩, q _ ?_⟩⟩
  · have a0 := Int.fmod_nonneg_of_pos (c.fdiv 5) (b := 7) (by decide)
    have a1 := Int.fmod_lt_of_pos (c.fdiv 5) (b := 7) (by decide)
    exact intBits_le_iff.mpr (by rw [show (2 : Nat) ^ 200 = 1606938044258990275541962092341162602522202993782792835301376 by decide +kernel]; omega)
  · have a0 := Int.fmod_nonneg_of_pos (c.fdiv 5) (b := 2 * 100000000000000000000 + 1) (by decide)
    have a1 := Int.fmod_lt_of_pos (c.fdiv 5) (b := 2 * 100000000000000000000 + 1) (by decide)
    exact intBits_le_iff.mpr (by rw [show (2 : Nat) ^ 200 = 1606938044258990275541962092341162602522202993782792835301376 by decide +kernel]; omega)
def wg (c : Int) : Int := if c.fmod 3 = 0 then 0 else if c.fmod 3 = 1 then (c.fdiv 3).fmod 6 else (c.fdiv 3).fmod 1000000000000000000000000000000000000000000000000000000000000
theorem wg_bits (c : Int) : Builtin.Int.intBits (wg c) ≤ 200 := by
  have bb : ∀ {x : Int}, 0 ≤ x → x < 1000000000000000000000000000000000000000000000000000000000000 → Builtin.Int.intBits x ≤ 200 := fun h0 h1 => intBits_le_iff.mpr (by rw [show (2 : Nat) ^ 200 = 1606938044258990275541962092341162602522202993782792835301376 by decide +kernel]; omega)
  have a0 := Int.fmod_nonneg_of_pos (c.fdiv 3) (b := 6) (by decide)
  have a1 := Int.fmod_lt_of_pos (c.fdiv 3) (b := 6) (by decide)
  have b0 := Int.fmod_nonneg_of_pos (c.fdiv 3) (b := 1000000000000000000000000000000000000000000000000000000000000) (by decide)
  have b1 := Int.fmod_lt_of_pos (c.fdiv 3) (b := 1000000000000000000000000000000000000000000000000000000000000) (by decide)
  unfold wg
  split
  · decide
  · split
    · exact bb a0 (by omega)
    · exact bb b0 b1
def f__law_weight : List D → (D → Prop) → Prop := fun ds R => ∃ c, ds = [.int c] ∧ Builtin.Int.intBits c ≤ 1048580 ∧ R (.int (wg c))
theorem f__law_weight_len : ∀ ds R, f__law_weight ds R → ds.length = 1 := fun _ _ ⟨_, e, _⟩ => by rw [e]; rfl
abbrev s__law_weight : Stmt := top 7
theorem sc__law_weight : FnScope ["_law_cell_here"] ["_law_cell_here"] (defScope s__law_weight) := ⟨rfl, rfl, rfl, by decide +kernel, rfl, by decide +kernel, by decide +kernel⟩
theorem cal__law_weight {P : Program} {w : World} {K : PySem.W.Frag} {mg : Str → Option Value} {base : Heap} (F : Fd K mg "_law_weight" s__law_weight ["_law_cell_here"]) : Cal P w K mg base 1 "_law_weight" ["_law_cell_here"] (spD K f__law_weight) := by
  refine fn_D F sc__law_weight f__law_weight_len fun fa cdv A outer s H E ds R hr h => ?_
  have hU := hr.units
  refine ⟨_, (dss_one (ds_ret (de_ix x_seq (de_lst (da_cons de_int (da_cons (de_op o_mod (de_op o_fdiv (de_v 0) de_int) de_int) (da_cons (de_op o_mod (de_op o_fdiv (de_v 0) de_int) (de_op o_pow de_int de_int)) da_nil)))) (de_op o_mod (de_v 0) de_int) (fun _ _ => rfl)))), ?_⟩
  obtain ⟨c, rfl, hc, q⟩ := h
  walk_at "rd"
  have e60 : (10 : Int) ^ Int.toNat 60 = 1000000000000000000000000000000000000000000000000000000000000 := by decide +kernel
  rw [e60]
  have m0 := Int.fmod_nonneg_of_pos c (b := 3) (by decide)
  have m1 := Int.fmod_lt_of_pos c (b := 3) (by decide)
  have h3 : c.fmod 3 = 0 ∨ c.fmod 3 = 1 ∨ c.fmod 3 = 2 := by omega
  refine ⟨cf_of (by decide) (by decide +kernel), cnz (by decide), cf_of (by decide) (by decide +kernel), ⟨by decide, by decide, by decide⟩, cnz (by decide), cnz (by decide), ?_⟩
  rcases h3 with h3 | h3 | h3 <;> rw [h3]
  · exact ⟨_, at0, by unfold wg at q; rw [if_pos h3] at q; exact q⟩
  · exact ⟨_, at1, by unfold wg at q; rw [if_neg (by omega), if_pos h3] at q; exact q⟩
  · exact ⟨_, at2, by unfold wg at q; rw [if_neg (by omega), if_neg (by omega)] at q; exact q⟩
/-- two sets of names -/
def nmO (c : Int) : List Str := if c.fmod 2 = 1 then ["b", "k", "q", "z"] else ["a", "b", "c", "d"]
def nm7 : List Str := ["a", "b", "c", "d", "k", "q", "z"]
def f__law_row : List D → (D → Prop) → Prop := fun ds R => ∃ cs : List Int, ds = [.lst (cs.map D.int)] ∧ cs.length = 6 ∧ (∀ c ∈ cs, Builtin.Int.intBits c ≤ 1048580) ∧ ∀ r : Rw, RwOk nm7 200 r → r.2.1.length ≤ 4 → R (rwD r)
theorem f__law_row_len : ∀ ds R, f__law_row ds R → ds.length = 1 := fun _ _ ⟨_, e, _⟩ => by rw [e]; rfl
abbrev s__law_row : Stmt := top 5
theorem sc__law_row : FnScope ["_law_cells", "_law_names", "_law_terms", "_law_k", "_law_weight_here"] ["_law_cells"] (defScope s__law_row) := ⟨rfl, rfl, rfl, by decide +kernel, rfl, by decide +kernel, by decide +kernel⟩
theorem cal__law_row {P : Program} {w : World} {K : PySem.W.Frag} {mg : Str → Option Value} {base : Heap} (F : Fd K mg "_law_row" s__law_row ["_law_cells"]) (c__law_number : Cal P w K mg base 1 "_law_number" ["_law_cell_here"] (spD K (f__law_number))) (z_range : mg "range" = none) (z_tuple : mg "tuple" = none) : Cal P w K mg base 2 "_law_row" ["_law_cells"] (spD K f__law_row) := by
  refine fn_D F sc__law_row f__law_row_len fun fa cdv A outer s H E ds R hr h => ?_
  have hU := hr.units
  refine ⟨_, (dss_cons (ds_set 1 sc__law_row.nd (de_lst (da_cons de_str (da_cons de_str (da_cons de_str (da_cons de_str da_nil)))))) (dss_cons (ds_if (dt_cmp (o_eq hU) (de_op o_mod (de_ix x_seq (de_v 0) de_int (fun _ _ => rfl)) de_int) de_int (nomark _)) (dss_one (ds_set 1 sc__law_row.nd (de_lst (da_cons de_str (da_cons de_str (da_cons de_str (da_cons de_str da_nil))))))) dss_nil) (dss_cons (ds_newL 2 sc__law_row.nd da_nil) (dss_cons (ds_forR PassesOwn.never rfl rfl z_range (da_cons de_int da_nil) (dg_name 3 sc__law_row.nd) (dss_cons (ds_set 4 sc__law_row.nd (de_cal c__law_number (hr.mono (by decide)) rfl (da_cons (de_ix x_seq (de_v 0) (de_op o_plus de_int (de_v 3)) (fun _ _ => rfl)) da_nil))) (dss_one (ds_if (dt_cmp (o_neq hU) (de_v 4) de_int (nomark _)) (dss_one (ds_appendO 2 (de_tup (da_cons (de_ix x_seq (de_v 1) (de_v 3) (fun _ _ => rfl)) (da_cons (de_v 4) da_nil))))) dss_nil)))) (dss_one (ds_ret (de_tup (da_cons (de_ix x_seq (de_lst (da_cons de_str (da_cons de_str da_nil))) (de_op o_mod (de_op o_fdiv (de_ix x_seq (de_v 0) de_int (fun _ _ => rfl)) de_int) de_int) (fun _ _ => rfl)) (da_cons (de_tupleO 2 rfl z_tuple b_tuple) (da_cons (de_cal c__law_number (hr.mono (by decide)) rfl (da_cons (de_ix x_seq (de_v 0) de_int (fun _ _ => rfl)) da_nil)) da_nil)))))))))), ?_⟩
  obtain ⟨cs, rfl, hl, hb, q⟩ := h
  have ca : ∀ k : Nat, (h : k < 6) → atI (cs.map D.int) (k : Int) = some (.int (cs[k]'(by omega))) := fun k h => atI_map (by omega)
  have cb : ∀ k : Nat, (h : k < 6) → Builtin.Int.intBits (cs[k]'(by omega)) ≤ 1048580 := fun k h => hb _ (List.getElem_mem _)
  refine seq_cut fun K hK => ?_
  walk_at "rd"
  rw [hK]
  refine seq_cut fun K2 hK2 => ?_
  walk_at "rd"
  refine ⟨_, ca 0 (by decide), ?_⟩
  walk_at "rd"
  have go : ∀ nms : List Str, nms.length = 4 → (∀ n ∈ nms, n ∈ nm7) → K2 [.dat (.lst (cs.map D.int)), .dat (.lst (nms.map D.str)), .no, .no, .no] := ?_
  · exact ⟨cnz (by decide), ite2 (fun _ => go ["b", "k", "q", "z"] rfl (by decide +kernel)) fun _ => go ["a", "b", "c", "d"] rfl (by decide +kernel)⟩
  intro nms hn4 hn7
  rw [hK2]
  walk_at "rd"
  intro ta
  simp only [dForR]
  walk_at "rd"
  refine ⟨by decide, by decide, fun i δ => ∃ ts x y, δ = [.dat (.lst (cs.map D.int)), .dat (.lst (nms.map D.str)), .own ta (.lst (ts.map tmD)), x, y] ∧ ts.length ≤ i ∧ ∀ t ∈ ts, t.1 ∈ nm7 ∧ Builtin.Int.intBits t.2 ≤ 200, ⟨[], _, _, rfl, Nat.le_refl _, fun _ h => (nomatch h)⟩, ?_, ?_⟩
  · rintro i δ hi ⟨ts, x, y, rfl, hlt, hts⟩
    have hi : i < 4 := hi
    walk_at "rd"
    refine ⟨_, (by rw [show (1 : Int) + (i : Int) = ((i + 1 : Nat) : Int) by omega]; exact ca (i + 1) (by omega)), _, rfl, cb (i + 1) (by omega), fun r br => ?_⟩
    walk_at "rd"
    refine ite2 (fun hz => ?_) fun hz => ?_
    · refine ⟨_, atI_map (by omega), ?_⟩
      refine ⟨by rw [List.length_map]; omega, ts ++ [(nms[i]'(by omega), r)], by rw [List.map_append]; rfl, by rw [List.length_append, List.length_singleton]; omega, fun t ht => ?_⟩
      rcases List.mem_append.mp ht with ht | ht
      · exact hts t ht
      · rw [List.mem_singleton.mp ht]; exact ⟨hn7 _ (List.getElem_mem _), br⟩
    · exact ⟨ts, rfl, by omega, hts⟩
  · rintro δ ⟨ts, x, y, rfl, hlt, hts⟩
    have hlt : ts.length ≤ 4 := hlt
    walk_at "rd"
    refine ⟨_, ca 0 (by decide), ?_⟩
    walk_at "rd"
    have m0 := Int.fmod_nonneg_of_pos (Int.fdiv (cs[0]'(by omega)) 2) (b := 2) (by decide)
    have m1 := Int.fmod_lt_of_pos (Int.fdiv (cs[0]'(by omega)) 2) (b := 2) (by decide)
    have h2 : (Int.fdiv (cs[0]'(by omega)) 2).fmod 2 = 0 ∨ (Int.fdiv (cs[0]'(by omega)) 2).fmod 2 = 1 := by omega
    refine ⟨cf_of (by decide) (by decide +kernel), cnz (by decide), ?_⟩
    rcases h2 with h2 | h2 <;> rw [h2]
    · refine ⟨_, at0, ?_⟩
      refine ⟨_, ca 5 (by decide), _, rfl, cb 5 (by decide), fun r br => ?_⟩
      exact q (.least, ts, r) ⟨fun t h => (hts t h).1, fun t h => (hts t h).2, br⟩ hlt
    · refine ⟨_, at1, ?_⟩
      refine ⟨_, ca 5 (by decide), _, rfl, cb 5 (by decide), fun r br => ?_⟩
      exact q (.more, ts, r) ⟨fun t h => (hts t h).1, fun t h => (hts t h).2, br⟩ hlt
def pD (p : Rw × Int) : D := .tup [rwD p.1, .int p.2]
def mF : D → Option D
  | .tup [.tup (.str k :: r), .int c] => if k = ("more" : Str) ∧ 0 < c then some (.tup (.str k :: r)) else none
  | _ => none
theorem mF_p {p : Rw × Int} : mF (pD p) = if kdS p.1.1 = ("more" : Str) ∧ 0 < p.2 then some (rwD p.1) else none := rfl
theorem mF_len : ∀ l : List (Rw × Int), (0 < ((l.map pD).filterMap mF).length) ↔ stc l = true
  | [] => ⟨fun h => (nomatch h), fun h => (nomatch h)⟩
  | p :: r => by
    have ih := mF_len r
    have e : stc (p :: r) = ((isM p.1.1 && decide (0 < p.2)) || stc r) := List.any_cons
    rw [List.map_cons, List.filterMap_cons, mF_p, e]
    by_cases h : kdS p.1.1 = ("more" : Str) ∧ 0 < p.2
    · rw [if_pos h]
      have : isM p.1.1 = true := by rw [← kdS_eq]; exact decide_eq_true h.1
      rw [this, decide_eq_true h.2]
      exact ⟨fun _ => rfl, fun _ => Nat.succ_pos _⟩
    · rw [if_neg h]
      have : (isM p.1.1 && decide (0 < p.2)) = false := by
        rw [← kdS_eq]
        by_cases h1 : kdS p.1.1 = ("more" : Str)
        · rw [decide_eq_true h1, decide_eq_false (fun z => h ⟨h1, z⟩)]; rfl
        · rw [decide_eq_false h1]; rfl
      rw [this, Bool.false_or]
      exact ih
def sF : D → Option D
  | .tup [.tup [_, _, .int b], .int c] => some (.int (b * c))
  | _ => none
theorem sF_all : ∀ l : List (Rw × Int), (l.map pD).filterMap sF = (l.map fun p => p.1.2.2 * p.2).map D.int
  | [] => rfl
  | p :: r => by
    rw [List.map_cons, List.filterMap_cons, List.map_cons, List.map_cons, ← sF_all r]; rfl
theorem bds_sum : ∀ l : List (Rw × Int), (l.map fun p => p.1.2.2 * p.2).sum = bds l
  | [] => rfl
  | p :: r => by rw [List.map_cons, List.sum_cons, bds_sum r, Int.mul_comm]; rfl
theorem nm7_pw : nm7.Pairwise leS := by unfold nm7 leS; decide +kernel
def f__law_due : List D → (D → Prop) → Prop := fun ds R => ∃ (rows : List Rw) (ws : List Int), ds = [.lst (rows.map rwD), .tup (ws.map D.int)] ∧ rows.length ≤ 6 ∧ (∀ r ∈ rows, RwOk nm7 200 r ∧ r.2.1.length ≤ 4) ∧ (∀ w ∈ ws, Builtin.Int.intBits w ≤ 200) ∧
  ∀ ts, IsSum (cfs (rows.zip ws)) ts → R (rowD (kOf (stc (rows.zip ws))) ts (bds (rows.zip ws)))
theorem f__law_due_len : ∀ ds R, f__law_due ds R → ds.length = 2 := fun _ _ ⟨_, _, e, _⟩ => by rw [e]; rfl
abbrev s__law_due : Stmt := top 6
theorem sc__law_due : FnScope ["_law_rows", "_law_weights", "_law_terms", "_law_name", "_law_found", "_law_row_here", "_law_many", "_law_other", "_law_weight_here", "_law_strict"] ["_law_rows", "_law_weights"] (defScope s__law_due) := ⟨rfl, rfl, rfl, by decide +kernel, rfl, by decide +kernel, by decide +kernel⟩
theorem cal__law_due {P : Program} {w : World} {K : PySem.W.Frag} {mg : Str → Option Value} {base : Heap} (F : Fd K mg "_law_due" s__law_due ["_law_rows", "_law_weights"]) (z_zip : mg "zip" = none) (z_int : mg "int" = none) (z_len : mg "len" = none) (z_sum : mg "sum" = none) (z_tuple : mg "tuple" = none) : Cal P w K mg base 1 "_law_due" ["_law_rows", "_law_weights"] (spD K f__law_due) := by
  refine fn_D F sc__law_due f__law_due_len fun fa cdv A outer s H E ds R hr h => ?_
  have hU := hr.units
  refine ⟨_, (dss_cons (ds_newL 2 sc__law_due.nd da_nil) (dss_cons (ds_forL PassesOwn.never rfl (de_lst (da_cons de_str (da_cons de_str (da_cons de_str (da_cons de_str (da_cons de_str (da_cons de_str (da_cons de_str da_nil)))))))) (dg_name 3 sc__law_due.nd) (dss_cons (ds_set 4 sc__law_due.nd de_int) (dss_cons (ds_for PassesOwn.never rfl (ci_zip true false rfl z_zip (da_cons (de_v 0) (da_cons (de_v 1) da_nil))) (dg_tup (n := 2) rfl (dgs_cons (dg_name 5 sc__law_due.nd) (dgs_cons (dg_name 6 sc__law_due.nd) dgs_nil))) (dss_one (ds_forT PassesOwn.never rfl (de_ix x_seq (de_v 5) de_int (fun _ _ => rfl)) (dg_tup (n := 2) rfl (dgs_cons (dg_name 7 sc__law_due.nd) (dgs_cons (dg_name 8 sc__law_due.nd) dgs_nil))) (dss_one (ds_set 4 sc__law_due.nd (de_op o_plus (de_v 4) (de_op o_mul (de_op o_mul (de_callTy c_int rfl z_int b_int (da_cons (de_cmp (o_eq hU) (de_v 3) (de_v 7) (nomark _)) da_nil)) (de_v 6)) (de_v 8)))))))) (dss_one (ds_if (dt_cmp (o_neq hU) (de_v 4) de_int (nomark _)) (dss_one (ds_appendO 2 (de_tup (da_cons (de_v 3) (da_cons (de_v 4) da_nil))))) dss_nil))))) (dss_cons (ds_set 9 sc__law_due.nd (de_cmp o_gt (de_callB c_len rfl z_len b_len (da_cons (de_comp ["_law_row_here", "_law_many"] [] rfl rfl (by decide +kernel) rfl (by decide +kernel) (cl_sub trivial) (cl_has rfl) (cap_all trivial) (ci_zip true false rfl z_zip (da_cons (de_v 0) (da_cons (de_v 1) da_nil))) fun _ _ _ _ _ => ⟨(dg_tup (n := 2) rfl (dgs_cons (dg_name 0 (show List.Nodup (["_law_row_here", "_law_many"] : List Str) by decide +kernel)) (dgs_cons (dg_name 1 (show List.Nodup (["_law_row_here", "_law_many"] : List Str) by decide +kernel)) dgs_nil))), (cf_one (DW.dt (dw_and (dt_cmp (o_eq hU) (de_ix x_seq (de_v 0) de_int (fun _ _ => rfl)) de_str (nomark _)) (dw_and1 (dt_cmp o_gt (de_v 1) de_int (nomark _)))))), (de_v 0)⟩) da_nil)) de_int (nomark _))) (dss_one (ds_ret (de_tup (da_cons (de_ix x_seq (de_lst (da_cons de_str (da_cons de_str da_nil))) (de_callTy c_int rfl z_int b_int (da_cons (de_v 9) da_nil)) (fun _ _ => rfl)) (da_cons (de_tupleO 2 rfl z_tuple b_tuple) (da_cons (de_callB (c_sum rfl) rfl z_sum b_sum (da_cons (de_comp ["_law_row_here", "_law_many"] [] rfl rfl (by decide +kernel) rfl (by decide +kernel) (cl_sub trivial) (cl_has rfl) (cap_all trivial) (ci_zip true false rfl z_zip (da_cons (de_v 0) (da_cons (de_v 1) da_nil))) fun _ _ _ _ _ => ⟨(dg_tup (n := 2) rfl (dgs_cons (dg_name 0 (show List.Nodup (["_law_row_here", "_law_many"] : List Str) by decide +kernel)) (dgs_cons (dg_name 1 (show List.Nodup (["_law_row_here", "_law_many"] : List Str) by decide +kernel)) dgs_nil))), cf_nil, (de_op o_mul (de_ix x_seq (de_v 0) de_int (fun _ _ => rfl)) (de_v 1))⟩) da_nil)) da_nil))))))))), ?_⟩
  obtain ⟨rows, ws, rfl, hr6, hr, hw, q⟩ := h
  walk_at "rd"
  intro ta
  refine forL_cut fun B N hB hN => ?_
  simp only [dForLF]
  walk_at "rd"
  generalize hl : rows.zip ws = l at q
  have hl1 : ∀ p ∈ l, (RwOk nm7 200 p.1 ∧ p.1.2.1.length ≤ 4) ∧ Builtin.Int.intBits p.2 ≤ 200 := fun p hp => by
    rw [← hl] at hp
    exact ⟨hr _ (List.of_mem_zip hp).1, hw _ (List.of_mem_zip hp).2⟩
  have hl6 : l.length ≤ 6 := by rw [← hl, List.length_zip]; omega
  refine ⟨fun i δ => ∃ x y z u v w f, δ = [.dat (.lst (rows.map rwD)), .dat (.tup (ws.map D.int)), .own ta (.lst ((((nm7.take i).filter fun n => decide (cfs l n ≠ 0)).map fun n => (n, cfs l n)).map tmD)), x, y, z, u, v, w, f], ⟨_, _, _, _, _, _, _, rfl⟩, ?_, ?_⟩
  · rintro i d δ hd ⟨x, y, z, u, v, w, f, rfl⟩
    obtain ⟨n, hn, rfl⟩ := names_get (names := nm7) hd
    rw [hB]
    refine body_cut fun K hK => ?_
    walk_at "rd"
    rw [hK]
    refine seq_cut fun K2 hK2 => ?_
    refine for_cut fun B2 N2 hB2 hN2 => ?_
    simp only [dForF]
    walk_at "rd"
    rw [zip_rows, hl]
    refine ⟨fun j δ => ∃ y z u v w, δ = [.dat (.lst (rows.map rwD)), .dat (.tup (ws.map D.int)), .own ta (.lst ((((nm7.take i).filter fun n => decide (cfs l n ≠ 0)).map fun n => (n, cfs l n)).map tmD)), .dat (.str n), .dat (.int (cfs (l.take j) n)), y, z, u, v, w], ⟨_, _, _, _, _, rfl⟩, ?_, ?_⟩
    · rintro j d δ hd ⟨y, z, u, v, w, rfl⟩
      rw [List.getElem?_map] at hd
      cases hj : l[j]? with
      | none => rw [hj] at hd; cases hd
      | some p =>
        rw [hj] at hd
        cases hd
        obtain ⟨⟨k, ts, b⟩, c⟩ := p
        obtain ⟨⟨ok, _⟩, bc⟩ := hl1 _ (List.mem_of_getElem? hj)
        have htk := take_snoc hj
        rw [hB2]
        show dgTup _ _ (.tup [.tup [.str (kdS k), .tup (ts.map tmD), .int b], .int c]) _ _
        simp only [dForT]
        walk_at "rd"
        refine ⟨fun m δ => ∃ u v, δ = [.dat (.lst (rows.map rwD)), .dat (.tup (ws.map D.int)), .own ta (.lst ((((nm7.take i).filter fun n => decide (cfs l n ≠ 0)).map fun n => (n, cfs l n)).map tmD)), .dat (.str n), .dat (.int (cfs (l.take j) n + c * cf (ts.take m) n)), .dat (.tup [.str (kdS k), .tup (ts.map tmD), .int b]), .dat (.int c), u, v, w], ⟨u, v, by simp only [List.take_zero, cf, Int.mul_zero, Int.add_zero]⟩, ?_, ?_⟩
        · rintro m d δ hd ⟨u, v, rfl⟩
          obtain ⟨t, ht, rfl⟩ := terms_get hd
          have hm := take_snoc ht
          have bt := ok.bw t (List.mem_of_getElem? ht)
          walk_at "rd"
          have b1 : Builtin.Int.intBits (if n = t.1 then 1 else 0) ≤ 64 := by
            by_cases e : n = t.1
            · rw [if_pos e]; decide
            · rw [if_neg e]; decide
          refine ⟨mo2 b1 bc, mo2 (intBits_mul_le b1 bc) bt, ?_⟩
          rw [hm, cf_app, Int.mul_add, ← Int.add_assoc]
          congr 1
          show _ = c * ((if t.1 = n then t.2 else 0) + 0)
          by_cases e : n = t.1
          · rw [if_pos e, if_pos e.symm, Int.one_mul, Int.add_zero]
          · rw [if_neg e, if_neg (fun z => e z.symm), Int.zero_mul, Int.zero_mul, Int.add_zero, Int.mul_zero]
        · rintro δ ⟨u, v, rfl⟩
          rw [List.length_map, List.take_length]
          walk_at "rd"
          rw [htk, cfs_app]
          show _ = _ + (c * cf ts n + 0)
          rw [Int.add_zero]
    · rintro δ ⟨y, z, u, v, w, rfl⟩
      rw [List.length_map, List.take_length, hN2, hK2]
      have hm := take_snoc hn
      have hlt : ((nm7.take i).filter fun n => decide (cfs l n ≠ 0)).length ≤ 7 := Nat.le_trans (List.length_filter_le _ _) (by rw [List.length_take]; exact Nat.min_le_right _ _)
      walk_at "rd"
      refine ite2 (fun hz => ?_) fun hz => ?_
      · refine ⟨by rw [List.length_map, List.length_map]; omega, ?_⟩
        rw [hm, List.filter_append, List.filter_cons_of_pos (by simpa using hz)]
        simp only [List.map_append, List.filter_nil, List.map_cons, List.map_nil]
        rfl
      · rw [hm, List.filter_append, List.filter_cons_of_neg (by simpa using hz), List.filter_nil, List.append_nil]
  · rintro δ ⟨x, y, z, u, v, w, f, rfl⟩
    rw [hN]
    walk_at "rd"
    have ez : zipD (rows.map rwD) (ws.map D.int) = l.map pD := by rw [zip_rows, hl]; rfl
    have hlen : (l.map pD).length ≤ 1000 := by rw [List.length_map]; omega
    rw [ez]
    have ha : atI [D.str ("least" : Str), D.str ("more" : Str)] (if (0 : Int) < (((l.map pD).filterMap mF).length : Nat) then 1 else 0) = some (.str (kdS (kOf (stc l)))) := by
      by_cases h : stc l = true
      · rw [if_pos (by have := (mF_len l).mpr h; omega), h]; exact at1
      · rw [if_neg (fun z => h ((mF_len l).mp (by omega))), Bool.eq_false_iff.mpr h]; exact at0
    refine ⟨hlen, mF, fun x hx => ?_, _, ha, hlen, sF, fun x hx => ?_, _, sF_all l, ?_⟩
    · obtain ⟨⟨⟨k, ts, b⟩, c⟩, hp, rfl⟩ := List.mem_map.mp hx
      refine ⟨_, rfl, rfl, _, _, rfl, _, _, rfl, rfl, ?_⟩
      unfold rwD rowD
      walk_at "rd"
      refine ite2 (fun h1 => ite2 (fun h2 => ?_) fun h2 => ?_) fun h1 => ?_
      · rw [mF_p, if_pos ⟨h1, h2⟩]; rfl
      · rw [mF_p, if_neg (fun z => h2 z.2)]
      · rw [mF_p, if_neg (fun z => h1 z.1)]
    · obtain ⟨⟨⟨k, ts, b⟩, c⟩, hp, rfl⟩ := List.mem_map.mp hx
      obtain ⟨⟨ok, _⟩, bc⟩ := hl1 _ hp
      refine ⟨_, rfl, rfl, _, _, rfl, _, _, rfl, rfl, ?_⟩
      unfold rwD rowD
      walk_at "rd"
      exact ⟨mo2 ok.bb bc, rfl⟩
    · rw [bds_sum]
      exact q _ (IsSum.mk' nm7_pw (by decide +kernel) fun n hn => cfs_sub (fun p hp => (hl1 p hp).1.1.sub) hn)
abbrev s_law : Stmt := top 8
theorem sc_law : FnScope ["_law_script", "_law_rows", "_law_k", "_law_sort", "_law_handed", "_law_weights", "_law_found", "_law_part"] ["_law_script"] (defScope s_law) := ⟨rfl, rfl, rfl, by decide +kernel, rfl, by decide +kernel, by decide +kernel⟩
theorem okl_law {P : Program} {w : World} {K : PySem.W.Frag} {mg : Str → Option Value} {base : Heap} {fa : Addr} {fd : FuncData} (F : Fun K "law" "law" s_law fa fd) (c__law_row : Cal P w K mg base 2 "_law_row" ["_law_cells"] (spD K (f__law_row))) (c__law_weight : Cal P w K mg base 1 "_law_weight" ["_law_cell_here"] (spD K (f__law_weight))) (c__law_cell : Cal P w K mg base 1 "_law_cell" ["_law_script", "_law_k"] (spD K (f__law_cell))) (c_added : Cal P w K mg base 1 "added" ["rows", "weights"] (spD K (f_added))) (c__law_due : Cal P w K mg base 1 "_law_due" ["_law_rows", "_law_weights"] (spD K (f__law_due))) (z_range : mg "range" = none) (z_min : mg "min" = none) (z_len : mg "len" = none) (z_list : mg "list" = none) (z_tuple : mg "tuple" = none) (z_isinstance : mg "isinstance" = none) (z_bool : mg "bool" = none) (z_int : mg "int" = none) : FnOk P w K mg base CX0 3 fa fd ["_law_script"] (spD K fLaw) := by
  refine fn_D' F sc_law (fun ds R ⟨ns, e, _⟩ => by rw [e]; rfl) fun cdv A outer s H E ds R hr h => ?_
  have hU := hr.units
  refine ⟨_, (dss_cons (ds_newL 1 sc_law.nd da_nil) (dss_cons (ds_forR PassesOwn.never rfl rfl z_range (da_cons (de_op o_fdiv (de_callB (c_min rfl) rfl z_min b_min (da_cons (de_callB c_len rfl z_len b_len (da_cons (de_v 0) da_nil)) (da_cons de_int da_nil))) de_int) da_nil) (dg_name 2 sc_law.nd) (dss_cons (ds_set 3 sc_law.nd (de_op o_plus (de_op o_mod (de_ix x_seq (de_v 0) de_int (fun _ _ => rfl)) de_int) (de_op o_mul de_int (de_op o_fdiv (de_ix x_seq (de_v 0) (de_op o_mul de_int (de_v 2)) (fun _ _ => rfl)) de_int)))) (dss_one (ds_appendO 1 (de_cal c__law_row (hr.mono (by decide)) rfl (da_cons (de_op o_plus (de_lst (da_cons (de_v 3) da_nil)) (de_slL (de_v 0) (do_some (de_op o_plus (de_op o_mul de_int (de_v 2)) de_int)) (do_some (de_op o_plus (de_op o_mul de_int (de_v 2)) de_int)))) da_nil)))))) (dss_freeze 1 (dss_cons (ds_set 4 sc_law.nd (de_callTy c_list rfl z_list b_list (da_cons (de_v 1) da_nil))) (dss_cons (ds_set 5 sc_law.nd (de_callTy c_tuple rfl z_tuple b_tuple (da_cons (de_comp ["_law_k"] [(0, "_law_script")] rfl rfl (by decide +kernel) rfl (by decide +kernel) (cl_sub ⟨rfl, trivial⟩) (cl_has rfl) (cap_all ⟨⟨rfl, rfl, .inl rfl⟩, trivial⟩) (ci_range rfl z_range (da_cons (de_callB c_len rfl z_len b_len (da_cons (de_v 1) da_nil)) da_nil)) fun _ _ _ _ _ => ⟨(dg_name 0 (show List.Nodup (["_law_k", "_law_script"] : List Str) by decide +kernel)), cf_nil, (de_cal c__law_weight (hr.mono (by decide)) rfl (da_cons (de_cal c__law_cell (hr.mono (by decide)) rfl (da_cons (de_v 1) (da_cons (de_op o_plus de_int (de_v 0)) da_nil))) da_nil))⟩) da_nil))) (dss_cons (ds_set 6 sc_law.nd (de_cal c_added (hr.mono (by decide)) rfl (da_cons (de_v 4) (da_cons (de_v 5) da_nil)))) (dss_cons (ds_if (DW.dt (dw_or (dt_not (dt_val (de_isi ty_tuple rfl z_isinstance rfl z_tuple b_tuple (de_v 6)))) (dw_or (dt_cmp (o_neq hU) (de_callB c_len rfl z_len b_len (da_cons (de_v 6) da_nil)) de_int (nomark _)) (dw_or (dt_not (dt_val (de_isi ty_tuple rfl z_isinstance rfl z_tuple b_tuple (de_ix x_seq (de_v 6) de_int (fun _ _ => rfl))))) (dw_or1 (dt_cmp (o_neq hU) (de_v 4) (de_v 1) (nomark _))))))) (dss_one (ds_ret de_bl)) dss_nil) (dss_cons (ds_forL PassesOwn.never rfl (de_op o_plus (de_lst (da_cons (de_ix x_seq (de_v 6) de_int (fun _ _ => rfl)) da_nil)) (de_comp ["_law_name", "_law_weight_here"] [] rfl rfl (by decide +kernel) rfl (by decide +kernel) (cl_sub trivial) (cl_has rfl) (cap_all trivial) (ci_tup (de_ix x_seq (de_v 6) de_int (fun _ _ => rfl))) fun _ _ _ _ _ => ⟨(dg_tup (n := 2) rfl (dgs_cons (dg_name 0 (show List.Nodup (["_law_name", "_law_weight_here"] : List Str) by decide +kernel)) (dgs_cons (dg_name 1 (show List.Nodup (["_law_name", "_law_weight_here"] : List Str) by decide +kernel)) dgs_nil))), cf_nil, (de_v 1)⟩)) (dg_name 7 sc_law.nd) (dss_one (ds_if (DW.dt (dw_or (dt_not (dt_val (de_isi ty_int rfl z_isinstance rfl z_int b_int (de_v 7)))) (dw_or1 (dt_val (de_isi ty_bool rfl z_isinstance rfl z_bool b_bool (de_v 7)))))) (dss_one (ds_ret de_bl)) dss_nil))) (dss_one (ds_ret (de_cmp (o_eq hU) (de_v 6) (de_cal c__law_due (hr.mono (by decide)) rfl (da_cons (de_v 1) (da_cons (de_v 5) da_nil))) (nomark _)))))))))))), ?_⟩
  obtain ⟨ns, rfl, h63, hb, q⟩ := h
  refine seq_cut fun K hK => ?_
  walk_at "rd"
  intro ra
  rw [hK]
  refine seq_cut fun K2 hK2 => ?_
  refine forR_cut fun B N hB hN => ?_
  simp only [dForRF]
  walk_at "rd"
  rw [List.length_map]
  have hm0 := Int.fdiv_nonneg (a := min (ns.length : Int) 36) (b := 6) (by omega) (by decide)
  have hm1 : 6 * (min (ns.length : Int) 36).fdiv 6 ≤ min (ns.length : Int) 36 := by
    have := Int.fmod_def (min (ns.length : Int) 36) 6
    have h2 := Int.fmod_nonneg_of_pos (min (ns.length : Int) 36) (b := 6) (by decide)
    omega
  generalize (min (ns.length : Int) 36).fdiv 6 = m at hm0 hm1 ⊢
  refine ⟨cf_of (by decide) (by decide +kernel), by omega, by omega, fun i δ => ∃ (rows : List Rw) (x y : Sl), δ = [.dat (.fz (ns.map D.int)), .own ra (.lst (rows.map rwD)), x, y, .no, .no, .no, .no] ∧ rows.length = i ∧ ∀ r ∈ rows, RwOk nm7 200 r ∧ r.2.1.length ≤ 4, ⟨[], _, _, rfl, rfl, fun _ h => (nomatch h)⟩, ?_, ?_⟩
  · rintro i δ hi ⟨rows, x, y, rfl, hlr, hrs⟩
    rw [hB]
    refine body_cut fun K3 hK3 => ?_
    walk_at "rd"
    have g0 : atI (ns.map D.int) 0 = some (.int (ns[0]'(by omega))) := atI_map (k := 0) (by omega)
    have gi : atI (ns.map D.int) (6 * (i : Int)) = some (.int (ns[6 * i]'(by omega))) := by rw [show (6 : Int) * (i : Int) = ((6 * i : Nat) : Int) by omega]; exact atI_map (by omega)
    refine ⟨_, g0, ?_⟩
    walk_at "rd"
    refine ⟨cnz (by decide), IntMulOk.of_left (by decide), _, gi, ?_⟩
    walk_at "rd"
    refine ⟨cf_of (by decide) (by decide +kernel), IntMulOk.of_left (by decide), ?_⟩
    have f0 := Int.fmod_nonneg_of_pos (ns[0]'(by omega)) (b := 2) (by decide)
    have f1 := Int.fmod_lt_of_pos (ns[0]'(by omega)) (b := 2) (by decide)
    have sb : Builtin.Int.intBits ((ns[0]'(by omega)).fmod 2 + 2 * (ns[6 * i]'(by omega)).fdiv 2) ≤ 1048580 := Nat.le_trans (intBits_add_le (sm64 f0 (by omega)) (intBits_mul_le (m := 2) (by decide) (intBits_fdiv_le (hb _ (List.getElem_mem _))))) (by decide)
    generalize (ns[0]'(by omega)).fmod 2 + 2 * (ns[6 * i]'(by omega)).fdiv 2 = st at sb ⊢
    rw [hK3]
    walk_at "rd"
    have hc : cut (ns.map D.int) (some (6 * (i : Int) + 1)) (some (6 * (i : Int) + 6)) = (cut ns (some (6 * (i : Int) + 1)) (some (6 * (i : Int) + 6))).map D.int := cut_map ..
    have hcl : (cut ns (some (6 * (i : Int) + 1)) (some (6 * (i : Int) + 6))).length = 5 := by
      rw [show (6 * (i : Int) + 1) = ((6 * i + 1 : Nat) : Int) by omega, show (6 * (i : Int) + 6) = ((6 * i + 6 : Nat) : Int) by omega]
      unfold cut
      rw [List.length_take, List.length_drop, HT.sIx_nat, HT.sIx_nat]
      omega
    rw [hc]
    refine ⟨IntMulOk.of_left (by decide), IntMulOk.of_left (by decide), by rw [List.length_map]; omega, st :: cut ns (some (6 * (i : Int) + 1)) (some (6 * (i : Int) + 6)), rfl, by rw [List.length_cons, hcl], fun c hc => ?_, fun r ok l4 => ?_⟩
    · rcases List.mem_cons.mp hc with rfl | hc
      · exact sb
      · exact Nat.le_trans (hb _ (cut_mem hc)) (by decide)
    · refine ⟨by rw [List.length_map]; omega, rows ++ [r], by rw [List.map_append]; rfl, by rw [List.length_append, List.length_singleton, hlr], fun r' hr' => ?_⟩
      rcases List.mem_append.mp hr' with h | h
      · exact hrs r' h
      · rw [List.mem_singleton.mp h]; exact ⟨ok, l4⟩
  · rintro δ ⟨rows, x, y, rfl, hlr, hrs⟩
    rw [hN, hK2]
    have hl6 : rows.length ≤ 6 := by omega
    walk_at "rd"
    rw [List.length_map, Int.toNat_natCast]
    refine ⟨by omega, by omega, by rw [List.length_map, List.length_range]; omega, fun d => match d with | .int k => some (.int (wg (cellAt ns (36 + k)))) | _ => none, fun x hx => ?_, ?_⟩
    · obtain ⟨k, hk, rfl⟩ := List.mem_map.mp hx
      refine ⟨ns, _, rfl, by omega, _, rfl, Nat.le_trans (cell_bits hb _) (by decide), rfl⟩
    have ew : ((List.range rows.length).map fun (i : Nat) => D.int (i : Int)).filterMap (fun d => match d with | .int k => some (D.int (wg (cellAt ns (36 + k)))) | _ => none) = ((List.range rows.length).map fun (i : Nat) => wg (cellAt ns (36 + i))).map D.int := by
      rw [List.map_map]
      exact filterMap_of _ _ _ _ fun x _ => rfl
    rw [ew]
    generalize hws : (List.range rows.length).map (fun (i : Nat) => wg (cellAt ns (36 + i))) = ws
    have hwb : ∀ w ∈ ws, Builtin.Int.intBits w ≤ 200 := fun w hw => by
      rw [← hws] at hw
      obtain ⟨k, _, rfl⟩ := List.mem_map.mp hw
      exact wg_bits _
    refine ⟨rows, ws, nm7, rfl, by decide, fun r hr => ⟨(hrs r hr).1.sub, fun t ht => Nat.le_trans ((hrs r hr).1.bw t ht) (by decide), Nat.le_trans (hrs r hr).1.bb (by decide)⟩, fun w hw => Nat.le_trans (hwb w hw) (by decide), fun ts hts => ?_⟩
    unfold rowD
    walk_at "rd"
    refine ifn (fun z => z rfl) ⟨rws_nds rows, rws_dps rows, ?_⟩
    refine forL_cut fun B2 N2 hB2 hN2 => ?_
    simp only [dForLF]
    walk_at "rd"
    have sub : ∀ p ∈ rows.zip ws, ∀ t ∈ p.1.2.1, t.1 ∈ nm7 := fun p hp => (hrs _ (List.of_mem_zip hp).1).1.sub
    have tl : ts.length ≤ 7 := by
      have := nd_le (nm := nm7) hts.nd fun n hn => by
        obtain ⟨t, ht, rfl⟩ := List.mem_map.mp hn
        exact cfs_sub sub (by rw [← (hts.val t ht).1]; exact (hts.val t ht).2)
      rw [List.length_map] at this
      exact this
    have ef : (ts.map tmD).filterMap (fun d => match d with | .tup [_, x] => some x | _ => none) = (ts.map (·.2)).map D.int := by
      rw [List.map_map]
      exact filterMap_of _ _ _ _ fun x _ => rfl
    refine ⟨by rw [List.length_map]; omega, fun d => match d with | .tup [_, x] => some x | _ => none, fun x hx => ?_, ?_⟩
    · obtain ⟨t, _, rfl⟩ := List.mem_map.mp hx
      exact ⟨_, rfl, rfl, _, _, rfl, _, _, rfl, rfl, rfl⟩
    rw [ef]
    refine ⟨by rw [List.length_map, List.length_map]; omega, fun i δ => ∃ z, δ = [.dat (.fz (ns.map D.int)), .dat (.lst (rows.map rwD)), x, y, .dat (.lst (rows.map rwD)), .dat (.tup (ws.map D.int)), .dat (rowD (kOf (stc (rows.zip ws))) ts (bds (rows.zip ws))), z], ⟨_, rfl⟩, ?_, ?_⟩
    · rintro i d δ hd ⟨z, rfl⟩
      have hd : ((bds (rows.zip ws) :: ts.map (·.2)).map D.int)[i]? = some d := hd
      rw [List.getElem?_map] at hd
      cases e : (bds (rows.zip ws) :: ts.map (·.2))[i]? with
      | none => rw [e] at hd; cases hd
      | some n =>
        rw [e] at hd
        cases hd
        rw [hB2]
        walk_at "rd"
        exact ⟨_, rfl⟩
    · rintro δ ⟨z, rfl⟩
      rw [hN2]
      walk_at "rd"
      refine ⟨rows, ws, rfl, hl6, hrs, hwb, fun us hus => ?_⟩
      rw [hts.uniq hus]
      unfold rowD
      walk_at "rd"
      have e1 := rws_nds [(kOf (stc (rows.zip ws)), us, bds (rows.zip ws))]
      have e2 := rws_dps [(kOf (stc (rows.zip ws)), us, bds (rows.zip ws))]
      simp only [List.map_cons, List.map_nil, rwD, rowD, D.nds, D.nd, D.dps, D.dp, Bool.and_true] at e1 e2 ⊢
      exact ⟨e1, by omega, q⟩
theorem all_mk {l : PySem.W.OpenLaw} {w : World} {K : PySem.W.Frag} {h : Heap} {mg : Str → Option Value} {fa f0 f1 f2 f3 f4 f5 f6 : Addr} (X : K.In h) (G : h.Ns mainGlobals mg) (hfa : mg "law" = some (.ref fa))
    {od0 an0 od1 an1 od2 an2 od3 an3 od4 an4 od5 an5 od6 an6 : Option Addr} {sl0 sl1 sl2 sl3 sl4 sl5 sl6 : Array (Option Value)} {oc0 kV0 dc0 pm0 cd0 ct0 oc1 kV1 dc1 pm1 cd1 ct1 oc2 kV2 dc2 pm2 cd2 ct2 oc3 kV3 dc3 pm3 cd3 ct3 oc4 kV4 dc4 pm4 cd4 ct4 oc5 kV5 dc5 pm5 cd5 ct5 oc6 kV6 dc6 pm6 cd6 ct6 : Value}
    (a0 : PySem.W.nsIn K mainGlobals "added" = some (some (.ref f0))) (l0 : K.lookup f0 = some ⟨oc0, od0, .func (PySem.W.fnOf "added" "added" (defArgs s_added) (defBody s_added) (defScope s_added) .none kV0 dc0 pm0 an0 cd0 ct0), sl0⟩) (c0 : PySem.W.codeIn K cd0 "added" = true) (k0 : PySem.W.keepIn K (.ref f0) = true)
    (a1 : PySem.W.nsIn K mainGlobals "_law_cell" = some (some (.ref f1))) (l1 : K.lookup f1 = some ⟨oc1, od1, .func (PySem.W.fnOf "_law_cell" "_law_cell" (defArgs s__law_cell) (defBody s__law_cell) (defScope s__law_cell) .none kV1 dc1 pm1 an1 cd1 ct1), sl1⟩) (c1 : PySem.W.codeIn K cd1 "_law_cell" = true) (k1 : PySem.W.keepIn K (.ref f1) = true)
    (a2 : PySem.W.nsIn K mainGlobals "_law_number" = some (some (.ref f2))) (l2 : K.lookup f2 = some ⟨oc2, od2, .func (PySem.W.fnOf "_law_number" "_law_number" (defArgs s__law_number) (defBody s__law_number) (defScope s__law_number) .none kV2 dc2 pm2 an2 cd2 ct2), sl2⟩) (c2 : PySem.W.codeIn K cd2 "_law_number" = true) (k2 : PySem.W.keepIn K (.ref f2) = true)
    (a3 : PySem.W.nsIn K mainGlobals "_law_weight" = some (some (.ref f3))) (l3 : K.lookup f3 = some ⟨oc3, od3, .func (PySem.W.fnOf "_law_weight" "_law_weight" (defArgs s__law_weight) (defBody s__law_weight) (defScope s__law_weight) .none kV3 dc3 pm3 an3 cd3 ct3), sl3⟩) (c3 : PySem.W.codeIn K cd3 "_law_weight" = true) (k3 : PySem.W.keepIn K (.ref f3) = true)
    (a4 : PySem.W.nsIn K mainGlobals "_law_row" = some (some (.ref f4))) (l4 : K.lookup f4 = some ⟨oc4, od4, .func (PySem.W.fnOf "_law_row" "_law_row" (defArgs s__law_row) (defBody s__law_row) (defScope s__law_row) .none kV4 dc4 pm4 an4 cd4 ct4), sl4⟩) (c4 : PySem.W.codeIn K cd4 "_law_row" = true) (k4 : PySem.W.keepIn K (.ref f4) = true)
    (a5 : PySem.W.nsIn K mainGlobals "_law_due" = some (some (.ref f5))) (l5 : K.lookup f5 = some ⟨oc5, od5, .func (PySem.W.fnOf "_law_due" "_law_due" (defArgs s__law_due) (defBody s__law_due) (defScope s__law_due) .none kV5 dc5 pm5 an5 cd5 ct5), sl5⟩) (c5 : PySem.W.codeIn K cd5 "_law_due" = true) (k5 : PySem.W.keepIn K (.ref f5) = true)
    (a6 : PySem.W.nsIn K mainGlobals "law" = some (some (.ref f6))) (l6 : K.lookup f6 = some ⟨oc6, od6, .func (PySem.W.fnOf "law" "law" (defArgs s_law) (defBody s_law) (defScope s_law) .none kV6 dc6 pm6 an6 cd6 ct6), sl6⟩) (c6 : PySem.W.codeIn K cd6 "law" = true) (k6 : PySem.W.keepIn K (.ref f6) = true)
    (z0 : PySem.W.nsIn K mainGlobals "zip" = some none)
    (z1 : PySem.W.nsIn K mainGlobals "tuple" = some none)
    (z2 : PySem.W.nsIn K mainGlobals "sorted" = some none)
    (z3 : PySem.W.nsIn K mainGlobals "len" = some none)
    (z4 : PySem.W.nsIn K mainGlobals "range" = some none)
    (z5 : PySem.W.nsIn K mainGlobals "int" = some none)
    (z6 : PySem.W.nsIn K mainGlobals "sum" = some none)
    (z7 : PySem.W.nsIn K mainGlobals "min" = some none)
    (z8 : PySem.W.nsIn K mainGlobals "list" = some none)
    (z9 : PySem.W.nsIn K mainGlobals "isinstance" = some none)
    (z10 : PySem.W.nsIn K mainGlobals "bool" = some none)
    : ∃ fd : FuncData, (∀ (s : Shared) (v : Value), BindsTo s fd ⟨[v], []⟩ [("_law_script", v)]) ∧ ∀ base : Heap, K.In base → base.Ns mainGlobals mg → FnOk l.prog w K mg base CX0 3 fa fd ["_law_script"] (spLaw K) := by
  have e := hfa.symm.trans (PySem.W.mg_of X G a6)
  cases e
  have z_zip := PySem.W.mg_none_of X G z0
  have z_tuple := PySem.W.mg_none_of X G z1
  have z_sorted := PySem.W.mg_none_of X G z2
  have z_len := PySem.W.mg_none_of X G z3
  have z_range := PySem.W.mg_none_of X G z4
  have z_int := PySem.W.mg_none_of X G z5
  have z_sum := PySem.W.mg_none_of X G z6
  have z_min := PySem.W.mg_none_of X G z7
  have z_list := PySem.W.mg_none_of X G z8
  have z_isinstance := PySem.W.mg_none_of X G z9
  have z_bool := PySem.W.mg_none_of X G z10
  have F0 := fun_mk (st := s_added) l0 c0 k0
  have D0 : Fd K mg "added" s_added ["rows", "weights"] := ⟨_, _, F0, F0.binds (ps := ["rows", "weights"]) fun _ _ _ _ _ _ us hl => match us, hl with | [_, _], _ => rfl, PySem.W.mg_of X G a0⟩
  have F1 := fun_mk (st := s__law_cell) l1 c1 k1
  have D1 : Fd K mg "_law_cell" s__law_cell ["_law_script", "_law_k"] := ⟨_, _, F1, F1.binds (ps := ["_law_script", "_law_k"]) fun _ _ _ _ _ _ us hl => match us, hl with | [_, _], _ => rfl, PySem.W.mg_of X G a1⟩
  have F2 := fun_mk (st := s__law_number) l2 c2 k2
  have D2 : Fd K mg "_law_number" s__law_number ["_law_cell_here"] := ⟨_, _, F2, F2.binds (ps := ["_law_cell_here"]) fun _ _ _ _ _ _ us hl => match us, hl with | [_], _ => rfl, PySem.W.mg_of X G a2⟩
  have F3 := fun_mk (st := s__law_weight) l3 c3 k3
  have D3 : Fd K mg "_law_weight" s__law_weight ["_law_cell_here"] := ⟨_, _, F3, F3.binds (ps := ["_law_cell_here"]) fun _ _ _ _ _ _ us hl => match us, hl with | [_], _ => rfl, PySem.W.mg_of X G a3⟩
  have F4 := fun_mk (st := s__law_row) l4 c4 k4
  have D4 : Fd K mg "_law_row" s__law_row ["_law_cells"] := ⟨_, _, F4, F4.binds (ps := ["_law_cells"]) fun _ _ _ _ _ _ us hl => match us, hl with | [_], _ => rfl, PySem.W.mg_of X G a4⟩
  have F5 := fun_mk (st := s__law_due) l5 c5 k5
  have D5 : Fd K mg "_law_due" s__law_due ["_law_rows", "_law_weights"] := ⟨_, _, F5, F5.binds (ps := ["_law_rows", "_law_weights"]) fun _ _ _ _ _ _ us hl => match us, hl with | [_, _], _ => rfl, PySem.W.mg_of X G a5⟩
  have F6 := fun_mk (st := s_law) l6 c6 k6
  have D6 : Fd K mg "law" s_law ["_law_script"] := ⟨_, _, F6, F6.binds (ps := ["_law_script"]) fun _ _ _ _ _ _ us hl => match us, hl with | [_], _ => rfl, PySem.W.mg_of X G a6⟩
  refine ⟨PySem.W.fnOf "law" "law" (defArgs s_law) (defBody s_law) (defScope s_law) .none kV6 dc6 pm6 an6 cd6 ct6, fun s v => .of_eq rfl, fun base _ _ => ?_⟩
  have c_added := cal_added (P := l.prog) (w := w) (base := base) D0 z_zip z_tuple z_sorted
  have c__law_cell := cal__law_cell (P := l.prog) (w := w) (base := base) D1 z_len
  have c__law_number := cal__law_number (P := l.prog) (w := w) (base := base) D2
  have c__law_weight := cal__law_weight (P := l.prog) (w := w) (base := base) D3
  have c__law_row := cal__law_row (P := l.prog) (w := w) (base := base) D4 c__law_number z_range z_tuple
  have c__law_due := cal__law_due (P := l.prog) (w := w) (base := base) D5 z_zip z_int z_len z_sum z_tuple
  exact law_sp (okl_law F6 c__law_row c__law_weight c__law_cell c_added c__law_due z_range z_min z_len z_list z_tuple z_isinstance z_bool z_int)
end Lw
open PySem PySem.W PyProof.Rows
set_option maxRecDepth 100000 in
set_option maxHeartbeats 0 in
theorem PySem.Challenge.cw_rowbetween_k22_added_holds : PySem.Challenge.rw_rowbetween_k22_added.Holds := by
  w_on; o_law; k_head; (case hw => w_witness2)
  k_fill
  refine DL.walkB (l := PySem.Challenge.rw_rowbetween_k22_added) (k := 3) (x := "_law_script") rfl rfl ⟨rfl, by decide, by decide⟩ (fun w h Y => PySem.W.kIn_of Y) ?F
  case F =>
    intro w mg fa h KX G hmg
    refine' Lw.all_mk KX G hmg ?a0 ?l0 ?c0 ?k0 ?a1 ?l1 ?c1 ?k1 ?a2 ?l2 ?c2 ?k2 ?a3 ?l3 ?c3 ?k3 ?a4 ?l4 ?c4 ?k4 ?a5 ?l5 ?c5 ?k5 ?a6 ?l6 ?c6 ?k6 ?z0 ?z1 ?z2 ?z3 ?z4 ?z5 ?z6 ?z7 ?z8 ?z9 ?z10
    (case a0 => k_is)
    (case l0 => k_is)
    (case c0 => k_is)
    (case k0 => k_is)
    (case a1 => k_is)
    (case l1 => k_is)
    (case c1 => k_is)
    (case k1 => k_is)
    (case a2 => k_is)
    (case l2 => k_is)
    (case c2 => k_is)
    (case k2 => k_is)
    (case a3 => k_is)
    (case l3 => k_is)
    (case c3 => k_is)
    (case k3 => k_is)
    (case a4 => k_is)
    (case l4 => k_is)
    (case c4 => k_is)
    (case k4 => k_is)
    (case a5 => k_is)
    (case l5 => k_is)
    (case c5 => k_is)
    (case k5 => k_is)
    (case a6 => k_is)
    (case l6 => k_is)
    (case c6 => k_is)
    (case k6 => k_is)
    (case z0 => k_is)
    (case z1 => k_is)
    (case z2 => k_is)
    (case z3 => k_is)
    (case z4 => k_is)
    (case z5 => k_is)
    (case z6 => k_is)
    (case z7 => k_is)
    (case z8 => k_is)
    (case z9 => k_is)
    (case z10 => k_is)
#print axioms PySem.Challenge.cw_rowbetween_k22_added_holds

