import PyProof.Rows.All
import Wide.All
import OpenK.AllK
import Wide.FinOn
import Lean
import PyProof.EqAt
import PyProof.EqKinds
import PyProof.TupleCall
import PySem.Challenge.RW_rowbetween_k11_names_and_parts
set_option Elab.async false
set_option linter.all false
set_option maxRecDepth 100000
set_option maxHeartbeats 4000000
set_option Elab.async false
set_option linter.all false
set_option maxRecDepth 100000
/-! THE HAND LAYER, for ints, bools, texts, own classes, LISTS and tuples (index, slices, in, append, pop ..), calls, loops. Paste it whole ahead of your own text; what your proof does not reach may be deleted. -/
namespace L2
open PySem PySem.Spec PyProof.Rows

/-- a key: an int or a str -/
abbrev Key := Sum Int Str
def keyIs : Key → Value → Bool
  | .inl k, v => Value.isInt k v
  | .inr x, v => Value.isStrOf x v
def keyH (w : World) : Key → Int
  | .inl k => hashInt k
  | .inr x => hashStr w x
theorem keyIs_shape : ∀ {k : Key} {v : Value}, keyIs k v = true → (∃ i t, k = Sum.inl i ∧ v = Value.int i t) ∨ (∃ x t, k = Sum.inr x ∧ v = Value.str x t)
  | .inl i, v, h => by
    obtain ⟨t, e⟩ := Value.isInt_shape (k := i) (v := v) h
    exact .inl ⟨i, t, rfl, e⟩
  | .inr x, v, h => by
    obtain ⟨t, e⟩ := Value.isStrOf_shape (x := x) (v := v) h
    exact .inr ⟨x, t, rfl, e⟩
theorem keyIs_int (i : Int) (t : Tok) : keyIs (.inl i) (.int i t) = true := by simp [keyIs, Value.isInt]
theorem keyIs_str (x : Str) (t : Tok) : keyIs (.inr x) (.str x t) = true := by simp [keyIs, Value.isStrOf]
theorem key_ll (a b : Int) : decide ((Sum.inl a : Key) = Sum.inl b) = (a == b) := by
  by_cases e : a = b
  · subst e; simp
  · have h : ¬ (Sum.inl a : Key) = Sum.inl b := fun q => e (Sum.inl.inj q)
    rw [decide_eq_false h]
    exact (beq_eq_false_iff_ne.mpr e).symm
theorem key_rr (a b : Str) : decide ((Sum.inr a : Key) = Sum.inr b) = decide (a = b) := by
  by_cases e : a = b
  · subst e; simp
  · have h : ¬ (Sum.inr a : Key) = Sum.inr b := fun q => e (Sum.inr.inj q)
    rw [decide_eq_false h, decide_eq_false e]
theorem key_lr (a : Int) (b : Str) : decide ((Sum.inl a : Key) = Sum.inr b) = false := decide_eq_false (fun q => nomatch q)
theorem key_rl (a : Str) (b : Int) : decide ((Sum.inr a : Key) = Sum.inl b) = false := decide_eq_false (fun q => nomatch q)

def mixKind (prog : Program) (w : World) : PySem.KeyKind prog w Key where
  is := keyIs
  hash := keyH w
  inj := fun v a b ha hb => by
    rcases keyIs_shape ha with ⟨i, t, rfl, rfl⟩ | ⟨x, t, rfl, rfl⟩
    · rcases keyIs_shape hb with ⟨j, u, rfl, e⟩ | ⟨y, u, rfl, e⟩
      · injection e with e1 _; rw [e1]
      · exact nomatch e
    · rcases keyIs_shape hb with ⟨j, u, rfl, e⟩ | ⟨y, u, rfl, e⟩
      · exact nomatch e
      · injection e with e1 _; rw [e1]
  byValue := fun k v h => by
    rcases keyIs_shape h with ⟨i, t, rfl, rfl⟩ | ⟨x, t, rfl, rfl⟩ <;> rfl
  pyHash := fun hv h => by
    rcases keyIs_shape hv with ⟨i, t, rfl, rfl⟩ | ⟨x, t, rfl, rfl⟩
    · exact wpAny_pyHash_int h
    · exact wpAny_pyHash_str h
  eqBool := fun hu hv h => by
    rcases keyIs_shape hu with ⟨i, t, rfl, rfl⟩ | ⟨x, t, rfl, rfl⟩
    · rcases keyIs_shape hv with ⟨j, u, rfl, rfl⟩ | ⟨y, u, rfl, rfl⟩
      · rw [key_ll] at h; exact wpAny_eqBool_int h
      · rw [key_lr] at h; exact SeqAt.EqAt.int_str i t y u _ _ _ _ h
    · rcases keyIs_shape hv with ⟨j, u, rfl, rfl⟩ | ⟨y, u, rfl, rfl⟩
      · rw [key_rl] at h; exact SeqAt.EqAt.str_int x t j u _ _ _ _ h
      · rw [key_rr] at h; exact wpAny_eqBool_str h
  «strs» := fun k x t v h => by
    rcases keyIs_shape h with ⟨i, u, rfl, e⟩ | ⟨y, u, rfl, e⟩
    · exact nomatch e
    · injection e with e1 _
      subst e1
      cases v <;> rfl

theorem mixKind_int (prog : Program) (w : World) (i : Int) (t : Tok) : (mixKind prog w).is (.inl i) (.int i t) = true := keyIs_int i t
theorem mixKind_str (prog : Program) (w : World) (x : Str) (t : Tok) : (mixKind prog w).is (.inr x) (.str x t) = true := keyIs_str x t
end L2

namespace L2
open PySem PySem.Spec PyProof.Rows

/-- a value, without the heap -/
inductive V where
  | non | bl (b : Bool) | int (i : Int) | str (x : Str) | byt (b : Array UInt8) | flt (b : UInt64) | ref (a : Addr) | ty (n : String)
  deriving DecidableEq

def RelV : V → Value → Prop
  | .non, u => u = Value.none
  | .bl b, u => u = Value.bool b
  | .int i, u => ∃ t, u = Value.int i t
  | .str x, u => ∃ t, u = Value.str x t
  | .byt b, u => ∃ t, u = Value.bytes b t
  | .flt b, u => ∃ t, u = Value.float b t
  | .ref a, u => u = Value.ref a
  | .ty n, u => u = Value.type n

abbrev Vals : List V → List Value → Prop := Paired RelV
theorem Vals.length {xs : List V} {us : List Value} (r : Vals xs us) : xs.length = us.length := Paired.length r
theorem Vals.get : ∀ {xs : List V} {us : List Value} {i : Nat} {x : V}, Vals xs us → xs[i]? = some x → ∃ u, us[i]? = some u ∧ RelV x u
  | _, _, _, _, .nil, e => by simp at e
  | _, _, 0, _, .cons r _, e => by simp at e; subst e; exact ⟨_, rfl, r⟩
  | _, _, i + 1, x, .cons _ t, e => by
    obtain ⟨u, h1, h2⟩ := Vals.get (i := i) (x := x) t (by simpa using e)
    exact ⟨u, by simpa using h1, h2⟩
theorem Vals.set {x : V} {u : Value} (r : RelV x u) : ∀ {xs : List V} {us : List Value} (i : Nat), Vals xs us → Vals (xs.set i x) (us.set i u)
  | _, _, _, .nil => .nil
  | _, _, 0, .cons _ t => .cons r t
  | _, _, i + 1, .cons q t => .cons q (Vals.set r i t)
theorem Vals.append : ∀ {xs ys : List V} {us ws : List Value}, Vals xs us → Vals ys ws → Vals (xs ++ ys) (us ++ ws)
  | _, _, _, _, .nil, s => s
  | _, _, _, _, .cons r t, s => .cons r (Vals.append t s)
theorem Vals.take : ∀ {xs : List V} {us : List Value} (n : Nat), Vals xs us → Vals (xs.take n) (us.take n)
  | _, _, 0, _ => .nil
  | _, _, _ + 1, .nil => .nil
  | _, _, n + 1, .cons r t => .cons r (Vals.take n t)
theorem Vals.drop : ∀ {xs : List V} {us : List Value} (n : Nat), Vals xs us → Vals (xs.drop n) (us.drop n)
  | _, _, 0, r => r
  | _, _, _ + 1, .nil => .nil
  | _, _, n + 1, .cons _ t => Vals.drop n t
def RelO : Option V → Option Value → Prop
  | some v, some u => RelV v u
  | none, none => True
  | _, _ => False
def KV {κ : Type} : List (κ × V) → List (κ × Value) → Prop := Paired fun (p : κ × V) (q : κ × Value) => p.1 = q.1 ∧ RelV p.2 q.2

/-- a key of a dict (00_mix): an int or a text -/
def kV : Key → V
  | .inl i => .int i
  | .inr x => .str x

/-- what stands at a tracked address -/
inductive HO where
  /-- a list -/
  | lst (xs : List V)
  /-- a tuple (never changes) -/
  | tup (xs : List V)
  /-- a dict whose keys are ints and texts; one whose keys are tuples of ints and texts (the empty one is both) -/
  | dK (kvs : List (Key × V)) | dT (kvs : List (List Key × V))
  /-- a set of ints: its members, its size -/
  | set (S : Int → Bool) (n : Nat)
  /-- an instance of the class at C, its dict at dx, its attributes -/
  | ins (C dx : Addr) (fs : List (Str × V))
  /-- the dict of the instance at x -/
  | own (x : Addr)
  /-- the dict of an exception -/
  | xd (fs : List (Str × V))
  /-- a bound method, f of x -/
  | met (f x : Addr)
  /-- a range object lo, lo + 1, .. below hi -/
  | rng (lo hi : Int)
  /-- a thing that is known to the object (the script; a dict while a loop walks it): read, never written while it is so -/
  | frz (o : Obj) (u : HO)
  /-- a code object's table -/
  | tbl (ps : Array Value)
  /-- any other thing, by what is true of its one object (a def of one's own: SetO a S n := HO.ext fun h => ..) -/
  | ext (φ : Heap → Prop)

abbrev Hp := Addr → Option HO
def upd (H : Hp) (a : Addr) (o : HO) : Hp := fun b => if b = a then some o else H b
theorem upd_same {H : Hp} {a : Addr} {o : HO} : upd H a o a = some o := by unfold upd; rw [if_pos rfl]
theorem upd_ne {H : Hp} {a b : Addr} {o : HO} (h : b ≠ a) : upd H a o b = H b := by unfold upd; rw [if_neg h]
/-- two objects of different content stand apart -/
theorem ne_of {H : Hp} {a b : Addr} {o u : HO} (h : H a = some o) (h' : H b = some u) (d : o ≠ u) : a ≠ b := by
  intro e; subst e; rw [h] at h'; exact d (Option.some.inj h')
theorem ne_of_none {H : Hp} {a b : Addr} {o : HO} (h : H a = some o) (h' : H b = none) : a ≠ b := by
  intro e; subst e; rw [h] at h'; cases h'

section
variable (P : Program) (w : World)
def ObjOk (H : Hp) (h : Heap) (a : Addr) : HO → Prop
  | .lst xs => xs.length ≤ sizeLine ∧ ∃ (its : List Value) (n : Nat), Vals xs its ∧ h.get? a = some { cls := .type "list", data := .seq its.toArray n }
  | .tup xs => xs.length ≤ sizeLine ∧ ∃ its : List Value, Vals xs its ∧ IsTup h a its.toArray
  | .dK kvs => kvs.length ≤ sizeLine ∧ (a == sysModules) = false ∧ ∃ vs, KV kvs vs ∧ h.DictOf (mixKind P w) a vs
  | .dT kvs => kvs.length ≤ sizeLine ∧ (a == sysModules) = false ∧ ∃ xs : List (List Key × Addr × Value),
      Paired (fun (p : List Key × V) (q : List Key × Addr × Value) => p.1 = q.1 ∧ H q.2.1 = some (.tup (p.1.map kV)) ∧ RelV p.2 q.2.2) kvs xs ∧
      ∃ o es ep, h.get? a = some o ∧ o.ExactDict ∧ o.data = .dict es ep ∧ es.toList = xs.map (entryOfKey (tupleKind (mixKind P w))) ∧ (xs.map (·.1)).Nodup
  | .set S n => h.SetOf (intKind P w) a S n
  | .ins C dx fs => H dx = some (.own a) ∧ fs.length ≤ 1000 ∧ dx ≠ a ∧ h.get? a = some (PySem.W.instObj C dx) ∧
      ∃ mA, h.Ns1 dx mA ∧ (∀ f, RelO (fs.lookup f) (mA f)) ∧ PySem.Within mA (fs.map (·.1))
  | .own _ => ∃ o, h.get? a = some o
  | .xd fs => ∃ mA, h.Ns1 a mA ∧ ∀ f, RelO (fs.lookup f) (mA f)
  | .rng lo hi => ∃ t u v, h.get? a = some { cls := .type "range", data := .fields #[.int lo t, .int hi u, .int 1 v] }
  | .frz o u => h.get? a = some o ∧ ObjOk H h a u
  | .tbl ps => h.get? a = some { cls := .none, data := .fields ps }
  | .met f x => h.get? a = some (PySem.W.methodObj (.ref f) (.ref x))
  | .ext φ => φ h ∧ (∃ o, h.get? a = some o) ∧ ∀ h1 h2 : Heap, φ h1 → (∀ o, h1.get? a = some o → h2.get? a = some o) → φ h2
/-- the abstract heap is held -/
def HOk (H : Hp) (h : Heap) : Prop := ∀ a o, H a = some o → ObjOk P w H h a o
end

section
variable {P : Program} {w : World} {H H' : Hp} {h h' : Heap} {a : Addr} {o : HO}
theorem ObjOk.lt (x : ObjOk P w H h a o) : a < h.objs.size := by
  cases o with
  | lst xs => obtain ⟨_, _, _, _, e⟩ := x; exact Heap.lt_size e
  | tup xs => obtain ⟨_, _, _, p⟩ := x; exact p.lt
  | dK kvs => obtain ⟨_, _, _, _, o, _, _, e, _⟩ := x; exact Heap.lt_size e
  | dT kvs => obtain ⟨_, _, _, _, o, _, _, e, _⟩ := x; exact Heap.lt_size e
  | set S n => obtain ⟨o, _, _, _, e, _⟩ := x; exact Heap.lt_size e
  | ins C dx fs => obtain ⟨_, _, _, e, _⟩ := x; exact Heap.lt_size e
  | own y => obtain ⟨_, e⟩ := x; exact Heap.lt_size e
  | xd fs => obtain ⟨_, ⟨_, _, _, e, _⟩, _⟩ := x; exact Heap.lt_size e
  | rng lo hi => obtain ⟨_, _, _, e⟩ := x; exact Heap.lt_size e
  | frz ob u => obtain ⟨e, _⟩ := x; exact Heap.lt_size e
  | tbl ps => exact Heap.lt_size (show h.get? a = some _ from x)
  | met f y => exact Heap.lt_size (show h.get? a = some _ from x)
  | ext φ => obtain ⟨_, ⟨_, e⟩, _⟩ := x; exact Heap.lt_size e
theorem Paired.mapP {α β : Type} {F G : α → β → Prop} : ∀ {l₁ : List α} {l₂ : List β}, Paired F l₁ l₂ → (∀ a b, F a b → G a b) → Paired G l₁ l₂
  | _, _, .nil, _ => .nil
  | _, _, .cons r t, f => .cons (f _ _ r) (Paired.mapP t f)
/-- what an object's description leans on: its own object, its own dict, the tuples -/
theorem ObjOk.stay (x : ObjOk P w H h a o) (k : ∀ b u, (b = a ∨ H b = some (.own a)) → h.get? b = some u → h'.get? b = some u)
    (ho : ∀ b, H b = some (.own a) → H' b = some (.own a)) (ht : ∀ b xs, H b = some (.tup xs) → H' b = some (.tup xs)) : ObjOk P w H' h' a o := by
  induction o with
  | lst xs => obtain ⟨z, its, n, r, e⟩ := x; exact ⟨z, its, n, r, k _ _ (.inl rfl) e⟩
  | tup xs => obtain ⟨z, its, r, ob, e, c⟩ := x; exact ⟨z, its, r, ob, k _ _ (.inl rfl) e, c⟩
  | dK kvs => obtain ⟨z, y, vs, r, ob, es, ep, e, c⟩ := x; exact ⟨z, y, vs, r, ob, es, ep, k _ _ (.inl rfl) e, c⟩
  | dT kvs =>
    obtain ⟨z, y, xs, r, ob, es, ep, e, c⟩ := x
    exact ⟨z, y, xs, Paired.mapP r fun p q z => ⟨z.1, ht _ _ z.2.1, z.2.2⟩, ob, es, ep, k _ _ (.inl rfl) e, c⟩
  | set S n => obtain ⟨ob, es, ep, t, e, c⟩ := x; exact ⟨ob, es, ep, t, k _ _ (.inl rfl) e, c⟩
  | ins C dx fs =>
    obtain ⟨d, z, ne, e, mA, ⟨od, es, ep, e2, c⟩, r⟩ := x
    exact ⟨ho _ d, z, ne, k _ _ (.inl rfl) e, mA, ⟨od, es, ep, k _ _ (.inr d) e2, c⟩, r⟩
  | own y => obtain ⟨ob, e⟩ := x; exact ⟨ob, k _ _ (.inl rfl) e⟩
  | xd fs => obtain ⟨mA, ⟨od, es, ep, e, c⟩, r⟩ := x; exact ⟨mA, ⟨od, es, ep, k _ _ (.inl rfl) e, c⟩, r⟩
  | rng lo hi => obtain ⟨t, u, v, e⟩ := x; exact ⟨t, u, v, k _ _ (.inl rfl) e⟩
  | frz ob u ih => obtain ⟨e, q⟩ := x; exact ⟨k _ _ (.inl rfl) e, ih q⟩
  | tbl ps =>
    have e : h.get? a = some { cls := .none, data := .fields ps } := x
    show h'.get? a = some { cls := .none, data := .fields ps }
    exact k a _ (.inl rfl) e
  | met f y =>
    have e : h.get? a = some (PySem.W.methodObj (.ref f) (.ref y)) := x
    show h'.get? a = some (PySem.W.methodObj (.ref f) (.ref y))
    exact k a _ (.inl rfl) e
  | ext φ => obtain ⟨p, ⟨o, e⟩, st⟩ := x; exact ⟨st _ _ p fun o q => k _ _ (.inl rfl) q, ⟨o, k _ _ (.inl rfl) e⟩, st⟩
theorem HOk.lt (x : HOk P w H h) (e : H a = some o) : a < h.objs.size := (x a o e).lt
theorem HOk.fresh (x : HOk P w H h) (e : h.objs.size ≤ a) : H a = none := by
  cases q : H a with
  | none => rfl
  | some u => exact absurd (Nat.lt_of_lt_of_le (x.lt q) e) (Nat.lt_irrefl _)
/-- every object of the heap is kept -/
theorem HOk.kept (x : HOk P w H h) (k : ∀ b u, h.get? b = some u → h'.get? b = some u) : HOk P w H h' := fun a o e =>
  (x a o e).stay (fun b u _ q => k b u q) (fun _ q => q) fun _ _ q => q
/-- a new object is laid and tracked -/
theorem HOk.laid (x : HOk P w H h) (k : ∀ b u, h.get? b = some u → h'.get? b = some u) (hp : h.objs.size ≤ a) (new : ObjOk P w (upd H a o) h' a o) : HOk P w (upd H a o) h' := fun b u e => by
  have hn := x.fresh hp
  by_cases hb : b = a
  · subst hb; rw [upd_same] at e; cases e; exact new
  · rw [upd_ne hb] at e
    exact (x b u e).stay (fun c v _ q => k c v q) (fun c q => by rw [upd_ne (ne_of_none q hn)]; exact q) fun c xs q => by rw [upd_ne (ne_of_none q hn)]; exact q
end

/-- what may be read as u: it is u, or a known u -/
def Rd (H : Hp) (a : Addr) (u : HO) : Prop := H a = some u ∨ ∃ o, H a = some (.frz o u)
theorem Rd.of {H : Hp} {a : Addr} {u : HO} (h : H a = some u) : Rd H a u := .inl h
theorem Rd.ok {P : Program} {w : World} {H : Hp} {h : Heap} {a : Addr} {u : HO} (r : Rd H a u) (x : HOk P w H h) : ObjOk P w H h a u := by
  rcases r with r | ⟨o, r⟩
  · exact x a u r
  · obtain ⟨_, q⟩ := x a _ r
    exact q
/-- what may be written -/
def Mut : Option HO → Prop
  | some (.lst _) => True
  | some (.dK _) => True
  | some (.dT _) => True
  | some (.set _ _) => True
  | some (.ins _ _ _) => True
  | some (.ext _) => True
  | _ => False
section
variable {P : Program} {w : World} {H : Hp} {h h' : Heap} {x e : Addr} {o' : HO}
/-- the object at e is changed: x itself, or the dict of the instance x -/
theorem HOk.write (ok : HOk P w H h) (mu : Mut (H x)) (he : e = x ∨ H e = some (.own x)) (k : ∀ b u, b ≠ e → h.get? b = some u → h'.get? b = some u) (heo : ∃ u, h'.get? e = some u)
    (new : ObjOk P w (upd H x o') h' x o') : HOk P w (upd H x o') h' := fun b u q => by
  have nown : ∀ c y, H c = some (.own y) → c ≠ x := fun c y r z => by subst z; rw [r] at mu; exact mu
  have ntup : ∀ c xs, H c = some (.tup xs) → c ≠ x := fun c xs r z => by subst z; rw [r] at mu; exact mu
  by_cases hb : b = x
  · subst hb; rw [upd_same] at q; cases q; exact new
  · rw [upd_ne hb] at q
    by_cases hbe : b = e
    · have q' : H b = some (.own x) := by
        rcases he with z | z
        · exact absurd (hbe.trans z) hb
        · rw [hbe]; exact z
      rw [q] at q'; cases q'
      obtain ⟨v, hv⟩ := heo
      exact ⟨v, by rw [hbe]; exact hv⟩
    · refine (ok b u q).stay (fun c v hc r => k c v ?_ r) (fun c r => by rw [upd_ne (nown c b r)]; exact r) fun c xs r => by rw [upd_ne (ntup c xs r)]; exact r
      rcases hc with rfl | hc
      · exact hbe
      · rintro rfl
        rcases he with z | z
        · exact nown c b hc z
        · rw [hc] at z; cases z; exact hb rfl
end

/-! ### kept unless tracked; of the frames at fs (the callers') the slots may change (an exception that passes writes there); of the records at ex (iterators) nothing is said -/
structure Un (fs ex : List Addr) (H H' : Hp) (h h' : Heap) : Prop where
  keep : ∀ b o, h.get? b = some o → H b = none → b ∉ fs → b ∉ ex → h'.get? b = some o
  slot : ∀ b o, h.get? b = some o → H b = none → b ∈ fs → b ∉ ex → ∃ sl, h'.get? b = some { o with slots := sl }
  free : ∀ b o, h.get? b = some o → H b = none → b ∉ ex → H' b = none
  there : ∀ b o, h.get? b = some o → b ∉ ex → ∃ o', h'.get? b = some o'
  tups : ∀ b xs, H b = some (.tup xs) → H' b = some (.tup xs)
  frzs : ∀ b o u, H b = some (.frz o u) → H' b = some (.frz o u)
  tbls : ∀ b ps, H b = some (.tbl ps) → ∃ more, H' b = some (.tbl (ps ++ more))
section
variable {fs fs' ex ex' : List Addr} {H H1 H2 : Hp} {h h1 h2 h' : Heap} {a x e : Addr} {o : HO}
theorem Un.any (u : Un fs ex H H1 h h1) {b : Addr} {ob : Obj} (q : h.get? b = some ob) (n : H b = none) (hx : b ∉ ex) : ∃ sl, h1.get? b = some { ob with slots := sl } := by
  by_cases hb : b ∈ fs
  · exact u.slot b ob q n hb hx
  · exact ⟨ob.slots, u.keep b ob q n hb hx⟩
theorem Un.trans (a : Un fs ex H H1 h h1) (b : Un fs ex H1 H2 h1 h2) : Un fs ex H H2 h h2 where
  keep := fun c ob q n hc hx => b.keep c ob (a.keep c ob q n hc hx) (a.free c ob q n hx) hc hx
  slot := fun c ob q n hc hx => by
    obtain ⟨sl, e1⟩ := a.slot c ob q n hc hx
    obtain ⟨sl', e2⟩ := b.slot c _ e1 (a.free c ob q n hx) hc hx
    exact ⟨sl', e2⟩
  free := fun c ob q n hx => by
    obtain ⟨o', e1⟩ := a.there c ob q hx
    exact b.free c o' e1 (a.free c ob q n hx) hx
  there := fun c ob q hx => by
    obtain ⟨o', e1⟩ := a.there c ob q hx
    exact b.there c o' e1 hx
  tups := fun c xs q => b.tups c xs (a.tups c xs q)
  frzs := fun c ob xs q => b.frzs c ob xs (a.frzs c ob xs q)
  tbls := fun c ps q => by
    obtain ⟨m1, e1⟩ := a.tbls c ps q
    obtain ⟨m2, e2⟩ := b.tbls c _ e1
    exact ⟨m1 ++ m2, by rw [e2, Array.append_assoc]⟩
theorem Un.kept (k : ∀ b u, h.get? b = some u → h'.get? b = some u) : Un fs ex H H h h' :=
  ⟨fun b ob q _ _ _ => k b ob q, fun b ob q _ _ _ => ⟨ob.slots, k b ob q⟩, fun _ _ _ n _ => n, fun b ob q _ => ⟨ob, k b ob q⟩, fun _ _ q => q, fun _ _ _ q => q, fun _ ps q => ⟨#[], by rw [q]; simp⟩⟩
theorem Un.refl : Un fs ex H H h h := Un.kept fun _ _ q => q
theorem Un.laid (k : ∀ b u, h.get? b = some u → h'.get? b = some u) (hp : h.objs.size ≤ a) (hn : H a = none) : Un fs ex H (upd H a o) h h' where
  keep := fun b u q _ _ _ => k b u q
  slot := fun b u q _ _ _ => ⟨u.slots, k b u q⟩
  free := fun b u q n _ => by rw [upd_ne (Nat.ne_of_lt (Nat.lt_of_lt_of_le (Heap.lt_size q) hp))]; exact n
  there := fun b u q _ => ⟨u, k b u q⟩
  tups := fun b xs q => by rw [upd_ne (ne_of_none q hn)]; exact q
  frzs := fun b u xs q => by rw [upd_ne (ne_of_none q hn)]; exact q
  tbls := fun b ps q => ⟨#[], by rw [upd_ne (ne_of_none q hn), q]; simp⟩
theorem Un.write (mu : Mut (H x)) (he : e = x ∨ H e = some (.own x)) (k : ∀ b u, b ≠ e → h.get? b = some u → h'.get? b = some u) (heo : ∃ u, h'.get? e = some u) : Un fs ex H (upd H x o) h h' := by
  have hx : ∀ b, H b = none → b ≠ x := fun b n z => by subst z; rw [n] at mu; exact mu
  have hb : ∀ b, H b = none → b ≠ e := fun b n z => by
    subst z
    rcases he with r | r
    · exact hx b n r
    · rw [n] at r; cases r
  have hm : ∀ b u, H b = some u → ¬ Mut (some u) → b ≠ x := fun b u q nm z => by subst z; rw [q] at mu; exact nm mu
  refine ⟨fun b u q n _ _ => k b u (hb b n) q, fun b u q n _ _ => ⟨u.slots, k b u (hb b n) q⟩, fun b u q n _ => by rw [upd_ne (hx b n)]; exact n, fun b u q _ => ?_,
    fun b xs q => by rw [upd_ne (hm b _ q fun z => z)]; exact q, fun b u xs q => by rw [upd_ne (hm b _ q fun z => z)]; exact q, fun b ps q => ⟨#[], by rw [upd_ne (hm b _ q fun z => z), q]; simp⟩⟩
  by_cases hbe : b = e
  · subst hbe; exact heo
  · exact ⟨u, k b u hbe q⟩
theorem Un.mono (u : Un fs ex H H1 h h1) (hs : ∀ b ∈ fs, b ∈ fs') (hx : ∀ b ∈ ex, b ∈ ex') : Un fs' ex' H H1 h h1 :=
  ⟨fun b ob q n hb he => u.keep b ob q n (fun z => hb (hs b z)) fun z => he (hx b z), fun _ _ q n _ he => u.any q n fun z => he (hx _ z), fun b ob q n he => u.free b ob q n fun z => he (hx b z), fun b ob q he => u.there b ob q fun z => he (hx b z), u.tups, u.frzs, u.tbls⟩
end

/-! ### the heap without what is tracked -/
def trk (h : Heap) (H : Hp) : List Addr := (List.range h.objs.size).filter fun a => (H a).isSome
def hidT (h : Heap) (H : Hp) : Heap := PySem.W.hideAll h (trk h H)
theorem hidT_size (h : Heap) (H : Hp) : (hidT h H).objs.size = h.objs.size := PySem.W.hideAll_size _ _
theorem hidT_get {h : Heap} {H : Hp} {b : Addr} {o : Obj} (e : h.get? b = some o) (n : H b = none) : (hidT h H).get? b = some o :=
  PySem.W.hideAll_get _ e fun hm => by
    have q : (H b).isSome = true := (List.mem_filter.mp hm).2
    rw [n] at q; simp at q
theorem of_hidT {h : Heap} {H : Hp} {b : Addr} {o : Obj} (e : (hidT h H).get? b = some o) : h.get? b = some o ∧ H b = none := by
  have e' : h.get? b = some o := PySem.W.of_hideAll (trk h H) e
  refine ⟨e', ?_⟩
  cases q : H b with
  | none => rfl
  | some x =>
    have hm : b ∈ trk h H := List.mem_filter.mpr ⟨List.mem_range.mpr (Heap.lt_size e'), by simp [q]⟩
    have z : (hidT h H).get? b = none := PySem.W.hideAll_none (trk h H) hm
    rw [z] at e; cases e

/-! ### OpenK's ledger, filled with every new object but one -/
def allNews (g h : Heap) (L : Addr) : List (Addr × Obj) := (List.range h.objs.size).filterMap fun a => if a = L ∨ (g.get? a).isSome = true then none else (h.get? a).map fun o => (a, o)
def rest (g h : Heap) (L d : Addr) : List (Addr × Obj) := (allNews g h L).filter fun p => decide (p.1 ≠ d)
end L2

namespace L2
open PySem PySem.Spec PyProof.Rows

/-- the module's facts, over the base: the heap at the law's entry without what is tracked there -/
structure Mod (K : PySem.W.Frag) (mg : Str → Option Value) (base : Heap) : Prop where
  kin : K.In base
  glob : base.Ns mainGlobals mg
  blt : ∃ mb, base.Ns builtinsNs mb ∧ ∀ x : Str, x ≠ "__name__" → mb x = bootBuiltins x
  nolimit : base.NoLimit

/-- the context: a def's body (or a comprehension's block) running. base: fixed through the whole law; s₀, H₀: the entry; outer: the frames whose slots others may change (a def's callers); stack: all frames that run;
   ex: iterators that were made ahead of the entry and are walked here (a comprehension's); fn: the names whose cells were made at the entry (a def: all; a comprehension's block: its own); calm: not within an except suite; pn: pins that every state bears; xe: what is wanted of an exception that leaves the code -/
structure Cx where
  prog : Program
  w : World
  K : PySem.W.Frag
  mg : Str → Option Value
  base : Heap
  A : Around
  N : List Str
  s₀ : Shared
  H₀ : Hp
  env : Env
  outer : List Env
  stack : List Env
  ex : List Addr
  fn : Str → Bool
  calm : Bool
  pn : List (Addr × Obj)
  xe : Value → Shared → Prop
/-- the callers' frames -/
def frs (l : List Env) : List Addr := l.filterMap (·.frame)
abbrev Cx.fs (X : Cx) : List Addr := frs X.outer

def Vis (sc : Scope) (x : Str) : Prop := sc.names.lookup x = some .local ∨ sc.names.lookup x = some .cell ∨ sc.names.lookup x = some .free
def Loc (sc : Scope) (x : Str) : Prop := sc.names.lookup x = some .local ∨ sc.names.lookup x = some .cell
def Look (env : Env) (h : Heap) (m : Str → Option Value) (x : Str) (u : Value) : Prop :=
  (env.kindOf x = some .local ∧ m x = some u) ∨ ((env.kindOf x = some .cell ∨ env.kindOf x = some .free) ∧ ∃ c, env.cells.lookup x = some c ∧ h.IsCell c (some u))

structure Cx.Ok (X : Cx) : Prop where
  mod : Mod X.K X.mg X.base
  kind : X.env.scope.kind = .function
  glob : X.env.globals = mainGlobals
  blt : X.env.builtins = builtinsNs
  above : X.s₀.heap.objs.size ≤ X.env.locals
  inj : ∀ x y c, X.env.cells.lookup x = some c → X.env.cells.lookup y = some c → x = y
  has : ∀ x, (X.env.kindOf x = some .cell ∨ X.env.kindOf x = some .free) → ∃ c, X.env.cells.lookup x = some c
  cab : ∀ x c, X.fn x = true → X.env.cells.lookup x = some c → X.s₀.heap.objs.size ≤ c
  hd : X.calm = true → X.A.handled = none
  frames : X.A.frames = some X.stack
  stk : X.stack = X.outer ∨ (X.stack = X.env :: X.outer ∧ X.env.frame = some X.env.locals)
  exf : ∀ b ∈ X.ex, b ≠ X.env.locals ∧ ∀ x c, X.env.cells.lookup x = some c → c ≠ b
  bs : ∀ b o, X.base.get? b = some o → X.s₀.heap.get? b = some o ∧ X.H₀ b = none
  bsz : X.base.objs.size ≤ X.s₀.heap.objs.size
  noex : ∀ b o, X.base.get? b = some o → b ∉ X.ex
  exfs : ∀ b ∈ X.ex, b ∉ X.fs
  funs : X.s₀.heap.FunFrames X.base X.outer
  frf : ∀ b ∈ X.fs, X.H₀ b = none

structure Inv (X : Cx) (pins : List (Addr × Obj)) (σ : List (Option V)) (H : Hp) (s : Shared) : Prop where
  ok : X.Ok
  os : s.os = X.s₀.os
  bare : AllBare s.gens
  base : Un X.fs X.ex X.H₀ H X.s₀.heap s.heap
  loc : ∃ m, s.heap.Ns X.env.locals m ∧ ∀ (i : Nat) (x : Str) (v : V), X.N[i]? = some x → σ[i]? = some (some v) → Vis X.env.scope x → ∃ u, RelV v u ∧ Look X.env s.heap m x u
  cell : ∀ x c, X.env.cells.lookup x = some c → ∃ v, s.heap.IsCell c v
  free : H X.env.locals = none
  freeC : ∀ x c, X.env.cells.lookup x = some c → H c = none
  pin : ∀ p ∈ X.pn ++ pins, s.heap.get? p.1 = some p.2 ∧ H p.1 = none ∧ p.1 ≠ X.env.locals ∧ p.1 ∉ X.fs ∧ ∀ v, p.2.data ≠ .cell v
  hok : HOk X.prog X.w H s.heap
  len : σ.length = X.N.length

section
variable {X : Cx} {pins : List (Addr × Obj)} {σ : List (Option V)} {H H' : Hp} {s : Shared} {h' : Heap}

theorem Cx.Ok.nofr (ok : X.Ok) {b : Addr} {o : Obj} (e : X.base.get? b = some o) : b ∉ X.fs := fun hb => by
  have := (ok.funs.mem hb).1
  rw [e] at this; cases this
theorem Inv.bs (I : Inv X pins σ H s) : ∀ b o, X.base.get? b = some o → s.heap.get? b = some o ∧ H b = none := fun b o e =>
  ⟨I.base.keep b o (I.ok.bs b o e).1 (I.ok.bs b o e).2 (I.ok.nofr e) (I.ok.noex b o e), I.base.free b o (I.ok.bs b o e).1 (I.ok.bs b o e).2 (I.ok.noex b o e)⟩
theorem Inv.bk (I : Inv X pins σ H s) : ∀ b o, X.base.get? b = some o → s.heap.get? b = some o := fun b o e => (I.bs b o e).1
theorem Inv.mod (I : Inv X pins σ H s) : Mod X.K X.mg X.base := I.ok.mod
theorem Inv.kIn (I : Inv X pins σ H s) : X.K.In s.heap := I.ok.mod.kin.keeps I.bk
theorem Inv.nolimit (I : Inv X pins σ H s) : s.heap.NoLimit := I.ok.mod.nolimit.keeps I.bk
/-- the frame over the base: for OpenK's rules (K.In X.base is I.mod.kin) -/
theorem Inv.fr (I : Inv X pins σ H s) : ∃ m, Fr X.base X.env.locals s.heap m :=
  let ⟨m, hn, _⟩ := I.loc
  ⟨m, hn, I.bk, Nat.le_trans I.ok.bsz I.ok.above⟩
theorem Inv.lt (I : Inv X pins σ H s) : X.env.locals < s.heap.objs.size := let ⟨_, hn, _⟩ := I.loc; hn.lt
theorem Inv.sz (I : Inv X pins σ H s) : X.s₀.heap.objs.size ≤ s.heap.objs.size := Nat.le_trans I.ok.above (Nat.le_of_lt I.lt)
theorem Inv.nofs (I : Inv X pins σ H s) {a : Addr} (h : s.heap.objs.size ≤ a) : a ∉ X.fs := fun hb => by
  obtain ⟨_, o, ho, _⟩ := I.ok.funs.mem hb
  exact absurd (Nat.lt_of_lt_of_le (Heap.lt_size ho) (Nat.le_trans I.sz h)) (Nat.lt_irrefl _)
theorem Inv.cne (I : Inv X pins σ H s) : ∀ x c, X.env.cells.lookup x = some c → c ≠ X.env.locals := fun x c e z => by
  obtain ⟨v, o, ho, hd⟩ := I.cell x c e
  obtain ⟨m, ⟨o', es, ep, ho', hd', _⟩, _⟩ := I.loc
  rw [z, ho'] at ho; cases ho; rw [hd'] at hd; cases hd
theorem Inv.funs (I : Inv X pins σ H s) : s.heap.FunFrames X.base X.outer := by
  have all : ∀ (l : List Env), (∀ b ∈ frs l, b ∈ X.fs) → X.s₀.heap.FunFrames X.base l → s.heap.FunFrames X.base l := by
    intro l
    induction l with
    | nil => intro _ _; trivial
    | cons env r ih =>
      intro hs hl
      obtain ⟨hk, ⟨L, o, hf, hn, ho, hd⟩, hr⟩ := hl
      have hL : L ∈ X.fs := hs L (by unfold frs; rw [List.filterMap_cons, hf]; exact List.mem_cons_self)
      obtain ⟨sl, e⟩ := I.base.slot L o ho (I.ok.frf L hL) hL fun z => I.ok.exfs L z hL
      exact ⟨hk, ⟨L, _, hf, hn, e, hd⟩, ih (fun b hb => hs b (by unfold frs; rw [List.filterMap_cons, hf]; exact List.mem_cons_of_mem _ hb)) hr⟩
  exact all X.outer (fun _ hb => hb) I.ok.funs

/-- the frames that run, for a call -/
theorem Inv.stack (I : Inv X pins σ H s) : s.heap.FunFrames X.base X.stack := by
  rcases I.ok.stk with e | ⟨e, hf⟩
  · rw [e]; exact I.funs
  · rw [e]
    obtain ⟨m, hn, _⟩ := I.loc
    refine .cons (by rw [I.ok.kind]; decide) hf hn ?_ I.funs
    exact Heap.get?_none_of_le (Nat.le_trans I.ok.bsz I.ok.above)
theorem Inv.stkSub (I : Inv X pins σ H s) : ∀ b ∈ frs X.stack, b ∈ X.env.locals :: X.fs := fun b hb => by
  rcases I.ok.stk with e | ⟨e, hf⟩
  · rw [e] at hb; exact List.mem_cons_of_mem _ hb
  · rw [e] at hb
    unfold frs at hb
    rw [List.filterMap_cons, hf] at hb
    exact hb
theorem Inv.stkFree (I : Inv X pins σ H s) : ∀ b ∈ frs X.stack, H b = none := fun b hb => by
  rcases List.mem_cons.mp (I.stkSub b hb) with e | hb
  · rw [e]; exact I.free
  · obtain ⟨_, o, ho, _⟩ := I.ok.funs.mem hb
    exact I.base.free b o ho (I.ok.frf b hb) fun z => I.ok.exfs b z hb

/-- THE STEP: the untracked objects but the frame and the records at ch are kept (the callers' frames up to slots), the frame's map is kept, the new abstract heap is held -/
theorem Inv.step {g' : Array GenState} {t' : Nat} {d' : Drawn} {ch : List Addr} (I : Inv X pins σ H s)
    (hch : ∀ b ∈ ch, (b ∈ X.ex ∨ X.s₀.heap.objs.size ≤ b) ∧ b ≠ X.env.locals ∧ (∀ x c, X.env.cells.lookup x = some c → c ≠ b) ∧ ∀ p ∈ X.pn ++ pins, p.1 ≠ b)
    (keep : ∀ b o, b ≠ X.env.locals → b ∉ X.fs → b ∉ ch → s.heap.get? b = some o → H b = none → h'.get? b = some o)
    (slot : ∀ b o, b ≠ X.env.locals → b ∈ X.fs → b ∉ ch → s.heap.get? b = some o → H b = none → ∃ sl, h'.get? b = some { o with slots := sl }) (free : ∀ b o, b ∉ ch → s.heap.get? b = some o → H b = none → H' b = none)
    (there : ∀ b o, b ∉ ch → s.heap.get? b = some o → ∃ o', h'.get? b = some o')
    (tups : ∀ b xs, H b = some (.tup xs) → H' b = some (.tup xs)) (frzs : ∀ b o u, H b = some (.frz o u) → H' b = some (.frz o u)) (tbls : ∀ b ps, H b = some (.tbl ps) → ∃ more, H' b = some (.tbl (ps ++ more)))
    (ns : ∀ m, s.heap.Ns X.env.locals m → h'.Ns X.env.locals m) (hok : HOk X.prog X.w H' h') (hg : AllBare g') :
    Inv X pins σ H' { s with heap := h', gens := g', drawn := d', toks := t' } := by
  have neL : ∀ b o, X.s₀.heap.get? b = some o → b ≠ X.env.locals := fun b o e => Nat.ne_of_lt (Nat.lt_of_lt_of_le (Heap.lt_size e) I.ok.above)
  have neC : ∀ b o, X.s₀.heap.get? b = some o → b ∉ X.ex → b ∉ ch := fun b o e hx hb => by
    rcases (hch b hb).1 with z | z
    · exact hx z
    · exact absurd (Nat.lt_of_lt_of_le (Heap.lt_size e) z) (Nat.lt_irrefl _)
  have cellK : ∀ x c, X.env.cells.lookup x = some c → ∀ v, s.heap.IsCell c v → h'.IsCell c v := fun x c e v ⟨o, ho, hd⟩ => by
    have nch : c ∉ ch := fun z => (hch c z).2.2.1 x c e rfl
    by_cases hc : c ∈ X.fs
    · obtain ⟨sl, q⟩ := slot c o (I.cne x c e) hc nch ho (I.freeC x c e)
      exact ⟨_, q, hd⟩
    · exact ⟨o, keep c o (I.cne x c e) hc nch ho (I.freeC x c e), hd⟩
  refine ⟨I.ok, I.os, hg, ⟨fun b o e n hb hx => ?_, fun b o e n hb hx => ?_, fun b o e n hx => ?_, fun b o e hx => ?_, fun b xs e => tups b xs (I.base.tups b xs e), fun b o xs e => frzs b o xs (I.base.frzs b o xs e), fun b ps e => ?_⟩, ?_, fun x c e => ?_, ?_, fun x c e => ?_, fun p hp => ?_, hok, I.len⟩
  · exact keep b o (neL b o e) hb (neC b o e hx) (I.base.keep b o e n hb hx) (I.base.free b o e n hx)
  · obtain ⟨sl, e1⟩ := I.base.slot b o e n hb hx
    obtain ⟨sl', e2⟩ := slot b _ (neL b o e) hb (neC b o e hx) e1 (I.base.free b o e n hx)
    exact ⟨sl', e2⟩
  · obtain ⟨o', e1⟩ := I.base.there b o e hx
    exact free b o' (neC b o e hx) e1 (I.base.free b o e n hx)
  · obtain ⟨o', e1⟩ := I.base.there b o e hx
    exact there b o' (neC b o e hx) e1
  · obtain ⟨m1, e1⟩ := I.base.tbls b ps e
    obtain ⟨m2, e2⟩ := tbls b _ e1
    exact ⟨m1 ++ m2, by rw [e2, Array.append_assoc]⟩
  · obtain ⟨m, hn, hl⟩ := I.loc
    refine ⟨m, ns m hn, fun i x v e1 e2 e3 => ?_⟩
    obtain ⟨u, r, l⟩ := hl i x v e1 e2 e3
    refine ⟨u, r, ?_⟩
    rcases l with l | ⟨k, c, e, z⟩
    · exact .inl l
    · exact .inr ⟨k, c, e, cellK x c e _ z⟩
  · obtain ⟨v, z⟩ := I.cell x c e
    exact ⟨v, cellK x c e v z⟩
  · obtain ⟨m, ⟨o, _, _, ho, _⟩, _⟩ := I.loc
    exact free _ o (fun z => (hch _ z).2.1 rfl) ho I.free
  · obtain ⟨v, o, ho, hd⟩ := I.cell x c e
    exact free c o (fun z => (hch c z).2.2.1 x c e rfl) ho (I.freeC x c e)
  · obtain ⟨e, n, ne, nf, d⟩ := I.pin p hp
    have nch : p.1 ∉ ch := fun z => (hch p.1 z).2.2.2 p hp rfl
    exact ⟨keep p.1 p.2 ne nf nch e n, free p.1 p.2 nch e n, ne, nf, d⟩
/-- .. where the frame's own object is kept too -/
theorem Inv.un {t' : Nat} (I : Inv X pins σ H s) (u : Un X.fs [] H H' s.heap h') (hok : HOk X.prog X.w H' h') : Inv X pins σ H' { s with heap := h', toks := t' } := by
  obtain ⟨m, ⟨o, es, ep, ho, r⟩, _⟩ := id I.loc
  obtain ⟨sl, hL⟩ := u.any ho I.free (by simp)
  exact I.step (g' := s.gens) (d' := s.drawn) (ch := []) (fun _ z => nomatch z) (fun b o _ hb _ e n => u.keep b o e n hb (by simp)) (fun b o _ hb _ e n => u.slot b o e n hb (by simp)) (fun b o _ e n => u.free b o e n (by simp)) (fun b o _ e => u.there b o e (by simp)) u.tups u.frzs u.tbls (fun m' hm => by
    obtain ⟨o', es', ep', ho', r'⟩ := hm
    rw [ho] at ho'; cases ho'
    exact ⟨_, es', ep', hL, r'⟩) hok I.bare
/-- behind a call (or a comprehension's block): the slots of this frame may have changed too, the records at ch may have turned -/
theorem Inv.call {g' : Array GenState} {t' : Nat} {d' : Drawn} {ch : List Addr} (I : Inv X pins σ H s) (u : Un (frs X.stack) ch H H' s.heap h') (hok : HOk X.prog X.w H' h') (hg : AllBare g')
    (hch : ∀ b ∈ ch, (b ∈ X.ex ∨ X.s₀.heap.objs.size ≤ b) ∧ b ≠ X.env.locals ∧ (∀ x c, X.env.cells.lookup x = some c → c ≠ b) ∧ ∀ p ∈ X.pn ++ pins, p.1 ≠ b) :
    Inv X pins σ H' { s with heap := h', gens := g', drawn := d', toks := t' } := by
  obtain ⟨m, ⟨o, es, ep, ho, r⟩, _⟩ := id I.loc
  obtain ⟨sl, hL⟩ := u.any ho I.free fun z => (hch _ z).2.1 rfl
  exact I.step (ch := ch) hch (fun b o hL hb hc e n => u.keep b o e n (fun z => (List.mem_cons.mp (I.stkSub b z)).elim hL hb) hc) (fun b o _ _ hc e n => u.any e n hc) (fun b o hc e n => u.free b o e n hc) (fun b o hc e => u.there b o e hc) u.tups u.frzs u.tbls (fun m' hm => by
    obtain ⟨o', es', ep', ho', r'⟩ := hm
    rw [ho] at ho'; cases ho'
    exact ⟨_, es', ep', hL, r'⟩) hok hg
/-- an untracked record of ours (an iterator) has turned -/
theorem Inv.turned {t' : Nat} {it : Addr} (I : Inv X pins σ H s) (k : ∀ b o, b ≠ it → s.heap.get? b = some o → h'.get? b = some o) (hn : H it = none) (hL : it ≠ X.env.locals)
    (h1 : it ∈ X.ex ∨ X.s₀.heap.objs.size ≤ it) (h2 : ∀ x c, X.env.cells.lookup x = some c → c ≠ it) (h3 : ∀ p ∈ X.pn ++ pins, p.1 ≠ it) : Inv X pins σ H { s with heap := h', toks := t' } := by
  have nit : ∀ b u, H b = some u → b ≠ it := fun b u e z => by rw [z, hn] at e; cases e
  refine I.step (g' := s.gens) (d' := s.drawn) (ch := [it]) (fun b hb => ?_) (fun b o _ _ hc e _ => k b o (fun z => hc (by simp [z])) e) (fun b o _ _ hc e _ => ⟨o.slots, k b o (fun z => hc (by simp [z])) e⟩) (fun _ _ _ _ n => n)
    (fun b o hc e => ⟨o, k b o (fun z => hc (by simp [z])) e⟩) (fun _ _ e => e) (fun _ _ _ e => e) (fun b ps e => ⟨#[], by rw [e]; simp⟩) (fun m hm => ?_) (fun b u e => ?_) I.bare
  · have e : b = it := by simpa using hb
    subst e
    exact ⟨h1, hL, h2, h3⟩
  · obtain ⟨o, es, ep, ho, r⟩ := hm
    exact ⟨o, es, ep, k _ o (Ne.symm hL) ho, r⟩
  · refine (I.hok b u e).stay (fun c v hc q => k c v ?_ q) (fun _ q => q) fun _ _ q => q
    rcases hc with z | z
    · rw [z]; exact nit b u e
    · exact nit c _ z
theorem Inv.tok (I : Inv X pins σ H s) (t : Nat) : Inv X pins σ H { s with toks := t } := I.un (h' := s.heap) (t' := t) Un.refl I.hok
/-- all objects kept -/
theorem Inv.kept {t' : Nat} (I : Inv X pins σ H s) (k : ∀ b u, s.heap.get? b = some u → h'.get? b = some u) : Inv X pins σ H { s with heap := h', toks := t' } := I.un (Un.kept k) (I.hok.kept k)
/-- a new object laid and tracked -/
theorem Inv.laid {a : Addr} {o : HO} {t' : Nat} (I : Inv X pins σ H s) (k : ∀ b u, s.heap.get? b = some u → h'.get? b = some u) (hp : s.heap.objs.size ≤ a) (new : ObjOk X.prog X.w (upd H a o) h' a o) :
    Inv X pins σ (upd H a o) { s with heap := h', toks := t' } := I.un (Un.laid k hp (I.hok.fresh hp)) (I.hok.laid k hp new)
/-- an object written -/
theorem Inv.write {x e : Addr} {o : HO} {t' : Nat} (I : Inv X pins σ H s) (mu : Mut (H x)) (he : e = x ∨ H e = some (.own x)) (k : ∀ b u, b ≠ e → s.heap.get? b = some u → h'.get? b = some u) (heo : ∃ u, h'.get? e = some u)
    (new : ObjOk X.prog X.w (upd H x o) h' x o) : Inv X pins σ (upd H x o) { s with heap := h', toks := t' } := I.un (Un.write mu he k heo) (I.hok.write mu he k heo new)
theorem Inv.pins_of {pins' : List (Addr × Obj)} (I : Inv X pins σ H s) (h : ∀ p ∈ pins', s.heap.get? p.1 = some p.2 ∧ H p.1 = none ∧ p.1 ≠ X.env.locals ∧ p.1 ∉ X.fs ∧ ∀ v, p.2.data ≠ .cell v) : Inv X pins' σ H s :=
  ⟨I.ok, I.os, I.bare, I.base, I.loc, I.cell, I.free, I.freeC, fun p hp => (List.mem_append.mp hp).elim (fun z => I.pin p (List.mem_append_left _ z)) (h p), I.hok, I.len⟩

theorem nodup_ix {N : List Str} (hN : N.Nodup) {i j : Nat} {x : Str} (a : N[i]? = some x) (b : N[j]? = some x) : i = j := by
  obtain ⟨h1, e1⟩ := List.getElem?_eq_some_iff.mp a
  obtain ⟨h2, e2⟩ := List.getElem?_eq_some_iff.mp b
  exact (List.getElem_inj hN).mp (e1.trans e2.symm)

/-- a name is stored; what changed -/
theorem store_ok2 {M : Model} {A : Around} {E : Value → Shared → Prop} {i : Nat} {x : Str} {v : V} {u : Value} {Q : Unit → Shared → Prop} (I : Inv X pins σ H s) (hN : X.N.Nodup) (hi : X.N[i]? = some x) (hx : Loc X.env.scope x) (r : RelV v u)
    (h : ∀ s', Inv X pins (σ.set i (some v)) H s' → (∃ a, Heap.SameBut a s.heap s'.heap ∧ (a = X.env.locals ∨ X.env.cells.lookup x = some a)) → Q () s') (hf : X.fn x = true ∨ X.env.scope.names.lookup x = some .local := by first | exact .inl rfl | exact .inr rfl | assumption) : wpAny M A (storeName X.env x u) Q E s := by
  obtain ⟨m, hn, hl⟩ := id I.loc
  have hcls : (X.env.scope.kind == .class || (X.env.scope.kind == .module && X.env.locals != X.env.globals)) = false := by rw [I.ok.kind]; rfl
  have hiσ : i < σ.length := by rw [I.len]; exact (List.getElem?_eq_some_iff.mp hi).1
  have cne := I.cne
  have tracked : ∀ {a : Addr} {h' : Heap}, (∃ o, s.heap.get? a = some o ∧ H a = none) → Heap.SameBut a s.heap h' → HOk X.prog X.w H h' := fun {a h'} ha hs b ob e => by
    obtain ⟨_, _, hfree⟩ := ha
    refine (I.hok b ob e).stay (fun c w' hc q => (hs.2 c ?_).trans q) (fun _ q => q) fun _ _ q => q
    rintro rfl
    rcases hc with rfl | hc
    · rw [hfree] at e; cases e
    · rw [hfree] at hc; cases hc
  rcases hx with hk | hk
  · refine wpAny_storeName_local hk hn (fun h' hn' hs => ?_) hcls
    obtain ⟨oL, _, _, hoL, _⟩ := id hn
    refine h _ ⟨I.ok, I.os, I.bare, ⟨fun b o e n hb hx => ?_, fun b o e n hb hx => ?_, I.base.free, fun b o e hx => ?_, I.base.tups, I.base.frzs, I.base.tbls⟩, ⟨_, hn', fun j y v' e1 e2 e3 => ?_⟩, fun y c e => ?_, I.free, I.freeC, fun p hp => ?_, tracked ⟨oL, hoL, I.free⟩ hs, by simpa using I.len⟩ ⟨_, hs, .inl rfl⟩
    · exact (hs.2 b (Nat.ne_of_lt (Nat.lt_of_lt_of_le (Heap.lt_size e) I.ok.above))).trans (I.base.keep b o e n hb hx)
    · obtain ⟨sl, e1⟩ := I.base.slot b o e n hb hx
      exact ⟨sl, (hs.2 b (Nat.ne_of_lt (Nat.lt_of_lt_of_le (Heap.lt_size e) I.ok.above))).trans e1⟩
    · obtain ⟨o', e1⟩ := I.base.there b o e hx
      exact ⟨o', (hs.2 b (Nat.ne_of_lt (Nat.lt_of_lt_of_le (Heap.lt_size e) I.ok.above))).trans e1⟩
    · by_cases hj : j = i
      · subst hj
        rw [hi] at e1; cases e1
        rw [List.getElem?_set_self hiσ] at e2
        cases e2
        exact ⟨u, r, .inl ⟨hk, by simp⟩⟩
      · rw [List.getElem?_set_ne (Ne.symm hj)] at e2
        obtain ⟨u', r', q⟩ := hl j y v' e1 e2 e3
        refine ⟨u', r', ?_⟩
        rcases q with ⟨k, e⟩ | ⟨k, c, e, z⟩
        · refine .inl ⟨k, ?_⟩
          have : y ≠ x := fun e => hj (nodup_ix hN e1 (e ▸ hi))
          simp [this, e]
        · exact .inr ⟨k, c, e, z.sameBut hs (cne y c e)⟩
    · obtain ⟨w', z⟩ := I.cell y c e
      exact ⟨w', z.sameBut hs (cne y c e)⟩
    · obtain ⟨e, n, ne, nf, d⟩ := I.pin p hp
      exact ⟨(hs.2 p.1 ne).trans e, n, ne, nf, d⟩
  · have hfn : X.fn x = true := by
      rcases hf with z | z
      · exact z
      · rw [z] at hk; cases hk
    obtain ⟨c, hc⟩ := I.ok.has x (.inl hk)
    obtain ⟨w', z⟩ := I.cell x c hc
    refine wpAny_storeName_cell I.ok.kind hk hc z (fun h' hc' hs => ?_)
    obtain ⟨oc, hoc, hocd⟩ := id z
    refine h { s with heap := h' } ⟨I.ok, I.os, I.bare, ⟨fun b o e n hb hx => ?_, fun b o e n hb hx => ?_, I.base.free, fun b o e hx => ?_, I.base.tups, I.base.frzs, I.base.tbls⟩, ⟨m, hn.sameBut hs (Ne.symm (cne x c hc)), fun j y v' e1 e2 e3 => ?_⟩, fun y c' e => ?_, I.free, I.freeC, fun p hp => ?_, tracked ⟨oc, hoc, I.freeC x c hc⟩ hs, by simpa using I.len⟩ ⟨c, hs, .inr hc⟩
    · exact (hs.2 b (Nat.ne_of_lt (Nat.lt_of_lt_of_le (Heap.lt_size e) (I.ok.cab x c hfn hc)))).trans (I.base.keep b o e n hb hx)
    · obtain ⟨sl, e1⟩ := I.base.slot b o e n hb hx
      exact ⟨sl, (hs.2 b (Nat.ne_of_lt (Nat.lt_of_lt_of_le (Heap.lt_size e) (I.ok.cab x c hfn hc)))).trans e1⟩
    · obtain ⟨o', e1⟩ := I.base.there b o e hx
      exact ⟨o', (hs.2 b (Nat.ne_of_lt (Nat.lt_of_lt_of_le (Heap.lt_size e) (I.ok.cab x c hfn hc)))).trans e1⟩
    · by_cases hj : j = i
      · subst hj
        rw [hi] at e1; cases e1
        rw [List.getElem?_set_self hiσ] at e2
        cases e2
        exact ⟨u, r, .inr ⟨.inl hk, c, hc, hc'⟩⟩
      · rw [List.getElem?_set_ne (Ne.symm hj)] at e2
        obtain ⟨u', r', q⟩ := hl j y v' e1 e2 e3
        refine ⟨u', r', ?_⟩
        rcases q with q | ⟨k, c', e, z'⟩
        · exact .inl q
        · refine .inr ⟨k, c', e, z'.sameBut hs ?_⟩
          rintro rfl
          exact hj (nodup_ix hN e1 (I.ok.inj _ _ _ e hc ▸ hi))
    · by_cases hcc : c' = c
      · subst hcc; exact ⟨_, hc'⟩
      · obtain ⟨w2, z2⟩ := I.cell y c' e
        exact ⟨w2, z2.sameBut hs hcc⟩
    · obtain ⟨e, n, ne, nf, d⟩ := I.pin p hp
      refine ⟨(hs.2 p.1 ?_).trans e, n, ne, nf, d⟩
      intro q
      rw [q, hoc] at e
      have q' : oc = p.2 := Option.some.inj e
      exact d w' (by rw [← q']; exact hocd)
theorem store_ok {M : Model} {A : Around} {E : Value → Shared → Prop} {i : Nat} {x : Str} {v : V} {u : Value} {Q : Unit → Shared → Prop} (I : Inv X pins σ H s) (hN : X.N.Nodup) (hi : X.N[i]? = some x) (hx : Loc X.env.scope x) (r : RelV v u)
    (h : ∀ s', Inv X pins (σ.set i (some v)) H s' → Q () s') (hf : X.fn x = true ∨ X.env.scope.names.lookup x = some .local := by first | exact .inl rfl | exact .inr rfl | assumption) : wpAny M A (storeName X.env x u) Q E s :=
  store_ok2 I hN hi hx r (fun s' I' _ => h s' I') hf
end

/-! ### the judgements -/
/-- an exception: its class, its own dict's address (where it has one), the abstract heap behind it -/
abbrev XK := Value → Option Addr → Hp → Prop
abbrev St := List (Option V)
abbrev VK := V → Hp → Prop
/-- an expression's reading; a test's; an argument list's -/
abbrev TE := St → Hp → VK → Prop
abbrev TT := St → Hp → (Bool → Hp → Prop) → Prop
abbrev TA := St → Hp → (List V → Hp → Prop) → Prop
/-- what is wanted behind a statement -/
structure Ends where
  nx : St → Hp → Prop
  rt : VK
  bk : St → Hp → Prop := fun _ _ => False
  ct : St → Hp → Prop := fun _ _ => False
abbrev TS := Ends → St → Hp → Prop

def EP (X : Cx) (pins : List (Addr × Obj)) (σ : St) (Q : VK) (u : Value) (s' : Shared) : Prop := ∃ v H', Inv X pins σ H' s' ∧ RelV v u ∧ Q v H'
def TP (X : Cx) (pins : List (Addr × Obj)) (σ : St) (Q : Bool → Hp → Prop) (b : Bool) (s' : Shared) : Prop := ∃ H', Inv X pins σ H' s' ∧ Q b H'
def AP (X : Cx) (pins : List (Addr × Obj)) (σ : St) (Q : List V → Hp → Prop) (us : List Value) (s' : Shared) : Prop := ∃ vs H', Inv X pins σ H' s' ∧ Vals vs us ∧ Q vs H'
def SP (X : Cx) (pins : List (Addr × Obj)) (D : Ends) (f : Flow) (s' : Shared) : Prop :=
  match f with
  | .next => ∃ σ' H', Inv X pins σ' H' s' ∧ D.nx σ' H'
  | .brk => ∃ σ' H', Inv X pins σ' H' s' ∧ D.bk σ' H'
  | .cont => ∃ σ' H', Inv X pins σ' H' s' ∧ D.ct σ' H'
  | .ret u => ∃ v σ' H', Inv X pins σ' H' s' ∧ RelV v u ∧ D.rt v H'

def PE (X : Cx) (e : Expr) (t : TE) : Prop :=
  ∀ (pins : List (Addr × Obj)) (s : Shared) (σ : St) (H : Hp) (Q : VK), Inv X pins σ H s → t σ H Q → wpAny (model X.prog X.w) X.A (eval e X.env) (EP X pins σ Q) X.xe s
def PT (X : Cx) (e : Expr) (t : TT) : Prop :=
  ∀ (pins : List (Addr × Obj)) (s : Shared) (σ : St) (H : Hp) (Q : Bool → Hp → Prop), Inv X pins σ H s → t σ H Q → wpAny (model X.prog X.w) X.A (isTrue e X.env (eval e X.env)) (TP X pins σ Q) X.xe s
/-- a test whatever its 'whole' is (and, or) -/
def PW (X : Cx) (e : Expr) (t : TT) : Prop :=
  ∀ (whole : Sem Value) (pins : List (Addr × Obj)) (s : Shared) (σ : St) (H : Hp) (Q : Bool → Hp → Prop), Inv X pins σ H s → t σ H Q → wpAny (model X.prog X.w) X.A (isTrue e X.env whole) (TP X pins σ Q) X.xe s
theorem PW.pt {X : Cx} {e : Expr} {t : TT} (h : PW X e t) : PT X e t := h _
/-- an argument list (no star), from the left -/
def PA (X : Cx) (es : List Expr) (t : TA) : Prop :=
  ∀ (pos : Pos) (pins : List (Addr × Obj)) (s : Shared) (σ : St) (H : Hp) (Q : List V → Hp → Prop), Inv X pins σ H s → t σ H Q → wpAny (model X.prog X.w) X.A (spliced (backTo pos (starEach es X.env))) (AP X pins σ Q) X.xe s
def PS (X : Cx) (st : Stmt) (t : TS) : Prop :=
  ∀ (pins : List (Addr × Obj)) (s : Shared) (σ : St) (H : Hp) (D : Ends), Inv X pins σ H s → t D σ H → wpAny (model X.prog X.w) X.A (exec st X.env) (SP X pins D) X.xe s
def PSs (X : Cx) (st : List Stmt) (t : TS) : Prop :=
  ∀ (pins : List (Addr × Obj)) (s : Shared) (σ : St) (H : Hp) (D : Ends), Inv X pins σ H s → t D σ H → wpAny (model X.prog X.w) X.A (execs st X.env) (SP X pins D) X.xe s
/-- weaken the end -/
theorem thn {α : Type} {t : Sem α} {Q Q' : α → Shared → Prop} {M : Model} {A : Around} {E : Value → Shared → Prop} {s : Shared} (h : wpAny M A t Q E s) (hQ : ∀ a s, Q a s → Q' a s) : wpAny M A t Q' E s := wpAny_mono h hQ fun _ _ x => x
end L2

namespace L2
open PySem PySem.Spec PyProof.Rows
section
variable {X : Cx}

/-! ### names and constants -/
def tVar (i : Nat) : TE := fun σ H Q => ∃ v, σ[i]? = some (some v) ∧ Q v H
def tC (v : V) : TE := fun _ H Q => Q v H
theorem pe_var {i : Nat} {x : Str} {pos : Pos} (hN : X.N[i]? = some x) (hv : Vis X.env.scope x) (hd : (x == ("__debug__" : Str)) = false := by decide) (hcd : (x == ("__classdict__" : Str)) = false := by decide) : PE X (.Name x pos) (tVar i) := by
  intro pins s σ H Q I h
  obtain ⟨v, e, h⟩ := h
  obtain ⟨m, hn, hl⟩ := I.loc
  obtain ⟨u, r, l⟩ := hl i x v hN e hv
  have fin : EP X pins σ Q u s := ⟨v, H, I, r, h⟩
  rcases l with ⟨hk, hm⟩ | ⟨hk, c, hc, hcell⟩
  · exact wpAny_Name (wpAny_loadName_local I.ok.kind hk hn hm fin) hd
  · rcases hk with hk | hk
    · exact wpAny_Name (wpAny_loadName_cell I.ok.kind hk hc hcell fin) hd
    · exact wpAny_Name (wpAny_loadName_free I.ok.kind hk hc hcell fin hcd) hd
theorem pe_int {i j pos} : PE X (.Constant (.int i) j pos) (tC (.int i)) := fun _ _ _ H _ I h => wpAny_Constant_int ⟨.int i, H, I.tok _, ⟨_, rfl⟩, h⟩
theorem pe_bl {b j pos} : PE X (.Constant (.bool b) j pos) (tC (.bl b)) := fun _ _ _ H _ I h => Constant_bool ⟨.bl b, H, I, rfl, h⟩
theorem pe_str {x j pos} : PE X (.Constant (.str x) j pos) (tC (.str x)) := fun _ _ _ H _ I h => Calls.Constant_str ⟨.str x, H, I.tok _, ⟨_, rfl⟩, h⟩

/-- a global name of the def -/
def Gl (X : Cx) (x : Str) : Prop := X.env.kindOf x = some .globalImplicit
theorem ld_glob {E : Value → Shared → Prop} {pins : List (Addr × Obj)} {s : Shared} {σ : St} {H : Hp} {x : Str} {u : Value} {pos : Pos} {Q : Value → Shared → Prop} (I : Inv X pins σ H s) (hg : Gl X x) (hm : X.mg x = some u) (h : Q u s)
    (hd : (x == ("__debug__" : Str)) = false := by decide) : wpAny (model X.prog X.w) X.A (eval (.Name x pos) X.env) Q E s :=
  Calls.Name_function_global I.ok.kind hg (Calls.loadGlobal_global (by rw [I.ok.glob]; exact I.mod.glob.keeps I.bk) hm h) hd
theorem ld_blt {E : Value → Shared → Prop} {pins : List (Addr × Obj)} {s : Shared} {σ : St} {H : Hp} {x : Str} {u : Value} {pos : Pos} {Q : Value → Shared → Prop} (I : Inv X pins σ H s) (hg : Gl X x) (hm : X.mg x = none) (hv : bootBuiltins x = some u) (h : Q u s)
    (hn : x ≠ "__name__" := by decide) (hd : (x == ("__debug__" : Str)) = false := by decide) : wpAny (model X.prog X.w) X.A (eval (.Name x pos) X.env) Q E s := by
  obtain ⟨mb, h1, h2⟩ := I.mod.blt
  exact Calls.Name_function_global I.ok.kind hg (Calls.loadGlobal_builtin (by rw [I.ok.glob]; exact I.mod.glob.keeps I.bk) hm (by rw [I.ok.blt]; exact h1.keeps I.bk) ((h2 x hn).trans hv) h) hd
theorem pe_bltn {x : Str} {v : V} {u : Value} {pos : Pos} (hg : Gl X x) (hm : X.mg x = none) (hv : bootBuiltins x = some u) (r : RelV v u) (hn : x ≠ "__name__" := by decide) (hd : (x == ("__debug__" : Str)) = false := by decide) : PE X (.Name x pos) (tC v) :=
  fun _ _ _ H _ I h => ld_blt I hg hm hv ⟨v, H, I, r, h⟩ hn hd

/-! ### arithmetic -/
variable {a b : Expr} {ta tb : TE} {pos : Pos}
/-! ### comparisons -/
/-- a comparison as a value, as a test -/
def tB (t : TE) : TT := fun σ H Q => t σ H fun x H1 => ∃ c, x = .bl c ∧ Q c H1
/-- an expression whose value is a bool, as a test -/
theorem pt_val {e : Expr} {t : TE} (h : PE X e t) (he : ∀ whole, isTrue e X.env whole = (do let v ← whole; standAt e.pos; holding [v] (truthy v)) := by intro _; rfl) : PT X e (tB t) := by
  intro pins s σ H Q I hw
  refine isTrue_plain (thn (h pins s σ H _ I hw) fun v s1 ⟨x, H1, I1, r1, q1⟩ => ?_) (he _)
  obtain ⟨d, rfl, q⟩ := q1
  cases r1
  exact wpAny_truthy_bool ⟨H1, I1, q⟩

/-! ### and, or, not -/
variable {tA tB' : TT} {rest : List Expr}
def tAnd (t u : TT) : TT := fun σ H Q => t σ H fun c H1 => if c = true then u σ H1 Q else Q false H1
def tOr (t u : TT) : TT := fun σ H Q => t σ H fun c H1 => if c = true then Q true H1 else u σ H1 Q
def tNot (t : TT) : TT := fun σ H Q => t σ H fun c H1 => Q (!c) H1
theorem pw_and1 (ha : PT X a tA) : PW X (.BoolOp .And [a] pos) tA := by
  intro wh pins s σ H Q I h
  refine isTrue_and (thn (ha pins s σ H Q I h) fun c s1 e => ?_)
  cases c with
  | true => exact isTrue_and_nil e
  | false => exact e
theorem pw_or1 (ha : PT X a tA) : PW X (.BoolOp .Or [a] pos) tA := by
  intro wh pins s σ H Q I h
  refine isTrue_or (thn (ha pins s σ H Q I h) fun c s1 e => ?_)
  cases c with
  | false => exact isTrue_or_nil e
  | true => exact e
theorem pw_and (ha : PT X a tA) (hb : PW X (.BoolOp .And (b :: rest) pos) tB') : PW X (.BoolOp .And (a :: b :: rest) pos) (tAnd tA tB') := by
  intro wh pins s σ H Q I h
  refine isTrue_and (thn (ha pins s σ H _ I h) fun c s1 ⟨H1, I1, q1⟩ => ?_)
  cases c with
  | true => exact hb wh pins s1 σ H1 Q I1 q1
  | false => exact ⟨H1, I1, q1⟩
theorem pw_or (ha : PT X a tA) (hb : PW X (.BoolOp .Or (b :: rest) pos) tB') : PW X (.BoolOp .Or (a :: b :: rest) pos) (tOr tA tB') := by
  intro wh pins s σ H Q I h
  refine isTrue_or (thn (ha pins s σ H _ I h) fun c s1 ⟨H1, I1, q1⟩ => ?_)
  cases c with
  | true => exact ⟨H1, I1, q1⟩
  | false => exact hb wh pins s1 σ H1 Q I1 q1
theorem pt_not (ha : PT X a tA) : PT X (.UnaryOp .Not a pos) (tNot tA) := by
  intro pins s σ H Q I h
  exact isTrue_not (ha pins s σ H (fun c H1 => Q (!c) H1) I h)
/-- .. as values (bools) -/
def tAndV (ta tb : TE) : TE := fun σ H Q => ta σ H fun x H1 => ∃ c, x = .bl c ∧ if c = true then tb σ H1 Q else Q (.bl false) H1
def tOrV (ta tb : TE) : TE := fun σ H Q => ta σ H fun x H1 => ∃ c, x = .bl c ∧ if c = true then Q (.bl true) H1 else tb σ H1 Q
theorem pe_one {op} {t : TE} (h : PE X a t) : PE X (.BoolOp op [a] pos) t := fun pins s σ H Q I hw => BoolOp_one (h pins s σ H Q I hw)
theorem pe_and (ha : PE X a ta) (hb : PE X (.BoolOp .And (b :: rest) pos) tb) : PE X (.BoolOp .And (a :: b :: rest) pos) (tAndV ta tb) := by
  intro pins s σ H Q I h
  refine BoolOp_and (thn (ha pins s σ H _ I h) fun v s1 ⟨x, H1, I1, r1, q1⟩ => ?_)
  obtain ⟨c, rfl, q1⟩ := q1
  cases r1
  refine wpAny_truthy_bool ?_
  cases c with
  | true => exact hb pins s1 σ H1 Q I1 q1
  | false => exact ⟨.bl false, H1, I1, rfl, q1⟩
theorem pe_or (ha : PE X a ta) (hb : PE X (.BoolOp .Or (b :: rest) pos) tb) : PE X (.BoolOp .Or (a :: b :: rest) pos) (tOrV ta tb) := by
  intro pins s σ H Q I h
  refine BoolOp_or (thn (ha pins s σ H _ I h) fun v s1 ⟨x, H1, I1, r1, q1⟩ => ?_)
  obtain ⟨c, rfl, q1⟩ := q1
  cases r1
  refine wpAny_truthy_bool ?_
  cases c with
  | false => exact hb pins s1 σ H1 Q I1 q1
  | true => exact ⟨.bl true, H1, I1, rfl, q1⟩
end
end L2

namespace L2
open PySem PySem.Spec PyProof.Rows

/-! ### a list, a tuple that is read: tracked, frozen, or an object of the module -/
def SqL (K : PySem.W.Frag) (H : Hp) (a : Addr) (xs : List V) : Prop :=
  Rd H a (.lst xs) ∨
    ∃ (o : Obj) (its : Array Value) (n : Nat), K.lookup a = some o ∧ o.cls = .type "list" ∧ o.dict = none ∧ o.data = .seq its n ∧ its.size ≤ sizeLine ∧ Vals xs its.toList
def SqT (K : PySem.W.Frag) (H : Hp) (a : Addr) (xs : List V) : Prop :=
  Rd H a (.tup xs) ∨
    ∃ (o : Obj) (its : Array Value) (n : Nat), K.lookup a = some o ∧ o.cls = .type "tuple" ∧ o.data = .seq its n ∧ its.size ≤ sizeLine ∧ Vals xs its.toList
def absV : Value → Option V
  | .none => some .non
  | .bool b => some (.bl b)
  | .int i _ => some (.int i)
  | .str x _ => some (.str x)
  | .bytes b _ => some (.byt b)
  | .float b _ => some (.flt b)
  | .ref a => some (.ref a)
  | .type n => some (.ty n)
  | _ => none
theorem RelV.abs {x : V} {u : Value} (r : RelV x u) : absV u = some x := by
  cases x with
  | non => cases r; rfl
  | bl _ => cases r; rfl
  | int _ => obtain ⟨t, rfl⟩ := r; rfl
  | str _ => obtain ⟨t, rfl⟩ := r; rfl
  | byt _ => obtain ⟨t, rfl⟩ := r; rfl
  | flt _ => obtain ⟨t, rfl⟩ := r; rfl
  | ref _ => cases r; rfl
  | ty _ => cases r; rfl
theorem RelV.inj {x y : V} {u : Value} (r : RelV x u) (q : RelV y u) : x = y := Option.some.inj (r.abs.symm.trans q.abs)
theorem Vals.inj : ∀ {xs ys : List V} {us : List Value}, Vals xs us → Vals ys us → xs = ys
  | _, _, _, .nil, .nil => rfl
  | _, _, _, .cons r t, .cons r' t' => by rw [r.inj r', Vals.inj t t']
section
variable {X : Cx} {pins : List (Addr × Obj)} {σ : St} {H : Hp} {s : Shared} {a : Addr} {xs ys : List V}
theorem SqL.of {K : PySem.W.Frag} (h : H a = some (.lst xs)) : SqL K H a xs := .inl (.inl h)
theorem SqT.of {K : PySem.W.Frag} (h : H a = some (.tup xs)) : SqT K H a xs := .inl (.inl h)
theorem Inv.list (I : Inv X pins σ H s) (h : SqL X.K H a xs) : ∃ its : List Value, Vals xs its ∧ PlainL s.heap a its.toArray ∧ xs.length ≤ sizeLine := by
  rcases h with h | ⟨o, its, n, hk, hc, hd, hs, hz, r⟩
  · obtain ⟨z, its, n, r, e⟩ := h.ok I.hok
    exact ⟨its, r, ⟨_, n, e, rfl, rfl, rfl⟩, z⟩
  · refine ⟨its.toList, r, ⟨o, n, I.kIn a o hk, hc, hd, by simpa using hs⟩, ?_⟩
    have e := r.length
    simp only [Array.length_toList] at e
    omega
theorem Inv.tuple (I : Inv X pins σ H s) (h : SqT X.K H a xs) : ∃ its : List Value, Vals xs its ∧ IsTup s.heap a its.toArray ∧ xs.length ≤ sizeLine := by
  rcases h with h | ⟨o, its, n, hk, hc, hs, hz, r⟩
  · obtain ⟨z, its, r, p⟩ := h.ok I.hok
    exact ⟨its, r, p, z⟩
  · refine ⟨its.toList, r, ⟨o, I.kIn a o hk, hc, n, by simpa using hs⟩, ?_⟩
    have e := r.length
    simp only [Array.length_toList] at e
    omega
theorem Inv.list_inj (I : Inv X pins σ H s) (h : SqL X.K H a xs) (h' : SqL X.K H a ys) : xs = ys := by
  obtain ⟨its, r, ⟨o, n, e, _, _, d⟩, _⟩ := I.list h
  obtain ⟨its', r', ⟨o', n', e', _, _, d'⟩, _⟩ := I.list h'
  rw [e] at e'; cases e'
  rw [d] at d'
  injection d' with d1 _
  have : its = its' := by simpa using congrArg Array.toList d1
  subst this
  exact r.inj r'
theorem Inv.tuple_inj (I : Inv X pins σ H s) (h : SqT X.K H a xs) (h' : SqT X.K H a ys) : xs = ys := by
  obtain ⟨its, r, ⟨o, e, _, n, d⟩, _⟩ := I.tuple h
  obtain ⟨its', r', ⟨o', e', _, n', d'⟩, _⟩ := I.tuple h'
  rw [e] at e'; cases e'
  rw [d] at d'
  injection d' with d1 _
  have : its = its' := by simpa using congrArg Array.toList d1
  subst this
  exact r.inj r'
end

/-! ### another wish about exceptions -/
abbrev Cx.wish (X : Cx) (E : Value → Shared → Prop) : Cx := { X with xe := E }
/-- no exception leaves -/
abbrev Cx.nox (X : Cx) : Cx := X.wish fun _ _ => False
theorem Cx.Ok.wish {X : Cx} (ok : X.Ok) (E : Value → Shared → Prop) : (X.wish E).Ok :=
  ⟨ok.mod, ok.kind, ok.glob, ok.blt, ok.above, ok.inj, ok.has, ok.cab, ok.hd, ok.frames, ok.stk, ok.exf, ok.bs, ok.bsz, ok.noex, ok.exfs, ok.funs, ok.frf⟩
theorem Cx.Ok.unwish {X : Cx} {E : Value → Shared → Prop} (ok : (X.wish E).Ok) : X.Ok :=
  ⟨ok.mod, ok.kind, ok.glob, ok.blt, ok.above, ok.inj, ok.has, ok.cab, ok.hd, ok.frames, ok.stk, ok.exf, ok.bs, ok.bsz, ok.noex, ok.exfs, ok.funs, ok.frf⟩
section
variable {X : Cx} {pins : List (Addr × Obj)} {σ : St} {H : Hp} {s : Shared} {E : Value → Shared → Prop}
theorem Inv.wish (I : Inv X pins σ H s) (E : Value → Shared → Prop) : Inv (X.wish E) pins σ H s := ⟨I.ok.wish E, I.os, I.bare, I.base, I.loc, I.cell, I.free, I.freeC, I.pin, I.hok, I.len⟩
theorem Inv.unwish (I : Inv (X.wish E) pins σ H s) : Inv X pins σ H s := ⟨I.ok.unwish, I.os, I.bare, I.base, I.loc, I.cell, I.free, I.freeC, I.pin, I.hok, I.len⟩
theorem SP.unwish {D : Ends} {f : Flow} {s' : Shared} (h : SP (X.wish E) pins D f s') : SP X pins D f s' := by
  cases f with
  | next => obtain ⟨σ', H', I, q⟩ := h; exact ⟨σ', H', I.unwish, q⟩
  | brk => obtain ⟨σ', H', I, q⟩ := h; exact ⟨σ', H', I.unwish, q⟩
  | cont => obtain ⟨σ', H', I, q⟩ := h; exact ⟨σ', H', I.unwish, q⟩
  | ret u => obtain ⟨v, σ', H', I, r, q⟩ := h; exact ⟨v, σ', H', I.unwish, r, q⟩
theorem PE.nox {e : Expr} {t : TE} (h : PE X.nox e t) : PE X e t := fun pins s σ H Q I hw =>
  wpAny_mono (h pins s σ H Q (I.wish _) hw) (fun _ _ ⟨v, H', I', r, q⟩ => ⟨v, H', I'.unwish, r, q⟩) fun _ _ z => False.elim z
theorem PT.nox {e : Expr} {t : TT} (h : PT X.nox e t) : PT X e t := fun pins s σ H Q I hw =>
  wpAny_mono (h pins s σ H Q (I.wish _) hw) (fun _ _ ⟨H', I', q⟩ => ⟨H', I'.unwish, q⟩) fun _ _ z => False.elim z
theorem PSs.nox {st : List Stmt} {t : TS} (h : PSs X.nox st t) : PSs X st t := fun pins s σ H D I hw =>
  wpAny_mono (h pins s σ H D (I.wish _) hw) (fun _ _ q => q.unwish) fun _ _ z => False.elim z
end

/-! ### blocks and small statements -/
section
variable {X : Cx} {st : Stmt} {rest : List Stmt} {t u : TS} {e : Expr} {te : TE} {pos : Pos}
def tNext : TS := fun D σ H => D.nx σ H
def tSeq (t u : TS) : TS := fun D σ H => t { D with nx := u D } σ H
theorem pss_nil : PSs X [] tNext := fun _ _ σ H _ I h => wpAny_execs_nil ⟨σ, H, I, h⟩
theorem pss_cons (h1 : PS X st t) (h2 : PSs X rest u) : PSs X (st :: rest) (tSeq t u) := by
  intro pins s σ H D I h
  refine wpAny_execs_cons (thn (h1 pins s σ H { D with nx := u D } I h) fun f s1 q => ?_)
  cases f with
  | next =>
    obtain ⟨σ', H', I', q⟩ := q
    exact h2 pins s1 σ' H' D I' q
  | ret v => exact q
  | brk => exact q
  | cont => exact q
theorem pss_one (h1 : PS X st t) : PSs X [st] t := by
  intro pins s σ H D I h
  refine wpAny_execs_cons (thn (h1 pins s σ H D I h) fun f s1 q => ?_)
  cases f with
  | next => exact wpAny_execs_nil q
  | ret v => exact q
  | brk => exact q
  | cont => exact q
/-- in a def's body nothing is shown -/
theorem Inv.quiet {pins : List (Addr × Obj)} {σ : St} {H : Hp} {s : Shared} (I : Inv X pins σ H s) : interactive X.env = false := by simp [interactive, I.ok.kind]
/-- an expression whose value is dropped -/
def tDrop (te : TE) : TS := fun D σ H => te σ H fun _ H1 => D.nx σ H1
theorem ps_expr (he : PE X e te) (hs : swapsWith e none pos.line X.env = pure false := by rfl) : PS X (.Expr e pos) (tDrop te) := by
  intro pins s σ H D I h
  exact wpAny_Expr_any (thn (he pins s σ H _ I h) fun v s1 ⟨x, H1, I1, r1, q1⟩ => ⟨σ, H1, I1, q1⟩) I.quiet hs
def tRet (te : TE) : TS := fun D σ H => te σ H D.rt
theorem ps_ret (he : PE X e te) : PS X (.Return (some e) pos) (tRet te) := by
  intro pins s σ H D I h
  exact wpAny_Return_some (thn (he pins s σ H _ I h) fun v s1 ⟨x, H1, I1, r1, q1⟩ => ⟨x, σ, H1, I1, r1, q1⟩)
def tRetN : TS := fun D _ H => D.rt .non H
theorem ps_retN : PS X (.Return none pos) tRetN := fun _ _ σ H _ I h => wpAny_Return_none ⟨.non, σ, H, I, rfl, h⟩
def tIfS (c : TT) (t u : TS) : TS := fun D σ H => c σ H fun b H1 => if b = true then t D σ H1 else u D σ H1
theorem ps_if {c : Expr} {a b : List Stmt} {tc : TT} (hc : PT X c tc) (ha : PSs X a t) (hb : PSs X b u) : PS X (.If c a b pos) (tIfS tc t u) := by
  intro pins s σ H D I h
  refine wpAny_If (thn (hc pins s σ H _ I h) fun d s1 ⟨H1, I1, q1⟩ => ?_)
  cases d with
  | true => exact ha pins s1 σ H1 D I1 q1
  | false => exact hb pins s1 σ H1 D I1 q1
end

/-! ### targets -/
abbrev TG := V → St → Hp → (St → Hp → Prop) → Prop
abbrev TGs := List V → St → Hp → (St → Hp → Prop) → Prop
def PG (X : Cx) (target : Expr) (t : TG) : Prop :=
  ∀ (pins : List (Addr × Obj)) (s : Shared) (σ : St) (H : Hp) (v : V) (u : Value) (Q : St → Hp → Prop), Inv X pins σ H s → RelV v u → t v σ H Q →
    wpAny (model X.prog X.w) X.A (assign target X.env u) (fun _ s' => ∃ σ' H', Inv X pins σ' H' s' ∧ Q σ' H') X.xe s
/-- several targets, one after another -/
def PGs (X : Cx) (ts : List Expr) (t : TGs) : Prop :=
  ∀ (pins : List (Addr × Obj)) (s : Shared) (σ : St) (H : Hp) (vs : List V) (us : List Value) (Q : St → Hp → Prop), Inv X pins σ H s → Vals vs us → t vs σ H Q →
    wpAny (model X.prog X.w) X.A (assignInOrder ((assignEach ts X.env).map (·.2)) us) (fun _ s' => ∃ σ' H', Inv X pins σ' H' s' ∧ Q σ' H') X.xe s
/-- o[i] = v, by values -/
abbrev TSet := V → V → V → Hp → (Hp → Prop) → Prop
def PSet (X : Cx) (t : TSet) : Prop :=
  ∀ (pins : List (Addr × Obj)) (s : Shared) (σ : St) (H : Hp) (o i v : V) (ov iv u : Value) (Q : Hp → Prop), Inv X pins σ H s → RelV o ov → RelV i iv → RelV v u → t o i v H Q →
    wpAny (model X.prog X.w) X.A (setItem ov iv u) (fun _ s' => ∃ H', Inv X pins σ H' s' ∧ Q H') X.xe s
/-- a op= b, by values -/
abbrev TIp := V → V → Hp → VK → Prop
def PIp (X : Cx) (op : Operator) (t : TIp) : Prop :=
  ∀ (pins : List (Addr × Obj)) (s : Shared) (σ : St) (H : Hp) (x y : V) (v u : Value) (Q : VK), Inv X pins σ H s → RelV x v → RelV y u → t x y H Q →
    wpAny (model X.prog X.w) X.A (inplaceOp op v u) (EP X pins σ Q) X.xe s
section
variable {X : Cx} {pos : Pos}
def gName (i : Nat) : TG := fun v σ H Q => Q (σ.set i (some v)) H
theorem pg_name {i : Nat} {x : Str} (hN : X.N.Nodup) (hi : X.N[i]? = some x) (hx : Loc X.env.scope x) (hf : X.fn x = true ∨ X.env.scope.names.lookup x = some .local := by first | exact .inl rfl | exact .inr rfl | assumption) : PG X (.Name x pos) (gName i) := by
  intro pins s σ H v u Q I r h
  exact wpAny_assign_Name (store_ok I hN hi hx r (fun s' I' => ⟨_, H, I', h⟩) hf)
def gNil : TGs := fun vs σ H Q => vs = [] ∧ Q σ H
def gCons (t : TG) (u : TGs) : TGs := fun vs σ H Q => ∃ v r, vs = v :: r ∧ t v σ H fun σ' H' => u r σ' H' Q
theorem pgs_nil : PGs X [] gNil := by
  intro pins s σ H vs us Q I r h
  obtain ⟨e, h⟩ := h
  subst e
  cases r
  exact assignInOrder_nil ⟨σ, H, I, h⟩
theorem pgs_cons {e : Expr} {es : List Expr} {t : TG} {u : TGs} (h1 : PG X e t) (h2 : PGs X es u)
    (hs : (assignEach (e :: es) X.env).map (·.2) = assign e X.env :: (assignEach es X.env).map (·.2) := by rfl) : PGs X (e :: es) (gCons t u) := by
  intro pins s σ H vs us Q I r h
  obtain ⟨v, vr, e1, h⟩ := h
  subst e1
  cases r with
  | cons r rr =>
    rw [hs]
    refine assignInOrder_cons (thn (h1 pins s σ H _ _ _ I r h) fun _ s1 ⟨σ1, H1, I1, q1⟩ => ?_)
    exact h2 pins s1 σ1 H1 _ _ Q I1 rr q1
/-- (a, b, ..) = a tuple of that length -/
def gTup (K : PySem.W.Frag) (n : Nat) (t : TGs) : TG := fun v σ H Q => ∃ a xs, v = .ref a ∧ SqT K H a xs ∧ xs.length = n ∧ t xs σ H Q
theorem pg_tup {es : List Expr} {k : Nat} {t : TGs} {n : Nat} (hc : X.calm = true) (h : PGs X es t)
    (hn : (assignEach es X.env).length = n := by rfl) (hst : (assignEach es X.env).findIdx? (·.1) = none := by rfl) : PG X (.Tuple es k pos) (gTup X.K n t) := by
  intro pins s σ H v u Q I r hw
  obtain ⟨a, xs, e1, hq, hl, hw⟩ := hw
  subst e1
  cases r
  obtain ⟨its, rv, ht, hz⟩ := I.tuple hq
  refine assign_Tuple_tuple (I.ok.hd hc) ht (by simp [hn, ← hl, rv.length]) hst fun h' hx => ?_
  have I1 : Inv X pins σ H { s with heap := h' } := I.kept (t' := s.toks) fun b o e => hx b o (Nat.ne_of_lt (Heap.lt_size e)) e
  exact h pins _ σ H xs _ Q I1 (by simpa using rv) hw
/-- o[i] = .. -/
def gSub (to ti : TE) (t : TSet) : TG := fun v σ H Q => to σ H fun o H1 => ti σ H1 fun i H2 => t o i v H2 fun H3 => Q σ H3
theorem pg_sub {o i : Expr} {to ti : TE} {t : TSet} (ho : PE X o to) (hi : PE X i ti) (hs : PSet X t)
    (ha : ∀ v, assign (.Subscript o i pos) X.env v = (do
      let ov ← holding [v] (eval o X.env)
      let iv ← holding [v, ov] (eval i X.env)
      standAt pos
      holding [v, ov, iv] (setItem ov iv v)
      release [v, ov, iv] []) := by intro _; rfl) : PG X (.Subscript o i pos) (gSub to ti t) := by
  intro pins s σ H v u Q I r h
  rw [ha]
  refine wpAny_bind (wpAny_holding (thn (ho pins s σ H _ I h) fun ov s1 ⟨x, H1, I1, r1, q1⟩ => ?_))
  refine wpAny_bind (wpAny_holding (thn (hi pins s1 σ H1 _ I1 q1) fun iv s2 ⟨y, H2, I2, r2, q2⟩ => ?_))
  refine wpAny_bind (wpAny_standAt (wpAny_bind (wpAny_holding (thn (hs pins s2 σ H2 x y v ov iv u _ I2 r1 r2 r q2) fun _ s3 ⟨H3, I3, q3⟩ => ?_))))
  exact wpAny_release ⟨σ, H3, I3, q3⟩
/-- target = value -/
def tAsg (te : TE) (g : TG) : TS := fun D σ H => te σ H fun x H1 => g x σ H1 D.nx
theorem ps_asg {tg e : Expr} {te : TE} {g : TG} (he : PE X e te) (hg : PG X tg g) (hs : swapsWithSole [tg] e pos.line X.env = pure false := by rfl) (hw : swappedStores [tg] e X.env = pure none := by rfl)
    (h1 : (assignEach [tg] X.env).map (·.2) = [assign tg X.env] := by rfl) : PS X (.Assign [tg] e pos) (tAsg te g) := by
  intro pins s σ H D I h
  refine wpAny_Assign_stores (thn (he pins s σ H _ I h) fun v s1 ⟨x, H1, I1, r1, q1⟩ => ?_) hs hw
  rw [h1]
  exact thn (hg pins s1 σ H1 x v _ I1 r1 q1) fun _ s2 q => q
/-- name = value -/
theorem ps_set {i : Nat} {x : Str} {e : Expr} {te : TE} {pos' : Pos} (hN : X.N.Nodup) (hi : X.N[i]? = some x) (hx : Loc X.env.scope x) (he : PE X e te) (hs : swapsWith e (some (.Name x pos')) pos.line X.env = pure false := by rfl) (hf : X.fn x = true ∨ X.env.scope.names.lookup x = some .local := by first | exact .inl rfl | exact .inr rfl | assumption) :
    PS X (.Assign [.Name x pos'] e pos) (tAsg te (gName i)) := by
  intro pins s σ H D I h
  refine wpAny_Assign_Name (thn (he pins s σ H _ I h) fun v s1 ⟨y, H1, I1, r1, q1⟩ => ?_) hs
  exact store_ok I1 hN hi hx r1 (fun s2 I2 => ⟨_, H1, I2, q1⟩) hf
/-- name op= e -/
def tAug (i : Nat) (te : TE) (ti : TIp) : TS := fun D σ H => ∃ x, σ[i]? = some (some x) ∧ te σ H fun y H1 => ti x y H1 fun z H2 => D.nx (σ.set i (some z)) H2
theorem ps_aug {i : Nat} {x : Str} {e : Expr} {te : TE} {op : Operator} {ti : TIp} {pos' : Pos} (hN : X.N.Nodup) (hi : X.N[i]? = some x) (hx : Loc X.env.scope x) (he : PE X e te) (ho : PIp X op ti) (hf : X.fn x = true ∨ X.env.scope.names.lookup x = some .local := by first | exact .inl rfl | exact .inr rfl | assumption) :
    PS X (.AugAssign (.Name x pos') op e pos) (tAug i te ti) := by
  intro pins s σ H D I h
  obtain ⟨v, e1, h⟩ := h
  obtain ⟨m, hn, hl⟩ := I.loc
  have vis : Vis X.env.scope x := by rcases hx with k | k; exact .inl k; exact .inr (.inl k)
  obtain ⟨u, r, l⟩ := hl i x v hi e1 vis
  refine wpAny_AugAssign_Name ?_
  have go : wpAny (model X.prog X.w) X.A (eval e X.env) (fun w s₂ => wpAny (model X.prog X.w) X.A (inplaceOp op u w) (fun r s₃ => wpAny (model X.prog X.w) X.A (storeName X.env x r) (fun _ => SP X pins D .next) X.xe s₃) X.xe s₂) X.xe s := by
    refine thn (he pins s σ H _ I h) fun w s1 ⟨y, H1, I1, r1, q1⟩ => ?_
    refine thn (ho pins s1 σ H1 v y u w _ I1 r r1 q1) fun z s2 ⟨zv, H2, I2, r2, q2⟩ => ?_
    exact store_ok I2 hN hi hx r2 (fun s3 I3 => ⟨_, H2, I3, q2⟩) hf
  rcases l with ⟨hk, hm⟩ | ⟨hk, c, hc, hcell⟩
  · exact wpAny_loadName_local I.ok.kind hk hn hm go
  · rcases hk with hk | hk
    · exact wpAny_loadName_cell I.ok.kind hk hc hcell go
    · rcases hx with k | k
      · have : X.env.scope.names.lookup x = some .free := hk
        rw [k] at this; cases this
      · have : X.env.scope.names.lookup x = some .free := hk
        rw [k] at this; cases this
/-- ints -/
def ipI (f : Int → Int → Int) : TIp := fun x y H Q => ∃ i j, x = .int i ∧ y = .int j ∧ Q (.int (f i j)) H
theorem ip_add : PIp X .Add (ipI fun i j => i + j) := by
  intro pins s σ H x y v u Q I r1 r2 h
  obtain ⟨i, j, e1, e2, q⟩ := h
  subst e1; subst e2
  obtain ⟨t, rfl⟩ := r1
  obtain ⟨t', rfl⟩ := r2
  exact iadd_int ⟨.int _, H, I.tok _, ⟨_, rfl⟩, q⟩
end

/-! ### while -/
section
variable {X : Cx} {pos : Pos}
/-- the invariant W with its measure -/
def tWhile (c : TT) (tb : TS) : TS := fun D σ H => ∃ W : Nat → St → Hp → Prop, (∃ m, W m σ H) ∧ ∀ m σ H, W m σ H →
  c σ H fun b H1 => if b = true then ∃ N : St → Hp → Prop, (∀ σ' H', N σ' H' → ∃ m', m' < m ∧ W m' σ' H') ∧ tb { D with nx := N, ct := N, bk := D.nx } σ H1 else D.nx σ H1
theorem ps_while {c : Expr} {body : List Stmt} {tc : TT} {tb : TS} (hp : PassesOwn (model X.prog X.w) X.A X.env X.xe) (hc : PT X c tc) (hb : PSs X body tb) : PS X (.While c body [] pos) (tWhile tc tb) := by
  intro pins s σ H D I h
  obtain ⟨W, ⟨m0, w0⟩, turn⟩ := h
  refine wpAny_While (codeAny_whileLoop (fun n s' => ∃ σ' H', Inv X pins σ' H' s' ∧ W n σ' H') ?_ m0 ⟨σ, H, I, w0⟩)
  rintro n s1 ⟨σ1, H1, I1, w1⟩
  refine wpAny_passesOwn hp (thn (hc pins s1 σ1 H1 _ I1 (turn n σ1 H1 w1)) fun b s2 ⟨H2, I2, q2⟩ => ?_)
  cases b with
  | true =>
    obtain ⟨N, hN, q2⟩ := q2
    rw [if_pos rfl]
    refine wpAny_passesOwn hp (thn (hb pins s2 σ1 H2 _ I2 q2) fun f s3 q3 => ?_)
    cases f with
    | next =>
      obtain ⟨σ3, H3, I3, n3⟩ := q3
      obtain ⟨m', hm, w3⟩ := hN σ3 H3 n3
      exact ⟨m', hm, σ3, H3, I3, w3⟩
    | cont =>
      obtain ⟨σ3, H3, I3, n3⟩ := q3
      obtain ⟨m', hm, w3⟩ := hN σ3 H3 n3
      exact ⟨m', hm, σ3, H3, I3, w3⟩
    | brk => exact q3
    | ret v => exact q3
  | false =>
    rw [if_neg Bool.false_ne_true]
    exact wpAny_execs_nil ⟨σ1, H2, I2, q2⟩
end

/-! ### what a loop or a comprehension walks -/
/-- at turn i: it yields x (the heap may grow), or it stops -/
structure It where
  go : Nat → Hp → Prop
  yld : Nat → Hp → V → Hp → Prop
  stop : Nat → Hp → Prop
/-- the iterator's own objects may turn: they are not the frame's, not pinned, younger than the entry (or a comprehension's own) -/
def FpOk (X : Cx) (pins : List (Addr × Obj)) (H : Hp) (b : Addr) : Prop :=
  H b = none ∧ b ≠ X.env.locals ∧ b ∉ X.fs ∧ (b ∈ X.ex ∨ X.s₀.heap.objs.size ≤ b) ∧ (∀ x c, X.env.cells.lookup x = some c → c ≠ b) ∧ ∀ p ∈ X.pn ++ pins, p.1 ≠ b
theorem Inv.fpOk {X : Cx} {pins : List (Addr × Obj)} {σ : St} {H H' : Hp} {s : Shared} {b : Addr} (I : Inv X pins σ H s) (hb : s.heap.objs.size ≤ b) (hn : H' b = none) : FpOk X pins H' b := by
  refine ⟨hn, Nat.ne_of_gt (Nat.lt_of_lt_of_le I.lt hb), I.nofs hb, .inr (Nat.le_trans I.sz hb), fun x c e z => ?_, fun p hp z => ?_⟩
  · obtain ⟨v, q⟩ := I.cell x c e
    exact absurd (Nat.lt_of_lt_of_le q.lt (by rw [z]; exact hb)) (Nat.lt_irrefl _)
  · exact absurd (Nat.lt_of_lt_of_le (Heap.lt_size (I.pin p hp).1) (by rw [z]; exact hb)) (Nat.lt_irrefl _)
structure Turn (P : Program) (w : World) (K : PySem.W.Frag) (tg : Expr) (J : It) (fp : List Addr) (it : Addr) (tn : Nat → Heap → Prop) : Prop where
  mem : it ∈ fp
  obj : ∀ i h, tn i h → ∀ b ∈ fp, ∃ o, h.get? b = some o ∧ ∀ v, o.data ≠ .cell v
  keep : ∀ i h h', tn i h → (∀ b ∈ fp, ∀ o, h.get? b = some o → h'.get? b = some o) → tn i h'
  item : ∀ (X : Cx), X.prog = P → X.w = w → X.K = K → X.calm = true → ∀ (i : Nat) (pins : List (Addr × Obj)) (s : Shared) (σ : St) (H : Hp) (E : Value → Shared → Prop), Inv X pins σ H s → (∀ b ∈ fp, FpOk X pins H b) → tn i s.heap → J.go i H →
    wpAny (model P w) X.A (pyNext (.ref it)) (fun r s1 => ∃ u, r = some u ∧
      wpAny (model P w) X.A (letOwnedTupleGo tg (.ref it) u) (fun _ s2 => ∃ x H', Inv X pins σ H' s2 ∧ RelV x u ∧ J.yld i H x H' ∧ tn (i + 1) s2.heap ∧ ∀ b ∈ fp, H' b = none) E s1) E s
  done : ∀ (X : Cx), X.prog = P → X.w = w → X.K = K → X.calm = true → ∀ (i : Nat) (pins : List (Addr × Obj)) (s : Shared) (σ : St) (H : Hp) (E : Value → Shared → Prop), Inv X pins σ H s → (∀ b ∈ fp, FpOk X pins H b) → tn i s.heap → J.stop i H →
    wpAny (model P w) X.A (pyNext (.ref it)) (fun r s1 => r = none ∧ Inv X pins σ H s1) E s
  self : ∀ (A : Around) (i : Nat) (s : Shared) (Q : Value → Shared → Prop) (E : Value → Shared → Prop), tn i s.heap → Q (.ref it) s → wpAny (model P w) A (pyIter (.ref it)) Q E s
abbrev TI := St → Hp → (It → Hp → Prop) → Prop
/-- an iterator has come -/
def PIE (X : Cx) (pins : List (Addr × Obj)) (σ : St) (tg : Expr) (R : It → Hp → Prop) (itv : Value) (s2 : Shared) : Prop :=
  ∃ (it : Addr) (fp : List Addr) (tn : Nat → Heap → Prop) (J : It) (H' : Hp), itv = .ref it ∧ Inv X pins σ H' s2 ∧ Turn X.prog X.w X.K tg J fp it tn ∧ tn 0 s2.heap ∧ (∀ b ∈ fp, FpOk X pins H' b) ∧ R J H'
def PI (X : Cx) (tg iter : Expr) (wi : TI) : Prop :=
  ∀ (pins : List (Addr × Obj)) (s : Shared) (σ : St) (H : Hp) (R : It → Hp → Prop), Inv X pins σ H s → wi σ H R →
    wpAny (model X.prog X.w) X.A (eval iter X.env) (fun v s1 => wpAny (model X.prog X.w) X.A (pyIter v) (PIE X pins σ tg R) X.xe s1) X.xe s

/-- the step ahead of the store is nothing for an iterator that keeps no tuple -/
theorem go_of {M : Model} {A : Around} {E : Value → Shared → Prop} {s : Shared} {tg : Expr} {it : Addr} {u : Value} {o : Obj} {n : String} {vs : Array Value} {Q : Unit → Shared → Prop} (ho : s.heap.get? it = some o) (hc : o.cls = .type n) (hd : o.data = .fields vs)
    (hn : ["enumerate", "zip", "dict_itemiterator", "dict_reverseitemiterator", "odict_iterator", "itertools.zip_longest", "itertools.pairwise"].contains n = false) (hQ : Q () s) : wpAny M A (letOwnedTupleGo tg (.ref it) u) Q E s := by
  unfold letOwnedTupleGo
  cases tg <;> first
    | exact wpAny_pure hQ
    | (cases u <;> first
        | exact wpAny_pure hQ
        | (refine wpAny_bind (wpAny_load ho ?_)
           rw [hc, hd]
           show wpAny M A (if (["enumerate", "zip", "dict_itemiterator", "dict_reverseitemiterator", "odict_iterator", "itertools.zip_longest", "itertools.pairwise"].contains n && vs[0]? == some (rawInt _)) = true then _ else _) Q E s
           rw [if_neg (by intro h; rw [hn, Bool.false_and] at h; cases h)]
           exact wpAny_pure hQ))

/-- the list at a, as it stands at each turn (a loop may append to it) -/
def Itl (K : PySem.W.Frag) (a : Addr) : It :=
  ⟨fun i H => ∃ xs x, SqL K H a xs ∧ xs[i]? = some x, fun i H x H' => H' = H ∧ ∀ xs, SqL K H a xs → xs[i]? = some x, fun i H => ∃ xs, SqL K H a xs ∧ xs.length ≤ i⟩
def Itt (K : PySem.W.Frag) (a : Addr) : It :=
  ⟨fun i H => ∃ xs x, SqT K H a xs ∧ xs[i]? = some x, fun i H x H' => H' = H ∧ ∀ xs, SqT K H a xs → xs[i]? = some x, fun i H => ∃ xs, SqT K H a xs ∧ xs.length ≤ i⟩
/-- lo, lo + 1, .. (n of them) -/
def Itr (lo : Int) (n : Nat) : It := ⟨fun i _ => i < n, fun i H x H' => H' = H ∧ x = .int (lo + i), fun i _ => n ≤ i⟩
theorem turn_list {P : Program} {w : World} {K : PySem.W.Frag} {tg : Expr} (a it : Addr) : Turn P w K tg (Itl K a) [it] it (fun i h => h.IsListIter it a i) where
  mem := by simp
  obj := fun i h st b hb => by
    have e : b = it := by simpa using hb
    subst e
    obtain ⟨o, e, c, d⟩ := st
    exact ⟨o, e, fun v z => by rw [d] at z; cases z⟩
  keep := fun i h h' st k => st.at fun o e => k it (by simp) o e
  item := by
    intro X hP hw hK hc i pins s σ H E I hf st hg
    subst hP hw hK
    obtain ⟨xs, x, hq, hx⟩ := hg
    obtain ⟨its, rv, p, hz⟩ := I.list hq
    obtain ⟨u, hu, ru⟩ := rv.get hx
    obtain ⟨f0, f1, f2, f3, f4, f5⟩ := hf it (by simp)
    refine wpAny_pyNext_list_item st p.isList (x := u) (by simpa using hu) fun h' st' sb => ?_
    have I1 : Inv X pins σ H { s with heap := h' } := I.turned (t' := s.toks) (fun b o hb e => (sb.2 b hb).trans e) f0 f1 f3 f4 f5
    obtain ⟨o, e, c, d⟩ := id st'
    exact ⟨u, rfl, go_of (s := { s with heap := h' }) e c d (by decide) ⟨x, H, I1, ru, ⟨rfl, fun ys hy => by rw [I.list_inj hy hq]; exact hx⟩, st', fun b hb => (hf b hb).1⟩⟩
  done := by
    intro X hP hw hK hc i pins s σ H E I hf st hg
    subst hP hw hK
    obtain ⟨xs, hq, hx⟩ := hg
    obtain ⟨its, rv, p, hz⟩ := I.list hq
    obtain ⟨f0, f1, f2, f3, f4, f5⟩ := hf it (by simp)
    have hl := rv.length
    exact wpAny_pyNext_list_end (I.ok.hd hc) st p.isList (by simp; omega) fun h' eb => ⟨rfl, I.turned (t' := s.toks) (fun b o hb e => eb b o hb e) f0 f1 f3 f4 f5⟩
  self := fun _ _ _ _ _ st h => wpAny_pyIter_listiter st h
theorem turn_tuple {P : Program} {w : World} {K : PySem.W.Frag} {tg : Expr} (a it : Addr) : Turn P w K tg (Itt K a) [it] it (fun i h => h.IsTupleIter it a i) where
  mem := by simp
  obj := fun i h st b hb => by
    have e : b = it := by simpa using hb
    subst e
    obtain ⟨o, e, c, d⟩ := st
    exact ⟨o, e, fun v z => by rw [d] at z; cases z⟩
  keep := fun i h h' st k => st.at fun o e => k it (by simp) o e
  item := by
    intro X hP hw hK hc i pins s σ H E I hf st hg
    subst hP hw hK
    obtain ⟨xs, x, hq, hx⟩ := hg
    obtain ⟨its, rv, p, hz⟩ := I.tuple hq
    obtain ⟨u, hu, ru⟩ := rv.get hx
    obtain ⟨f0, f1, f2, f3, f4, f5⟩ := hf it (by simp)
    refine wpAny_pyNext_tuple_item st (show s.heap.IsTuple a its.toArray from p) (x := u) (by simpa using hu) fun h' st' sb => ?_
    have I1 : Inv X pins σ H { s with heap := h' } := I.turned (t' := s.toks) (fun b o hb e => (sb.2 b hb).trans e) f0 f1 f3 f4 f5
    obtain ⟨o, e, c, d⟩ := id st'
    exact ⟨u, rfl, go_of (s := { s with heap := h' }) e c d (by decide) ⟨x, H, I1, ru, ⟨rfl, fun ys hy => by rw [I.tuple_inj hy hq]; exact hx⟩, st', fun b hb => (hf b hb).1⟩⟩
  done := by
    intro X hP hw hK hc i pins s σ H E I hf st hg
    subst hP hw hK
    obtain ⟨xs, hq, hx⟩ := hg
    obtain ⟨its, rv, p, hz⟩ := I.tuple hq
    obtain ⟨f0, f1, f2, f3, f4, f5⟩ := hf it (by simp)
    have hl := rv.length
    exact wpAny_pyNext_tuple_end (I.ok.hd hc) st (show s.heap.IsTuple a its.toArray from p) (by simp; omega) fun h' eb => ⟨rfl, I.turned (t' := s.toks) (fun b o hb e => eb b o hb e) f0 f1 f3 f4 f5⟩
  self := fun _ _ _ _ _ st h => wpAny_pyIter_tupleiter st h
theorem turn_range {P : Program} {w : World} {K : PySem.W.Frag} {tg : Expr} (it : Addr) (lo : Int) (n : Nat) : Turn P w K tg (Itr lo n) [it] it (fun i h => IsRangeIter h it (lo + (i : Nat) * 1) ((n : Int) - (i : Nat)) 1) where
  mem := by simp
  obj := fun i h st b hb => by
    have e : b = it := by simpa using hb
    subst e
    exact ⟨_, st, fun v z => by
      have z' : Data.fields _ = Data.cell v := z
      cases z'⟩
  keep := fun i h h' st k => k it (by simp) _ st
  item := by
    intro X hP hw hK hc i pins s σ H E I hf st hg
    subst hP hw hK
    obtain ⟨f0, f1, f2, f3, f4, f5⟩ := hf it (by simp)
    have W := Walks.range (prog := X.prog) (w := X.w) (I.ok.hd hc) it lo 1 n
    refine W.item i s _ _ hg st fun v h' tk hv st' kk => ?_
    obtain ⟨t, rfl⟩ := hv
    have I1 : Inv X pins σ H { s with heap := h', toks := tk } := I.turned (fun b o hb e => kk b o (by simpa using hb) e) f0 f1 f3 f4 f5
    refine ⟨_, rfl, go_of (s := { s with heap := h', toks := tk }) (n := "range_iterator") st' rfl rfl (by decide) ⟨.int (lo + i), H, I1, ⟨t, ?_⟩, ⟨rfl, rfl⟩, st', fun b hb => (hf b hb).1⟩⟩
    rw [Int.mul_one]
  done := by
    intro X hP hw hK hc i pins s σ H E I hf st hg
    subst hP hw hK
    obtain ⟨f0, f1, f2, f3, f4, f5⟩ := hf it (by simp)
    exact wpAny_pyNext_range_end (I.ok.hd hc) st (by have : n ≤ i := hg; omega) fun h' eb => ⟨rfl, I.turned (t' := s.toks) (fun b o hb e => eb b o hb e) f0 f1 f3 f4 f5⟩
  self := fun _ _ _ _ _ st h => wpAny_pyIter_rangeiter st h
end L2

namespace L2
open PySem PySem.Spec PyProof.Rows
section
variable {X : Cx} {tg : Expr}
def iList (K : PySem.W.Frag) (tl : TE) : TI := fun σ H R => tl σ H fun x H1 => ∃ a, x = .ref a ∧ (∃ xs, SqL K H1 a xs) ∧ R (Itl K a) H1
def iTup (K : PySem.W.Frag) (tl : TE) : TI := fun σ H R => tl σ H fun x H1 => ∃ a, x = .ref a ∧ (∃ xs, SqT K H1 a xs) ∧ R (Itt K a) H1
theorem pi_list {l : Expr} {tl : TE} (hl : PE X l tl) : PI X tg l (iList X.K tl) := by
  intro pins s σ H R I h
  refine thn (hl pins s σ H _ I h) fun v s1 ⟨x, H1, I1, r1, q1⟩ => ?_
  obtain ⟨a, e, ⟨xs, hq⟩, q⟩ := q1
  subst e
  cases r1
  obtain ⟨its, rv, p, hz⟩ := I1.list hq
  refine wpAny_pyIter_list p.isList ?_
  refine ⟨s1.heap.objs.size, [s1.heap.objs.size], _, _, H1, rfl, I1.kept (t' := s1.toks) fun b o e => Heap.get?_push_of_some _ e, turn_list a _, ⟨_, Heap.get?_push_size _ rfl, rfl, rfl⟩, fun b hb => ?_, q⟩
  have e : b = s1.heap.objs.size := by simpa using hb
  subst e
  exact I1.fpOk (Nat.le_refl _) (I1.hok.fresh (Nat.le_refl _))
theorem pi_tup {l : Expr} {tl : TE} (hl : PE X l tl) : PI X tg l (iTup X.K tl) := by
  intro pins s σ H R I h
  refine thn (hl pins s σ H _ I h) fun v s1 ⟨x, H1, I1, r1, q1⟩ => ?_
  obtain ⟨a, e, ⟨xs, hq⟩, q⟩ := q1
  subst e
  cases r1
  obtain ⟨its, rv, p, hz⟩ := I1.tuple hq
  refine wpAny_pyIter_tuple (show s1.heap.IsTuple a its.toArray from p) ?_
  refine ⟨s1.heap.objs.size, [s1.heap.objs.size], _, _, H1, rfl, I1.kept (t' := s1.toks) fun b o e => Heap.get?_push_of_some _ e, turn_tuple a _, ⟨_, Heap.get?_push_size _ rfl, rfl, rfl⟩, fun b hb => ?_, q⟩
  have e : b = s1.heap.objs.size := by simpa using hb
  subst e
  exact I1.fpOk (Nat.le_refl _) (I1.hok.fresh (Nat.le_refl _))
/-- a range object just made, walked -/
theorem range_it {pins : List (Addr × Obj)} {σ : St} {H : Hp} {s : Shared} {R : It → Hp → Prop} {E : Value → Shared → Prop} {lo hi : Int} {t u v : Tok} {tk : Nat} (I : Inv X pins σ H s) (h1 : -(2 ^ 62) ≤ lo) (h2 : lo < 2 ^ 62) (h3 : -(2 ^ 62) ≤ hi) (h4 : hi < 2 ^ 62)
    (q : R (Itr lo (hi - lo).toNat) H) : wpAny (model X.prog X.w) X.A (pyIter (.ref s.heap.objs.size)) (PIE X pins σ tg R) E { s with heap := s.heap.push { cls := .type "range", data := .fields #[.int lo t, .int hi u, .int 1 v] }, toks := tk } := by
  refine wpAny_pyIter_range (IsRange.new ..) (small_one h1 h2 h3 h4) ?_
  have I1 : Inv X pins σ H { s with heap := s.heap.push { cls := .type "range", data := .fields #[.int lo t, .int hi u, .int 1 v] }, toks := tk } := I.kept fun b o e => Heap.get?_push_of_some _ e
  refine ⟨(s.heap.push { cls := .type "range", data := .fields #[.int lo t, .int hi u, .int 1 v] }).objs.size, [(s.heap.push { cls := .type "range", data := .fields #[.int lo t, .int hi u, .int 1 v] }).objs.size], _, _, H, rfl,
    I1.kept (t' := tk) fun b o e => Heap.get?_push_of_some _ e, turn_range _ lo (hi - lo).toNat, ?_, fun b hb => ?_, q⟩
  · have e1 : lo + ((0 : Nat) : Int) * 1 = lo := by simp
    have e2 : (((hi - lo).toNat : Nat) : Int) - ((0 : Nat) : Int) = Builtin.Range.rangeSize lo hi 1 := by rw [rangeSize_one]; split <;> omega
    show IsRangeIter _ _ (lo + ((0 : Nat) : Int) * 1) ((((hi - lo).toNat : Nat) : Int) - ((0 : Nat) : Int)) 1
    rw [e1, e2]
    exact Heap.get?_push_size _ rfl
  · have e : b = (s.heap.push { cls := .type "range", data := .fields #[.int lo t, .int hi u, .int 1 v] }).objs.size := by simpa using hb
    subst e
    exact I1.fpOk (Nat.le_refl _) (I1.hok.fresh (Nat.le_refl _))
def iRng1 (ta : TA) : TI := fun σ H R => ta σ H fun vs H1 => ∃ j : Int, vs = [.int j] ∧ -(2 ^ 62) ≤ j ∧ j < 2 ^ 62 ∧ R (Itr 0 j.toNat) H1
theorem pi_range1 {a : Expr} {ta : TA} {p pos : Pos} (hg : Gl X "range") (hm : X.mg "range" = none) (ha : PA X [a] ta) (hs : starEach [a] X.env = [(false, eval a X.env)] := by rfl) : PI X tg (.Call (.Name "range" p) [a] [] pos) (iRng1 ta) := by
  intro pins s σ H R I h
  refine Call_ (ld_blt I hg hm boot_range (PyProof.Rows.callWith_type1 (thn (ha pos pins s σ H _ I h) fun us s1 ⟨vs, H1, I1, r1, q1⟩ => ?_) hs rfl))
  obtain ⟨j, e, q1, q2, q⟩ := q1
  subst e
  cases r1 with
  | cons r rr =>
    cases rr
    obtain ⟨t, rfl⟩ := r
    exact call_range_1 (range_it I1 (by omega) (by omega) q1 q2 (by simpa using q))
/-! ### for -/
/-- W: the invariant by the turn and a measure; N: what the body is to reach -/
def tFor (wi : TI) (g : TG) (tb : TS) : TS := fun D σ H => wi σ H fun J H1 => ∃ W : Nat → Nat → St → Hp → Prop, (∃ m, W 0 m σ H1) ∧ ∀ i m σ H, W i m σ H →
  (J.stop i H ∧ D.nx σ H) ∨ (J.go i H ∧ ∃ N : St → Hp → Prop, (∀ σ' H', N σ' H' → ∃ m', m' < m ∧ W (i + 1) m' σ' H') ∧ ∀ x H', J.yld i H x H' → g x σ H' fun σ2 H2 => tb { D with nx := N, ct := N, bk := D.nx } σ2 H2)
/-- the records at fp as they stand -/
def pinsAt (fp : List Addr) (h : Heap) : List (Addr × Obj) := fp.filterMap fun b => (h.get? b).map fun o => (b, o)
theorem mem_pinsAt {fp : List Addr} {h : Heap} {b : Addr} {o : Obj} (hb : b ∈ fp) (e : h.get? b = some o) : (b, o) ∈ pinsAt fp h := List.mem_filterMap.mpr ⟨b, hb, by rw [e]; rfl⟩
theorem of_pinsAt {fp : List Addr} {h : Heap} {p : Addr × Obj} (hp : p ∈ pinsAt fp h) : p.1 ∈ fp ∧ h.get? p.1 = some p.2 := by
  obtain ⟨b, hb, e⟩ := List.mem_filterMap.mp hp
  cases q : h.get? b with
  | none => rw [q] at e; cases e
  | some o =>
    rw [q] at e
    have e' : (b, o) = p := Option.some.inj e
    subst e'
    exact ⟨hb, q⟩
theorem Inv.pinned {pins : List (Addr × Obj)} {σ : St} {H : Hp} {s : Shared} {fp : List Addr} (I : Inv X pins σ H s) (hf : ∀ b ∈ fp, FpOk X pins H b) (ho : ∀ b ∈ fp, ∃ o, s.heap.get? b = some o ∧ ∀ v, o.data ≠ .cell v) : Inv X (pins ++ pinsAt fp s.heap) σ H s :=
  I.pins_of fun p hp => (List.mem_append.mp hp).elim (fun z => I.pin p (List.mem_append_right _ z)) fun z => by
    obtain ⟨hb, e⟩ := of_pinsAt z
    obtain ⟨f0, f1, f2, _⟩ := hf p.1 hb
    obtain ⟨o, e', d⟩ := ho p.1 hb
    rw [e] at e'; cases e'
    exact ⟨e, f0, f1, f2, d⟩
theorem Inv.unpinned {pins pl : List (Addr × Obj)} {σ : St} {H : Hp} {s : Shared} (I : Inv X (pins ++ pl) σ H s) : Inv X pins σ H s := I.pins_of fun p hp => I.pin p (List.mem_append_right _ (List.mem_append_left _ hp))
theorem ps_for {iter : Expr} {body : List Stmt} {wi : TI} {g : TG} {tb : TS} {pos : Pos} (hp : PassesOwn (model X.prog X.w) X.A X.env X.xe) (hc : X.calm = true) (hi : PI X tg iter wi) (hg : PG X tg g) (hb : PSs X body tb)
    (hs : ∀ x, foldedSetIterable iter X.env x = pure x := by intro _; rfl) : PS X (.For tg iter body [] pos) (tFor wi g tb) := by
  intro pins s σ H D I h
  refine wpAny_For (thn (hi pins s σ H _ I h) fun v s1 h1 => thn h1 fun itv s2 h2 => ?_) hs
  obtain ⟨it, fp, tn, J, H2, e, I2, T, st2, f2, W, ⟨m0, w0⟩, turn⟩ := h2
  subst e
  -- what stays true of the iterator's objects through the loop
  have stat : ∀ {H' : Hp}, (∀ b ∈ fp, H' b = none) → ∀ b ∈ fp, FpOk X pins H' b := fun hn b hb => ⟨hn b hb, (f2 b hb).2⟩
  refine codeAny_forLoop_any (fun n s' => ∃ i σ' H', Inv X pins σ' H' s' ∧ tn i s'.heap ∧ (∀ b ∈ fp, H' b = none) ∧ W i n σ' H') ?_ m0 ⟨0, σ, H2, I2, st2, fun b hb => (f2 b hb).1, w0⟩
  rintro n s3 ⟨i, σ3, H3, I3, st3, fr3, w3⟩
  rcases turn i n σ3 H3 w3 with ⟨stop, qn⟩ | ⟨go, N, hN, step⟩
  · refine wpAny_passesOwn hp (thn (T.done X rfl rfl rfl hc i pins s3 σ3 H3 X.xe I3 (stat fr3) st3 stop) fun r s4 ⟨hr, I4⟩ => ?_)
    subst hr
    exact wpAny_execs_nil ⟨σ3, H3, I4, qn⟩
  · refine wpAny_passesOwn hp (thn (T.item X rfl rfl rfl hc i pins s3 σ3 H3 X.xe I3 (stat fr3) st3 go) fun r s4 ⟨u, hr, h4⟩ => ?_)
    subst hr
    refine wpAny_passesOwn hp (thn h4 fun _ s5 ⟨x, H5, I5, r5, y5, st5, fr5⟩ => ?_)
    have I5' := I5.pinned (stat fr5) (T.obj _ _ st5)
    refine wpAny_passesOwn hp (thn (hg _ s5 σ3 H5 x u _ I5' r5 (step x H5 y5)) fun _ s6 ⟨σ6, H6, I6, q6⟩ => ?_)
    refine wpAny_passesOwn hp (thn (hb _ s6 σ6 H6 _ I6 q6) fun f s7 q7 => ?_)
    have again : ∀ {σ7 : St} {H7 : Hp}, Inv X (pins ++ pinsAt fp s5.heap) σ7 H7 s7 → N σ7 H7 → ∃ m, m < n ∧ ∃ i σ' H', Inv X pins σ' H' s7 ∧ tn i s7.heap ∧ (∀ b ∈ fp, H' b = none) ∧ W i m σ' H' := fun {σ7 H7} I7 n7 => by
      obtain ⟨m', hm, w7⟩ := hN σ7 H7 n7
      refine ⟨m', hm, i + 1, σ7, H7, I7.unpinned, T.keep _ _ _ st5 fun b hb o e => (I7.pin (b, o) (List.mem_append_right _ (List.mem_append_right _ (mem_pinsAt hb e)))).1, fun b hb => ?_, w7⟩
      obtain ⟨o, e, d⟩ := T.obj _ _ st5 b hb
      exact (I7.pin (b, o) (List.mem_append_right _ (List.mem_append_right _ (mem_pinsAt hb e)))).2.1
    cases f with
    | next => obtain ⟨σ7, H7, I7, n7⟩ := q7; exact again I7 n7
    | cont => obtain ⟨σ7, H7, I7, n7⟩ := q7; exact again I7 n7
    | brk => obtain ⟨σ7, H7, I7, q7⟩ := q7; exact ⟨σ7, H7, I7.unpinned, q7⟩
    | ret v => obtain ⟨x7, σ7, H7, I7, r7, q7⟩ := q7; exact ⟨x7, σ7, H7, I7.unpinned, r7, q7⟩
end

/-! ### the forms one uses -/
theorem for_range {lo : Int} {n : Nat} {g : TG} {tb : TS} {D : Ends} {σ : St} {H : Hp} (Pv : Nat → St → Hp → Prop) (h0 : Pv 0 σ H)
    (hs : ∀ i σ H, i < n → Pv i σ H → g (.int (lo + i)) σ H fun σ2 H2 => tb { D with nx := Pv (i + 1), ct := Pv (i + 1), bk := D.nx } σ2 H2) (hd : ∀ σ H, Pv n σ H → D.nx σ H) :
    ∃ W : Nat → Nat → St → Hp → Prop, (∃ m, W 0 m σ H) ∧ ∀ i m σ H, W i m σ H →
      ((Itr lo n).stop i H ∧ D.nx σ H) ∨ ((Itr lo n).go i H ∧ ∃ N : St → Hp → Prop, (∀ σ' H', N σ' H' → ∃ m', m' < m ∧ W (i + 1) m' σ' H') ∧ ∀ x H', (Itr lo n).yld i H x H' → g x σ H' fun σ2 H2 => tb { D with nx := N, ct := N, bk := D.nx } σ2 H2) := by
  refine ⟨fun i m σ H => m = n - i ∧ i ≤ n ∧ Pv i σ H, ⟨n, by simp, Nat.zero_le _, h0⟩, ?_⟩
  rintro i m σ H ⟨rfl, hi, p⟩
  by_cases hlt : i < n
  · refine .inr ⟨hlt, Pv (i + 1), fun σ' H' p' => ⟨n - (i + 1), by omega, rfl, hlt, p'⟩, fun x H' y => ?_⟩
    obtain ⟨e, y⟩ := y
    subst e y
    exact hs i σ _ hlt p
  · have e : i = n := by omega
    subst e
    exact .inl ⟨Nat.le_refl _, hd σ H p⟩
end L2

namespace L2
open PySem PySem.Spec PyProof.Rows

abbrev R2 := V → V → Hp → VK → Prop
/-- a two-place operation on values: f is binaryOp op, inplaceOp op or compareOp op -/
def OpR (X : Cx) (f : Value → Value → Sem Value) (r : R2) : Prop :=
  ∀ (pins : List (Addr × Obj)) (s : Shared) (σ : St) (H : Hp) (x y : V) (v u : Value) (Q : VK), Inv X pins σ H s → RelV x v → RelV y u → r x y H Q →
    wpAny (model X.prog X.w) X.A (f v u) (EP X pins σ Q) X.xe s
/-- a one-place operation -/
def UnR (X : Cx) (f : Value → Sem Value) (r : V → Hp → VK → Prop) : Prop :=
  ∀ (pins : List (Addr × Obj)) (s : Shared) (σ : St) (H : Hp) (x : V) (v : Value) (Q : VK), Inv X pins σ H s → RelV x v → r x H Q →
    wpAny (model X.prog X.w) X.A (f v) (EP X pins σ Q) X.xe s
/-- a call of a value that is known (a builtin, a type) with values -/
def CallR (X : Cx) (f : Value) (r : List V → Hp → VK → Prop) : Prop :=
  ∀ (pins : List (Addr × Obj)) (s : Shared) (σ : St) (H : Hp) (xs : List V) (us : List Value) (Q : VK), Inv X pins σ H s → Vals xs us → r xs H Q →
    wpAny (model X.prog X.w) X.A (call f us) (EP X pins σ Q) X.xe s
def tOp (r : R2) (ta tb : TE) : TE := fun σ H Q => ta σ H fun x H1 => tb σ H1 fun y H2 => r x y H2 Q
def tUn (r : V → Hp → VK → Prop) (ta : TE) : TE := fun σ H Q => ta σ H fun x H1 => r x H1 Q
/-- ints in, under C, and a value out -/
def rI (C : Int → Int → Prop) (g : Int → Int → V) : R2 := fun x y H Q => ∃ i j, x = .int i ∧ y = .int j ∧ C i j ∧ Q (g i j) H
def rI0 (g : Int → Int → V) : R2 := fun x y H Q => ∃ i j, x = .int i ∧ y = .int j ∧ Q (g i j) H
def rU (g : Int → V) : V → Hp → VK → Prop := fun x H Q => ∃ i, x = .int i ∧ Q (g i) H

section
variable {X : Cx} {a b c : Expr} {ta tb tc : TE} {pos : Pos}

theorem binT (ha : PE X a ta) (hb : PE X b tb) {pins : List (Addr × Obj)} {s : Shared} {σ : St} {H : Hp} {R : V → V → Hp → Prop} (I : Inv X pins σ H s)
    (h : ta σ H fun x H1 => tb σ H1 fun y H2 => R x y H2) {Q : Value → Shared → Prop} {f : Value → Value → Sem Value}
    (hf : ∀ v u s2 x y H2, Inv X pins σ H2 s2 → RelV x v → RelV y u → R x y H2 → wpAny (model X.prog X.w) X.A (f v u) Q X.xe s2) :
    wpAny (model X.prog X.w) X.A (eval a X.env) (fun v s₁ => wpAny (model X.prog X.w) X.A (eval b X.env) (fun u s₂ => wpAny (model X.prog X.w) X.A (f v u) Q X.xe s₂) X.xe s₁) X.xe s := by
  refine thn (ha pins s σ H _ I h) fun v s1 ⟨x, H1, I1, r1, q1⟩ => ?_
  refine thn (hb pins s1 σ H1 _ I1 q1) fun u s2 ⟨y, H2, I2, r2, q2⟩ => ?_
  exact hf v u s2 x y H2 I2 r1 r2 q2

theorem pe_op {op : Operator} {r : R2} (ho : OpR X (binaryOp op) r) (ha : PE X a ta) (hb : PE X b tb) : PE X (.BinOp a op b pos) (tOp r ta tb) := by
  intro pins s σ H Q I h
  exact wpAny_BinOp (binT ha hb I h fun v u s2 x y H2 I2 rx ry q => ho pins s2 σ H2 x y v u Q I2 rx ry q)
theorem pe_un {op : UnaryOp} {r : V → Hp → VK → Prop} (ho : UnR X (unaryOp op) r) (ha : PE X a ta) : PE X (.UnaryOp op a pos) (tUn r ta) := by
  intro pins s σ H Q I h
  exact UnaryOp_ (thn (ha pins s σ H _ I h) fun v s1 ⟨x, H1, I1, r1, q1⟩ => ho pins s1 σ H1 x v Q I1 r1 q1)
/-! ### ints -/
theorem opI {f : Value → Value → Sem Value} {C : Int → Int → Prop} {g : Int → Int → Int}
    (rule : ∀ (i j : Int) (t u : Tok) (s : Shared) (Q : Value → Shared → Prop) (E : Value → Shared → Prop), C i j → Q (.int (g i j) s.toks) { s with toks := s.toks + 1 } → wpAny (model X.prog X.w) X.A (f (.int i t) (.int j u)) Q E s) :
    OpR X f (rI C fun i j => .int (g i j)) := by
  intro pins s σ H x y v u Q I rx ry h
  obtain ⟨i, j, rfl, rfl, hc, q⟩ := h
  obtain ⟨t, rfl⟩ := rx
  obtain ⟨t', rfl⟩ := ry
  exact rule i j t t' s _ _ hc ⟨.int (g i j), H, I.tok _, ⟨_, rfl⟩, q⟩
theorem opI0 {f : Value → Value → Sem Value} {g : Int → Int → Int}
    (rule : ∀ (i j : Int) (t u : Tok) (s : Shared) (Q : Value → Shared → Prop) (E : Value → Shared → Prop), Q (.int (g i j) s.toks) { s with toks := s.toks + 1 } → wpAny (model X.prog X.w) X.A (f (.int i t) (.int j u)) Q E s) :
    OpR X f (rI0 fun i j => .int (g i j)) := by
  intro pins s σ H x y v u Q I rx ry h
  obtain ⟨i, j, rfl, rfl, q⟩ := h
  obtain ⟨t, rfl⟩ := rx
  obtain ⟨t', rfl⟩ := ry
  exact rule i j t t' s _ _ ⟨.int (g i j), H, I.tok _, ⟨_, rfl⟩, q⟩
theorem opB0 {f : Value → Value → Sem Value} {g : Int → Int → Bool}
    (rule : ∀ (i j : Int) (t u : Tok) (s : Shared) (Q : Value → Shared → Prop) (E : Value → Shared → Prop), Q (.bool (g i j)) s → wpAny (model X.prog X.w) X.A (f (.int i t) (.int j u)) Q E s) :
    OpR X f (rI0 fun i j => .bl (g i j)) := by
  intro pins s σ H x y v u Q I rx ry h
  obtain ⟨i, j, rfl, rfl, q⟩ := h
  obtain ⟨t, rfl⟩ := rx
  obtain ⟨t', rfl⟩ := ry
  exact rule i j t t' s _ _ ⟨.bl (g i j), H, I, rfl, q⟩

def CPow (i j : Int) : Prop := 0 ≤ j ∧ j ≤ 1000000 ∧ i.natAbs < 2 ^ 64
def CMul (i j : Int) : Prop := (-(2 ^ 64) < i ∧ i < 2 ^ 64) ∨ (-(2 ^ 64) < j ∧ j < 2 ^ 64)
theorem CMul.ok {i j : Int} (h : CMul i j) : IntMulOk i j := by
  rcases h with ⟨h1, h2⟩ | ⟨h1, h2⟩
  · exact .of_left (intBits_le_64 h1 h2)
  · exact .of_right (intBits_le_64 h1 h2)
theorem op_add : OpR X (binaryOp .Add) (rI0 fun i j => .int (i + j)) := opI0 fun _ _ _ _ _ _ _ q => add_int q
theorem op_sub : OpR X (binaryOp .Sub) (rI0 fun i j => .int (i - j)) := opI0 fun _ _ _ _ _ _ _ q => sub_int q
theorem op_modN : OpR X (binaryOp .Mod) (rI (fun _ j => j ≠ 0) fun i j => .int (i.fmod j)) := opI fun _ _ _ _ _ _ _ hc q => mod_int' hc q
theorem op_pow : OpR X (binaryOp .Pow) (rI CPow fun i j => .int (i ^ j.toNat)) := opI fun _ _ _ _ _ _ _ hc q => pow_int_small hc.1 hc.2.1 hc.2.2 q
theorem unI {f : Value → Sem Value} {g : Int → Int}
    (rule : ∀ (i : Int) (t : Tok) (s : Shared) (Q : Value → Shared → Prop) (E : Value → Shared → Prop), Q (.int (g i) s.toks) { s with toks := s.toks + 1 } → wpAny (model X.prog X.w) X.A (f (.int i t)) Q E s) :
    UnR X f (rU fun i => .int (g i)) := by
  intro pins s σ H x v Q I rx h
  obtain ⟨i, rfl, q⟩ := h
  obtain ⟨t, rfl⟩ := rx
  exact rule i t s _ _ ⟨.int (g i), H, I.tok _, ⟨_, rfl⟩, q⟩
theorem un_neg : UnR X (unaryOp .USub) (rU fun i => .int (-i)) := unI fun _ _ _ _ _ q => neg_int q
/-! ### bools among ints: n += (a < b) -/
end

/-! ### comparisons -/
/-- the scalars that == tells apart as data does -/
def scal : V → V → Bool
  | .non, .non => true | .non, .int _ => true | .int _, .non => true | .non, .bl _ => true | .bl _, .non => true | .non, .str _ => true | .str _, .non => true
  | .int _, .int _ => true | .bl _, .bl _ => true | .str _, .str _ => true | .byt _, .byt _ => true
  | .int _, .str _ => true | .str _, .int _ => true | .bl _, .str _ => true | .str _, .bl _ => true
  | _, _ => false
def rEq : R2 := fun x y H Q => scal x y = true ∧ Q (.bl (decide (x = y))) H
def rNe : R2 := fun x y H Q => scal x y = true ∧ Q (.bl (!decide (x = y))) H

theorem dec_int {i j : Int} : decide (V.int i = V.int j) = (i == j) := by
  rw [Bool.eq_iff_iff]
  simp
theorem dec_bl {i j : Bool} : decide (V.bl i = V.bl j) = (i == j) := by
  rw [Bool.eq_iff_iff]
  simp
theorem dec_str {i j : Str} : decide (V.str i = V.str j) = (i == j) := by
  rw [Bool.eq_iff_iff]
  simp
theorem dec_byt {i j : Array UInt8} : decide (V.byt i = V.byt j) = (i.toList == j.toList) := by
  rw [Bool.eq_iff_iff]
  cases i
  cases j
  simp

section
variable {X : Cx} {a b c : Expr} {ta tb tc : TE} {pos : Pos}
theorem fin_bl {pins : List (Addr × Obj)} {σ : St} {H : Hp} {s : Shared} {Q : VK} {k k' : Bool} (I : Inv X pins σ H s) (q : Q (.bl k) H) (e : k = k') : EP X pins σ Q (.bool k') s := by
  subst e
  exact ⟨.bl k, H, I, rfl, q⟩
theorem op_eq : OpR X (compareOp .Eq) rEq := by
  intro pins s σ H x y v u Q I rx ry h
  obtain ⟨hs, q⟩ := h
  cases x with
  | non =>
    cases rx
    cases y with
    | non => cases ry; exact PySem.EqNone.eq_none_none (fin_bl I q (by simp))
    | bl j => cases ry; exact PySem.EqNone.eq_none_bool (fin_bl I q (by simp))
    | int j => obtain ⟨t', rfl⟩ := ry; exact PySem.EqNone.eq_none_int (fin_bl I q (by simp))
    | str j => obtain ⟨t', rfl⟩ := ry; exact PySem.EqNone.eq_none_str (fin_bl I q (by simp))
    | _ => exact absurd (show false = true from hs) Bool.false_ne_true
  | bl i =>
    cases rx
    cases y with
    | non => cases ry; exact PySem.EqNone.eq_bool_none (fin_bl I q (by simp))
    | bl j => cases ry; exact eq_bool (fin_bl I q dec_bl)
    | str j => obtain ⟨t', rfl⟩ := ry; exact PySem.EqMixed.eq_bool_str (fin_bl I q (by simp))
    | _ => exact absurd (show false = true from hs) Bool.false_ne_true
  | int i =>
    obtain ⟨t, rfl⟩ := rx
    cases y with
    | non => cases ry; exact PySem.EqNone.eq_int_none (fin_bl I q (by simp))
    | int j => obtain ⟨t', rfl⟩ := ry; exact eq_int (fin_bl I q dec_int)
    | str j => obtain ⟨t', rfl⟩ := ry; exact PySem.EqMixed.eq_int_str (fin_bl I q (by simp))
    | _ => exact absurd (show false = true from hs) Bool.false_ne_true
  | str i =>
    obtain ⟨t, rfl⟩ := rx
    cases y with
    | non => cases ry; exact PySem.EqNone.eq_str_none (fin_bl I q (by simp))
    | bl j => cases ry; exact PySem.EqMixed.eq_str_bool (fin_bl I q (by simp))
    | int j => obtain ⟨t', rfl⟩ := ry; exact PySem.EqMixed.eq_str_int (fin_bl I q (by simp))
    | str j => obtain ⟨t', rfl⟩ := ry; exact eq_str (fin_bl I q dec_str)
    | _ => exact absurd (show false = true from hs) Bool.false_ne_true
  | byt i =>
    obtain ⟨t, rfl⟩ := rx
    cases y with
    | byt j => obtain ⟨t', rfl⟩ := ry; exact PySem.W.eq_bytes (fin_bl I q dec_byt)
    | _ => exact absurd (show false = true from hs) Bool.false_ne_true
  | _ => cases y <;> exact absurd (show false = true from hs) Bool.false_ne_true
theorem op_ne : OpR X (compareOp .NotEq) rNe := by
  intro pins s σ H x y v u Q I rx ry h
  obtain ⟨hs, q⟩ := h
  cases x with
  | non =>
    cases rx
    cases y with
    | non => cases ry; exact PySem.EqNone.ne_none_none (fin_bl I q (by simp))
    | bl j => cases ry; exact PySem.EqNone.ne_none_bool (fin_bl I q (by simp))
    | int j => obtain ⟨t', rfl⟩ := ry; exact PySem.EqNone.ne_none_int (fin_bl I q (by simp))
    | str j => obtain ⟨t', rfl⟩ := ry; exact PySem.EqNone.ne_none_str (fin_bl I q (by simp))
    | _ => exact absurd (show false = true from hs) Bool.false_ne_true
  | bl i =>
    cases rx
    cases y with
    | non => cases ry; exact PySem.EqNone.ne_bool_none (fin_bl I q (by simp))
    | bl j => cases ry; exact ne_bool (fin_bl I q (congrArg not dec_bl))
    | str j => obtain ⟨t', rfl⟩ := ry; exact PySem.EqMixed.ne_bool_str (fin_bl I q (by simp))
    | _ => exact absurd (show false = true from hs) Bool.false_ne_true
  | int i =>
    obtain ⟨t, rfl⟩ := rx
    cases y with
    | non => cases ry; exact PySem.EqNone.ne_int_none (fin_bl I q (by simp))
    | int j => obtain ⟨t', rfl⟩ := ry; exact ne_int (fin_bl I q (congrArg not dec_int))
    | str j => obtain ⟨t', rfl⟩ := ry; exact PySem.EqMixed.ne_int_str (fin_bl I q (by simp))
    | _ => exact absurd (show false = true from hs) Bool.false_ne_true
  | str i =>
    obtain ⟨t, rfl⟩ := rx
    cases y with
    | non => cases ry; exact PySem.EqNone.ne_str_none (fin_bl I q (by simp))
    | bl j => cases ry; exact PySem.EqMixed.ne_str_bool (fin_bl I q (by simp))
    | int j => obtain ⟨t', rfl⟩ := ry; exact PySem.EqMixed.ne_str_int (fin_bl I q (by simp))
    | str j => obtain ⟨t', rfl⟩ := ry; exact ne_str (fin_bl I q (congrArg not dec_str))
    | _ => exact absurd (show false = true from hs) Bool.false_ne_true
  | byt i =>
    obtain ⟨t, rfl⟩ := rx
    cases y with
    | byt j => obtain ⟨t', rfl⟩ := ry; exact PySem.W.ne_bytes (fin_bl I q (congrArg not dec_byt))
    | _ => exact absurd (show false = true from hs) Bool.false_ne_true
  | _ => cases y <;> exact absurd (show false = true from hs) Bool.false_ne_true

theorem op_lt : OpR X (compareOp .Lt) (rI0 fun i j => .bl (decide (i < j))) := opB0 fun _ _ _ _ _ _ _ q => lt_int q
theorem op_gt : OpR X (compareOp .Gt) (rI0 fun i j => .bl (decide (j < i))) := opB0 fun _ _ _ _ _ _ _ q => gt_int q
/-- two rules for one operation: by cases -/
theorem OpR.or {f : Value → Value → Sem Value} {r r' : R2} (h : OpR X f r) (h' : OpR X f r') : OpR X f (fun x y H Q => r x y H Q ∨ r' x y H Q) := by
  intro pins s σ H x y v u Q I rx ry q
  rcases q with q | q
  · exact h pins s σ H x y v u Q I rx ry q
  · exact h' pins s σ H x y v u Q I rx ry q

theorem nomark (b : Expr) {op : CmpOp} (h : op ≠ .In := by decide) (h2 : op ≠ .NotIn := by decide) : behindInMarks op b = false := by
  have e1 : (op == CmpOp.In) = false := by cases op <;> first | rfl | exact absurd rfl h
  have e2 : (op == CmpOp.NotIn) = false := by cases op <;> first | rfl | exact absurd rfl h2
  cases b <;> simp [behindInMarks, e1, e2]
/-- a comparison as a value; hm: nomark b, or (for in, not in) by with_unfolding_all rfl -/
theorem pe_cmpR {op : CmpOp} {r : R2} (ho : OpR X (compareOp op) r) (ha : PE X a ta) (hb : PE X b tb) (hm : behindInMarks op b = false) : PE X (.Compare a [op] [b] pos) (tOp r ta tb) := by
  intro pins s σ H Q I h
  exact wpAny_Compare1 (binT ha hb I h fun v u s2 x y H2 I2 rx ry q => ho pins s2 σ H2 x y v u Q I2 rx ry q) hm
/-- a reading of a value as a test -/
def tTest (t : TE) : TT := fun σ H Q => t σ H fun x H' => ∃ k, x = .bl k ∧ Q k H'
theorem pt_cmpR {op : CmpOp} {r : R2} (ho : OpR X (compareOp op) r) (ha : PE X a ta) (hb : PE X b tb) (hm : behindInMarks op b = false) : PT X (.Compare a [op] [b] pos) (tTest (tOp r ta tb)) := by
  intro pins s σ H Q I h
  refine wpAny_isTrue_Compare1 (thn (ha pins s σ H _ I h) fun v s1 ⟨x, H1, I1, r1, q1⟩ => thn (hb pins s1 σ H1 _ I1 q1) fun u s2 ⟨y, H2, I2, r2, q2⟩ =>
    thn (ho pins s2 σ H2 x y v u _ I2 r1 r2 q2) fun c s3 ⟨z, H3, I3, r3, k, e, q3⟩ => ?_) hm
  subst e
  cases r3
  exact wpAny_truthy_bool ⟨H3, I3, q3⟩
/-! ### truth -/
theorem line63 : (sizeLine : Nat) < 2 ^ 63 := by rw [sizeLine_eq]; decide
/-! ### strs and bytes -/
/-! ### scalar builtins, by CallR -/
theorem vals1 {x : V} {us : List Value} (r : Vals [x] us) : ∃ u, us = [u] ∧ RelV x u := by
  cases r with
  | cons r1 r2 => cases r2; exact ⟨_, rfl, r1⟩
theorem vals2 {x y : V} {us : List Value} (r : Vals [x, y] us) : ∃ u w', us = [u, w'] ∧ RelV x u ∧ RelV y w' := by
  cases r with
  | cons r1 r2 =>
    cases r2 with
    | cons r3 r4 => cases r4; exact ⟨_, _, rfl, r1, r3⟩
theorem call_abs : CallR X (.builtin "abs") (fun xs H Q => ∃ i, xs = [.int i] ∧ Q (.int (if i < 0 then -i else i)) H) := by
  intro pins s σ H xs us Q I r h
  obtain ⟨i, rfl, q⟩ := h
  obtain ⟨u, rfl, t, rfl⟩ := vals1 r
  exact call_abs_int fun u tk => ⟨.int (if i < 0 then -i else i), H, I.tok _, ⟨_, rfl⟩, q⟩
theorem call_int1 : CallR X (.type "int") (fun xs H Q => (∃ i, xs = [.int i] ∧ Q (.int i) H) ∨ ∃ k, xs = [.bl k] ∧ Q (.int (if k then 1 else 0)) H) := by
  intro pins s σ H xs us Q I r h
  rcases h with ⟨i, rfl, q⟩ | ⟨k, rfl, q⟩
  · obtain ⟨u, rfl, t, rfl⟩ := vals1 r
    exact call_int_int ⟨.int i, H, I, ⟨_, rfl⟩, q⟩
  · obtain ⟨u, rfl, r1⟩ := vals1 r
    cases r1
    exact call_int_bool ⟨.int (if k then 1 else 0), H, I.tok _, ⟨_, rfl⟩, q⟩
end
end L2

namespace L2
open PySem PySem.Spec PyProof.Rows

/-! ### an instance, its attributes a map -/
structure ObjM (h : Heap) (x dx C : Addr) (mA : Str → Option Value) : Prop where
  obj : h.get? x = some (PySem.W.instObj C dx)
  ns : h.Ns1 dx mA
  ne : dx ≠ x

theorem lookIn_ns {h : Heap} {dx : Addr} {mA : Str → Option Value} (n : h.Ns1 dx mA) : ∃ od, h.get? dx = some od ∧ ∀ name, PySem.W.lookIn name od = some (mA name) := by
  obtain ⟨o, es, ep, ho, hd, hk, _, hm⟩ := n
  refine ⟨o, ho, fun name => ?_⟩
  have e := hm name
  unfold nsFind findBy at e
  rw [← Array.find?_toList] at e
  unfold PySem.W.lookIn
  rw [hd]
  dsimp only
  split
  · rename_i y q
    rw [q] at e
    exact congrArg some e
  · rename_i q
    rw [q] at e
    have a : es.toList.any (·.refKey) = false := by
      rw [List.any_eq_false]
      intro y hy
      obtain ⟨z, t, hkey⟩ := hk y (Array.mem_toList_iff.mp hy)
      simp [DictEntry.refKey, hkey]
    have a' : ¬ es.toList.any (·.refKey) = true := by rw [a]; exact Bool.false_ne_true
    rw [if_neg a']
    exact congrArg some e

theorem ObjM.look {h : Heap} {x dx C : Addr} {mA : Str → Option Value} (I : ObjM h x dx C mA) : ∃ od, PySem.W.InstAt h x (PySem.W.instObj C dx) C (some od) ∧ ∀ name, PySem.W.lookIn name od = some (mA name) :=
  let ⟨od, ho, hl⟩ := lookIn_ns I.ns
  ⟨od, ⟨I.obj, rfl, rfl, ho⟩, hl⟩

section
variable {prog : Program} {w : World} {A : Around} {E : Value → Shared → Prop} {s : Shared} {K : PySem.W.Frag} {x dx C f : Addr} {mA : Str → Option Value} {name : Str} {v : Value}

end

/-! ### the attributes as a list of pairs -/
section
variable {P : Program} {w : World} {H H' : Hp} {h h' : Heap} {a C dx : Addr} {fs fs' : List (Str × V)}
theorem ins_get (hok : HOk P w H h) (e : H a = some (.ins C dx fs)) : ∃ mA, ObjM h a dx C mA ∧ (∀ f, RelO (fs.lookup f) (mA f)) ∧ PySem.Within mA (fs.map (·.1)) ∧ fs.length ≤ 1000 ∧ H dx = some (.own a) := by
  obtain ⟨d, z, ne, ob, mA, n, r, q⟩ := (show ObjOk P w H h a (.ins C dx fs) from hok a _ e)
  exact ⟨mA, ⟨ob, n, ne⟩, r, q, z, d⟩
end

/-! ### what of the text a class must have -/
structure Cls (K : PySem.W.Frag) (C : Addr) : Prop where
  pg : PySem.W.plainGet K C Str.empty = true
  hd : PySem.W.hasDictIn K C = true
  po : PySem.W.plainOver K C = true
  sa : PySem.W.findIn K (.ref C) "__setattr__" = some (some (.builtin "object.__setattr__"))
theorem Cls.get {K : PySem.W.Frag} {C : Addr} (c : Cls K C) (f : Str) : PySem.W.plainGet K C f = true := c.pg
section
variable {X : Cx} {pins : List (Addr × Obj)} {σ : St} {H : Hp} {s : Shared} {a C dx : Addr} {fs : List (Str × V)} {f : Str} {v : V} {A : Around} {E : Value → Shared → Prop}

/-- a new instance, tracked, without attributes -/
theorem Inv.made (I : Inv X pins σ H s) : Inv X pins σ (upd (upd H s.heap.objs.size (.own (s.heap.objs.size + 1))) (s.heap.objs.size + 1) (.ins C s.heap.objs.size []))
    { s with heap := (s.heap.push PySem.W.emptyDict).push (PySem.W.instObj C s.heap.objs.size) } := by
  have e1 : (s.heap.push PySem.W.emptyDict).get? s.heap.objs.size = some PySem.W.emptyDict := Heap.get?_push_size s.heap rfl
  have e2 : ((s.heap.push PySem.W.emptyDict).push (PySem.W.instObj C s.heap.objs.size)).get? (s.heap.objs.size + 1) = some (PySem.W.instObj C s.heap.objs.size) := by
    have := Heap.get?_push_size (s.heap.push PySem.W.emptyDict) (o := PySem.W.instObj C s.heap.objs.size) rfl
    rwa [Heap.size_push] at this
  have e3 : (s.heap.push PySem.W.emptyDict).Ns s.heap.objs.size (fun _ => none) := ⟨PySem.W.emptyDict, #[], _, e1, rfl, (fun e he => absurd he (by simp)), fun _ => rfl⟩
  have I1 := I.laid (a := s.heap.objs.size) (o := .own (s.heap.objs.size + 1)) (h' := s.heap.push PySem.W.emptyDict) (t' := s.toks) (fun b u q => Heap.get?_push_of_some _ q) (Nat.le_refl _) ⟨_, e1⟩
  refine I1.laid (a := s.heap.objs.size + 1) (o := .ins C s.heap.objs.size []) (t' := s.toks) (fun b u q => Heap.get?_push_of_some _ q) (Nat.le_of_eq (Heap.size_push _ _)) ?_
  have ne : s.heap.objs.size ≠ s.heap.objs.size + 1 := Nat.ne_of_lt (Nat.lt_succ_self _)
  refine ⟨by rw [upd_ne ne, upd_same], Nat.zero_le _, ne, e2, fun _ => none, (Heap.Ns1.of_empty e3).at fun o q => Heap.get?_push_of_some _ q, fun _ => True.intro, fun y hy => absurd rfl hy⟩

end

/-! ### readings and rules -/
section
variable {X : Cx} {o e value : Expr} {f : Str} {pos pos' tpos : Pos} {ta tv : TE}
end

/-! ### isinstance -/
section
variable {X : Cx} {pins : List (Addr × Obj)} {σ : St} {H : Hp} {s : Shared} {A : Around} {E : Value → Shared → Prop} {Q : Value → Shared → Prop} {c : Value} {b : Bool}
/-- the type of a value, as the fragment's deciders take it; for an instance its class -/
inductive TyOf (K : PySem.W.Frag) (H : Hp) : V → Value → Prop where
  | non : TyOf K H .non (.type "NoneType")
  | bl (x : Bool) : TyOf K H (.bl x) (.type "bool")
  | int (i : Int) : TyOf K H (.int i) (.type "int")
  | str (x : Str) : TyOf K H (.str x) (.type "str")
  | flt (x : UInt64) : TyOf K H (.flt x) (.type "float")
  | lst {a : Addr} {xs : List V} (e : H a = some (.lst xs)) : TyOf K H (.ref a) (.type "list")
  | frz {a : Addr} {o : Obj} {xs : List V} (e : H a = some (.frz o (.lst xs))) : TyOf K H (.ref a) (.type "list")
  | tup {a : Addr} {xs : List V} (e : H a = some (.tup xs)) : TyOf K H (.ref a) (.type "tuple")
  | dK {a : Addr} {kvs : List (Key × V)} (e : H a = some (.dK kvs)) : TyOf K H (.ref a) (.type "dict")
  | dT {a : Addr} {kvs : List (List Key × V)} (e : H a = some (.dT kvs)) : TyOf K H (.ref a) (.type "dict")
  | ins {a C dx : Addr} {fs : List (Str × V)} (e : H a = some (.ins C dx fs)) (cl : Cls K C) (ha : PySem.W.findIn K (.ref C) "__class__" = some (some (.builtin "object.__class__")))
      (hn : PySem.W.specialIn K (.builtin "object.__class__") "__get__" = some (some (.builtin "getset_descriptor.__get__"))) (htk : PySem.W.takesIn K (.builtin "object.__class__") = some true)
      (hm : PySem.W.mroIn K C (.type "object") = some true) : TyOf K H (.ref a) (.ref C)
/-- isinstance(x, c) for one class c, a built-in or an own one: kitOne's answer -/
theorem isinst_ok {x : V} {u t : Value} (I : Inv X pins σ H s) (rx : RelV x u) (ty : TyOf X.K H x t) (e : PySem.W.kitOne X.K t c = some b) (h : ∀ tk, Q (.bool b) { s with toks := tk }) :
    wpAny (model X.prog X.w) A (call (.builtin "isinstance") [u, c]) Q E s := by
  cases ty with
  | non => cases (show u = Value.none from rx); exact PySem.W.kia_one PySem.W.kitx_none I.kIn True.intro e (fun z => nomatch z) h
  | bl y => cases (show u = Value.bool y from rx); exact PySem.W.kia_one PySem.W.kitx_bool I.kIn True.intro e (fun z => nomatch z) h
  | int i => obtain ⟨t, q⟩ := (show ∃ t, u = Value.int i t from rx); cases q; exact PySem.W.kia_one PySem.W.kitx_int I.kIn True.intro e (fun z => nomatch z) h
  | str y => obtain ⟨t, q⟩ := (show ∃ t, u = Value.str y t from rx); cases q; exact PySem.W.kia_one PySem.W.kitx_str I.kIn True.intro e (fun z => nomatch z) h
  | flt y => obtain ⟨t, q⟩ := (show ∃ t, u = Value.float y t from rx); cases q; exact PySem.W.kia_one PySem.W.kitx_float I.kIn True.intro e (fun z => nomatch z) h
  | @lst a xs ea =>
    cases (show u = Value.ref a from rx)
    obtain ⟨_, _, n, _, h1⟩ := (show ObjOk X.prog X.w H s.heap a (.lst xs) from I.hok a _ ea)
    exact PySem.W.kia_one PySem.W.kitx_list I.kIn ⟨_, h1, rfl⟩ e (fun z => nomatch z) h
  | @frz a ob xs ea =>
    cases (show u = Value.ref a from rx)
    obtain ⟨_, _, _, n, _, h1⟩ := (show ObjOk X.prog X.w H s.heap a (.frz ob (.lst xs)) from I.hok a _ ea)
    exact PySem.W.kia_one PySem.W.kitx_list I.kIn ⟨_, h1, rfl⟩ e (fun z => nomatch z) h
  | @tup a xs ea =>
    cases (show u = Value.ref a from rx)
    obtain ⟨_, _, _, p⟩ := (show ObjOk X.prog X.w H s.heap a (.tup xs) from I.hok a _ ea)
    obtain ⟨o, h1, h2, _⟩ := p
    exact PySem.W.kia_one PySem.W.kitx_tuple I.kIn ⟨o, h1, h2⟩ e (fun z => nomatch z) h
  | @dK a kvs ea =>
    cases (show u = Value.ref a from rx)
    obtain ⟨_, _, vs, _, p⟩ := (show ObjOk X.prog X.w H s.heap a (.dK kvs) from I.hok a _ ea)
    obtain ⟨o, es, ep, h1, h2, _⟩ := p
    exact PySem.W.kia_one PySem.W.kitx_dict I.kIn ⟨o, h1, h2.1⟩ e (fun z => nomatch z) h
  | @dT a kvs ea =>
    cases (show u = Value.ref a from rx)
    obtain ⟨_, _, xs, _, o, es, ep, h1, h2, _⟩ := (show ObjOk X.prog X.w H s.heap a (.dT kvs) from I.hok a _ ea)
    exact PySem.W.kia_one PySem.W.kitx_dict I.kIn ⟨o, h1, h2.1⟩ e (fun z => nomatch z) h
  | @ins a C dx fs ea cl ha hn htk hm =>
    cases (show u = Value.ref a from rx)
    obtain ⟨mA, O, _⟩ := ins_get I.hok ea
    obtain ⟨od, J, _⟩ := O.look
    exact PySem.W.kia_one (PySem.W.kitx_own (cl.get _) cl.hd ha hn htk hm) I.kIn J e (fun z => nomatch z) h
end
end L2

namespace L2
open PySem PySem.Spec PyProof.Rows

/-! ### room -/
structure Room (k : Nat) (A : Around) : Prop where
  hd : A.handled = none
  dp : A.depth + 3 * k + 5 < recursionLimit
  un : A.units + 16 * k + 200 < cLine
theorem Room.mono {j k : Nat} {A : Around} (r : Room k A) (h : j ≤ k) : Room j A := ⟨r.hd, by have := r.dp; omega, by have := r.un; omega⟩
theorem Room.deeper {k : Nat} {A : Around} (r : Room (k + 1) A) (env : Env) : Room k (A.deeper env) :=
  ⟨r.hd, by have := r.dp; show A.depth + 1 + 3 * k + 5 < _; omega, by have := r.un; show A.units + 3 + 16 * k + 200 < _; omega⟩
theorem Room.in1 {k : Nat} {A : Around} (r : Room (k + 1) A) : Room k A.in1 :=
  ⟨r.hd, by have := r.dp; show A.depth + 3 * k + 5 < _; omega, by have := r.un; show A.units + 1 + 16 * k + 200 < _; omega⟩
theorem Room.depth {k : Nat} {A : Around} (r : Room k A) : A.depth < recursionLimit := by have := r.dp; omega
theorem Room.units {k : Nat} {A : Around} (r : Room k A) : A.units + 64 < cLine := by have := r.un; omega
/-! ### argument lists and displays -/
def tNil : TA := fun _ H Q => Q [] H
def tCons (ta : TE) (tr : TA) : TA := fun σ H Q => ta σ H fun x H1 => tr σ H1 fun xs H2 => Q (x :: xs) H2
section
variable {X : Cx} {e : Expr} {es : List Expr} {te : TE} {t : TA} {pos : Pos}
theorem pa_nil : PA X [] tNil := fun _ _ _ _ H Q I h => Calls.spliced_nil ⟨[], H, I, .nil, h⟩
theorem pa_cons (ha : PE X e te) (hr : PA X es t) (hs : starEach (e :: es) X.env = (false, eval e X.env) :: starEach es X.env := by rfl) : PA X (e :: es) (tCons te t) := by
  intro pos pins s σ H Q I h
  rw [hs]
  show wpAny _ _ (spliced ((false, eval e X.env) :: backTo pos (starEach es X.env))) _ _ s
  refine Calls.spliced_cons (thn (ha pins s σ H _ I h) fun u s1 ⟨x, H1, I1, r1, q1⟩ => ?_)
  exact thn (hr pos pins s1 σ H1 _ I1 q1) fun us s2 ⟨xs, H2, I2, r2, q2⟩ => ⟨x :: xs, H2, I2, .cons r1 r2, q2⟩

/-- a tuple, a list of written items -/
def tTup (t : TA) : TE := fun σ H Q => t σ H fun xs H1 => xs.length ≤ sizeLine ∧ ∀ p, H1 p = none → Q (.ref p) (upd H1 p (.tup xs))
def tLst (t : TA) : TE := fun σ H Q => t σ H fun xs H1 => xs.length ≤ sizeLine ∧ ∀ p, H1 p = none → Q (.ref p) (upd H1 p (.lst xs))
theorem pe_tup {x1} (h : PA X es t) : PE X (.Tuple es x1 pos) (tTup t) := by
  intro pins s σ H Q I hq
  refine wpAny_Tuple_spliced (thn (h pos pins s σ H _ I hq) fun us s1 ⟨xs, H1, I1, r, z, q⟩ => ⟨by rw [← r.length]; exact z, ?_⟩)
  have hf : H1 s1.heap.objs.size = none := I1.hok.fresh (Nat.le_refl _)
  refine ⟨.ref s1.heap.objs.size, upd H1 s1.heap.objs.size (.tup xs), I1.laid (t' := s1.toks) (fun b u e => Heap.get?_push_of_some _ e) (Nat.le_refl _) ?_, rfl, q _ hf⟩
  exact ⟨z, us, r, ⟨_, Heap.get?_push_size _ rfl, rfl, _, rfl⟩⟩
theorem pe_lst (h : PA X es t) : PE X (.List es pos) (tLst t) := by
  intro pins s σ H Q I hq
  refine wpAny_List_spliced (thn (h pos pins s σ H _ I hq) fun us s1 ⟨xs, H1, I1, r, z, q⟩ => ⟨by rw [← r.length]; exact z, ?_⟩)
  have hf : H1 s1.heap.objs.size = none := I1.hok.fresh (Nat.le_refl _)
  refine ⟨.ref s1.heap.objs.size, upd H1 s1.heap.objs.size (.lst xs), I1.laid (t' := s1.toks) (fun b u e => Heap.get?_push_of_some _ e) (Nat.le_refl _) ?_, rfl, q _ hf⟩
  exact ⟨z, us, 0, r, Heap.get?_push_size _ rfl⟩
end

/-! ### what a def promises -/
/-- a def's promise: the bound arguments in the parameters' order, the heap, the wanted end, the wanted exception -/
abbrev Sp := List V → Hp → VK → XK → Prop
/-- how an exception lies behind a call (file 08 gives it): the callers' frames, abstract heap and state ahead of the call, the wish, the exception, the state -/
abbrev CXT := List Env → Hp → Shared → XK → Value → Shared → Prop

/-- the state at a call -/
structure Env0 (P : Program) (w : World) (K : PySem.W.Frag) (mg : Str → Option Value) (base : Heap) (A : Around) (outer : List Env) (s : Shared) (H : Hp) : Prop where
  frames : A.frames = some outer
  mod : Mod K mg base
  bs : ∀ b o, base.get? b = some o → s.heap.get? b = some o ∧ H b = none
  bsz : base.objs.size ≤ s.heap.objs.size
  funs : s.heap.FunFrames base outer
  frf : ∀ b ∈ frs outer, H b = none
  hok : HOk P w H s.heap
  bare : AllBare s.gens
/-- a call's end -/
def CE (outer : List Env) (P : Program) (w : World) (H : Hp) (s : Shared) (Q : VK) (u : Value) (s' : Shared) : Prop :=
  ∃ v H', s'.os = s.os ∧ AllBare s'.gens ∧ Un (frs outer) [] H H' s.heap s'.heap ∧ HOk P w H' s'.heap ∧ RelV v u ∧ Q v H'
def CR (CX : CXT) (outer : List Env) (P : Program) (w : World) (H : Hp) (s : Shared) (Q : VK) (E : XK) (r : Result) (s' : Shared) : Prop :=
  match r with
  | .ok (.ret u) => CE outer P w H s Q u s'
  | .ok _ => False
  | .error e => CX outer H s E e s'
structure FnOk (P : Program) (w : World) (K : PySem.W.Frag) (mg : Str → Option Value) (base : Heap) (CX : CXT) (k : Nat) (f : Addr) (fd : FuncData) (ps : List Str) (sp : Sp) : Prop where
  len : ∀ vs H Q E, sp vs H Q E → vs.length = ps.length
  run : ∀ (A : Around) (outer : List Env) (s : Shared) (H : Hp) (args : Args) (us : List Value) (vs : List V) (Q : VK) (E : XK), Room k A → Env0 P w K mg base A outer s H → BindsTo s fd args (ps.zip us) → Vals vs us → sp vs H Q E →
    codeAny (model P w) A (.call (.ref f) args) (CR CX outer P w H s Q E) s
theorem FnOk.mono {P : Program} {w : World} {K : PySem.W.Frag} {mg : Str → Option Value} {base : Heap} {CX : CXT} {j k : Nat} {f : Addr} {fd : FuncData} {ps : List Str} {sp : Sp} (F : FnOk P w K mg base CX j f fd ps sp) (h : j ≤ k) :
    FnOk P w K mg base CX k f fd ps sp := ⟨F.len, fun A outer s H args us vs Q E hr => F.run A outer s H args us vs Q E (hr.mono h)⟩
/-- a weaker promise -/
theorem FnOk.imp {P : Program} {w : World} {K : PySem.W.Frag} {mg : Str → Option Value} {base : Heap} {CX : CXT} {k : Nat} {f : Addr} {fd : FuncData} {ps : List Str} {sp sp' : Sp} (F : FnOk P w K mg base CX k f fd ps sp)
    (h : ∀ vs H Q E, sp' vs H Q E → sp vs H Q E) : FnOk P w K mg base CX k f fd ps sp' :=
  ⟨fun vs H Q E q => F.len vs H Q E (h _ _ _ _ q), fun A outer s H args us vs Q E hr he hb hv hs => F.run A outer s H args us vs Q E hr he hb hv (h _ _ _ _ hs)⟩

theorem Env0.in1 {P : Program} {w : World} {K : PySem.W.Frag} {mg : Str → Option Value} {base : Heap} {A : Around} {outer : List Env} {s : Shared} {H : Hp} (e : Env0 P w K mg base A outer s H) :
    Env0 P w K mg base A.in1 outer s H := ⟨e.frames, e.mod, e.bs, e.bsz, e.funs, e.frf, e.hok, e.bare⟩

section
variable {X : Cx} {pins : List (Addr × Obj)} {σ : St} {H : Hp} {s s' : Shared}
/-- from a body: what a callee wants -/
theorem Inv.env0 (I : Inv X pins σ H s) : Env0 X.prog X.w X.K X.mg X.base X.A X.stack s H :=
  ⟨I.ok.frames, I.ok.mod, I.bs, Nat.le_trans I.ok.bsz I.sz, I.stack, I.stkFree, I.hok, I.bare⟩
/-- behind a call -/
theorem Inv.after {Q : VK} {u : Value} (I : Inv X pins σ H s) (h : CE X.stack X.prog X.w H s Q u s') : EP X pins σ Q u s' := by
  obtain ⟨v, H', os, bare, un, hok, r, q⟩ := h
  obtain ⟨hh, g, d, t, os'⟩ := s'
  obtain rfl : os' = s.os := os
  exact ⟨v, H', I.call (h' := hh) (g' := g) (d' := d) (t' := t) (ch := []) un hok bare (fun b z => absurd z (by simp)), r, q⟩
end

/-! ### calls -/
/-- f(..): the written arguments, then the defaults dvs; E: what is wanted of an exception -/
def tCall (sp : Sp) (dvs : List V) (E : XK) (t : TA) : TE := fun σ H Q => t σ H fun vs H1 => sp (vs ++ dvs) H1 Q E
/-- how the parameters are bound: us the positional arguments, kw the keywords' values by name, ds the defaults that fill up -/
def Binds (K : PySem.W.Frag) (fd : FuncData) (ps : List Str) (ds : List Value) : Prop :=
  ∀ (s : Shared) (us : List Value), K.In s.heap → (us ++ ds).length = ps.length → BindsTo s fd ⟨us, []⟩ (ps.zip (us ++ ds))
/-- every parameter is given -/
theorem Binds.all {K : PySem.W.Frag} {fd : FuncData} {ps : List Str} (h : ∀ us : List Value, us.length = ps.length → bindArgs fd ⟨us, []⟩ = pure (ps.zip us)) : Binds K fd ps [] := fun s us _ hl => by
  rw [List.append_nil] at hl ⊢
  exact .of_eq (h us hl)

/-- an exception of a callee reaches what this body wants of exceptions -/
def Passes (CX : CXT) (X : Cx) (E : XK) : Prop := ∀ (pins : List (Addr × Obj)) (σ : St) (H : Hp) (s : Shared) (e : Value) (s' : Shared), Inv X pins σ H s → CX X.stack H s E e s' → X.xe e s'

section
variable {X : Cx} {CX : CXT} {k : Nat} {f C : Addr} {fd : FuncData} {ps : List Str} {sp : Sp} {dvs : List V} {ds : List Value} {E : XK} {x m : Str} {p pos apos : Pos} {e o : Expr} {es : List Expr} {ta : TE} {t : TA}

/-- the callee runs -/
theorem run_fn {pins : List (Addr × Obj)} {σ : St} {H : Hp} {s : Shared} {Q : VK} {us : List Value} {vs : List V} (F : FnOk X.prog X.w X.K X.mg X.base CX k f fd ps sp) (hr : Room k X.A) (hb : Binds X.K fd ps ds) (hd : Vals dvs ds) (hx : Passes CX X E)
    (I : Inv X pins σ H s) (r : Vals vs us) (h : sp (vs ++ dvs) H Q E) : wpAny (model X.prog X.w) X.A (call (.ref f) us) (EP X pins σ Q) X.xe s := by
  have r2 : Vals (vs ++ dvs) (us ++ ds) := r.append hd
  have hl : (us ++ ds).length = ps.length := by rw [← r2.length]; exact F.len _ _ _ _ h
  refine wpAny_call (codeAny_mono (F.run X.A X.stack s H ⟨us, []⟩ (us ++ ds) (vs ++ dvs) Q E hr I.env0 (hb s us I.kIn hl) r2 h) fun r s' hq => ?_)
  cases r with
  | error e => exact hx pins σ H s e s' I hq
  | ok fl =>
    cases fl with
    | ret u => exact I.after hq
    | next => exact False.elim hq
    | brk => exact False.elim hq
    | cont => exact False.elim hq

theorem pe_call (F : FnOk X.prog X.w X.K X.mg X.base CX k f fd ps sp) (hr : Room k X.A) (hg : Gl X x) (hm : X.mg x = some (.ref f)) (hk : PySem.W.keepIn X.K (.ref f) = true) (hb : Binds X.K fd ps ds) (hd : Vals dvs ds) (hx : Passes CX X E)
    (ha : PA X (e :: es) t) (hdb : (x == ("__debug__" : Str)) = false := by decide) (he : starEach (e :: es) X.env = (false, eval e X.env) :: starEach es X.env := by rfl) (hpl : (backTo pos (starEach es X.env)).any (·.1) = false := by rfl) :
    PE X (.Call (.Name x p) (e :: es) [] pos) (tCall sp dvs E t) := by
  intro pins s σ H Q I h
  refine wpAny_Call_Name_kw (ld_glob I hg hm ?_ hdb)
  refine PySem.W.callWith_K (h₀ := X.base) I.ok.mod.kin hk (thn (ha pos pins s σ H _ I h) fun us s1 ⟨vs, H1, I1, r, q⟩ => ⟨I1.kIn, ?_⟩) he hpl
  exact run_fn F hr hb hd hx I1 r q
end

/-! ### keywords -/
section
variable {X : Cx} {CX : CXT} {k : Nat} {f C : Addr} {fd : FuncData} {ps ks : List Str} {sp : Sp} {E : XK} {x m : Str} {p pos apos kpos : Pos} {e o : Expr} {es : List Expr} {kws : List Keyword} {te ta : TE} {t tk : TA} {nm : Option Str}
variable {g : List Value → List Value → List Value} {gV : List V → List V → List V}
end

/-! ### a def's body keeps its promise -/
/-- names: the parameters first -/
structure FnScope (N P : List Str) (sc : Scope) : Prop where
  kind : sc.kind = .function
  co : sc.isCoroutine = false
  gen : sc.isGenerator = false
  nd : N.Nodup
  pre : N.take P.length = P
  par : ∀ x ∈ P, sc.names.lookup x = some .local ∨ sc.names.lookup x = some .cell
  nofree : ∀ y ∈ sc.names, y.2 ≠ .free

theorem bindL_out {kindOf : Str → Option NameKind} {x : Str} : ∀ {binds : List (Str × Value)} {m : Str → Option Value}, (∀ v, (x, v) ∉ binds) → bindL kindOf binds m x = m x
  | [], _, _ => rfl
  | (n, v) :: r, m, h => by
    unfold bindL
    rw [bindL_out fun w hw => h w (List.mem_cons_of_mem _ hw)]
    split
    · have : x ≠ n := by rintro rfl; exact h v List.mem_cons_self
      simp [this]
    · rfl
theorem bindC_out {kindOf : Str → Option NameKind} {x : Str} : ∀ {binds : List (Str × Value)} {m : Str → Option Value}, (∀ v, (x, v) ∉ binds) → bindC kindOf binds m x = m x
  | [], _, _ => rfl
  | (n, v) :: r, m, h => by
    unfold bindC
    rw [bindC_out fun w hw => h w (List.mem_cons_of_mem _ hw)]
    split
    · rfl
    · have : x ≠ n := by rintro rfl; exact h v List.mem_cons_self
      simp [this]
theorem bindL_get {kindOf : Str → Option NameKind} {x : Str} {v : Value} : ∀ {P : List Str} {vs : List Value} {i : Nat} {m : Str → Option Value}, P.Nodup → P[i]? = some x → vs[i]? = some v → kindOf x = some .local →
    bindL kindOf (P.zip vs) m x = some v
  | [], _, _, _, _, h, _, _ => by simp at h
  | _ :: _, [], _, _, _, _, h, _ => by simp at h
  | p :: P, w :: vs, 0, m, nd, h1, h2, hk => by
    simp at h1 h2; subst h1; subst h2
    show bindL kindOf ((p, w) :: P.zip vs) m p = _
    unfold bindL
    rw [bindL_out fun v hv => (List.nodup_cons.mp nd).1 (List.of_mem_zip hv).1, if_pos hk]
    simp
  | p :: P, w :: vs, i + 1, m, nd, h1, h2, hk => by
    show bindL kindOf ((p, w) :: P.zip vs) m x = _
    unfold bindL
    exact bindL_get (i := i) (List.nodup_cons.mp nd).2 (by simpa using h1) (by simpa using h2) hk
theorem bindC_get {kindOf : Str → Option NameKind} {x : Str} {v : Value} : ∀ {P : List Str} {vs : List Value} {i : Nat} {m : Str → Option Value}, P.Nodup → P[i]? = some x → vs[i]? = some v → kindOf x ≠ some .local →
    bindC kindOf (P.zip vs) m x = some v
  | [], _, _, _, _, h, _, _ => by simp at h
  | _ :: _, [], _, _, _, _, h, _ => by simp at h
  | p :: P, w :: vs, 0, m, nd, h1, h2, hk => by
    simp at h1 h2; subst h1; subst h2
    show bindC kindOf ((p, w) :: P.zip vs) m p = _
    unfold bindC
    rw [bindC_out fun v hv => (List.nodup_cons.mp nd).1 (List.of_mem_zip hv).1, if_neg hk]
    simp
  | p :: P, w :: vs, i + 1, m, nd, h1, h2, hk => by
    show bindC kindOf ((p, w) :: P.zip vs) m x = _
    unfold bindC
    exact bindC_get (i := i) (List.nodup_cons.mp nd).2 (by simpa using h1) (by simpa using h2) hk

/-- the names' values at the entry -/
def start (N : List Str) (vs : List V) : St := vs.map some ++ List.replicate (N.length - vs.length) none

/-- the context of a def's body, at its entry; an exception leaves the frame, then lies as CX says -/
def cxOf (CX : CXT) (P : Program) (w : World) (K : PySem.W.Frag) (mg : Str → Option Value) (base : Heap) (N : List Str) (qual : Str) (scope : Scope) (f : Addr) (cd : Value) (A : Around) (outer : List Env) (s : Shared) (H : Hp) (E : XK) : Cx where
  prog := P
  w := w
  K := K
  mg := mg
  base := base
  A := A.deeper (envOfC qual scope s.heap.objs.size f cd)
  N := N
  s₀ := s
  H₀ := H
  env := envOfC qual scope s.heap.objs.size f cd
  outer := outer
  stack := envOfC qual scope s.heap.objs.size f cd :: outer
  ex := []
  calm := true
  fn := fun _ => true
  pn := []
  xe := fun e s' => wpAny (model P w) (A.deeper (envOfC qual scope s.heap.objs.size f cd)) (leaving (envOfC qual scope s.heap.objs.size f cd) e) (fun _ s'' => CX outer H s E e s'') (fun e' s'' => CX outer H s E e' s'') s'

theorem cell_has {sc : Scope} {n : Nat} {x : Str} (h : sc.names.lookup x = some .cell) : ∃ c, (cellsFrom n sc.names []).lookup x = some c := by
  have q := PySem.W.cellsFrom_some sc.names n [] (.inl h)
  exact Option.isSome_iff_exists.mp q

theorem inv_start {CX : CXT} {P : Program} {w : World} {K : PySem.W.Frag} {mg : Str → Option Value} {base : Heap} {N ps : List Str} {qual : Str} {scope : Scope} {f : Addr} {cd : Value} {A : Around} {outer : List Env} {s s1 : Shared} {H : Hp} {E : XK} {us : List Value} {vs : List V}
    (S : FnScope N ps scope) (hd : A.handled = none) (e0 : Env0 P w K mg base A outer s H) (hl : vs.length = ps.length) (r : Vals vs us)
    (x : InCallC s s.heap.objs.size (bindL (envOfC qual scope s.heap.objs.size f cd).kindOf (ps.zip us) fun _ => none) (cellsFrom (s.heap.objs.size + 1) scope.names []) (bindC (envOfC qual scope s.heap.objs.size f cd).kindOf (ps.zip us) fun _ => none) s1) :
    Inv (cxOf CX P w K mg base N qual scope f cd A outer s H E) [] (start N vs) H s1 := by
  have hpl : ps.length ≤ N.length := by have := congrArg List.length S.pre; rw [List.length_take] at this; omega
  obtain ⟨h1, tk, rfl, hk⟩ := x.done
  have noA : ∀ b : Addr, b ∉ (cxOf CX P w K mg base N qual scope f cd A outer s H E).ex := fun b z => absurd (show b ∈ ([] : List Addr) from z) (by simp)
  refine ⟨⟨e0.mod, S.kind, rfl, rfl, Nat.le_refl _, fun y z c h1 h2 => ?_, fun y hy => ?_, fun y c _ h => ?_, fun _ => hd, Around.frames_deeper e0.frames, .inr ⟨rfl, rfl⟩, fun b z => absurd z (noA b), e0.bs, e0.bsz, fun b _ _ => noA b, fun b z => absurd z (noA b), e0.funs, e0.frf⟩,
    rfl, e0.bare, Un.kept hk, ⟨_, x.toInCall.ns, fun i y v h1 h2 h3 => ?_⟩, fun y c h => ⟨_, x.cell y c h⟩, e0.hok.fresh (Nat.le_refl _), fun y c h => ?_, fun p hp => absurd (show p ∈ ([] : List (Addr × Obj)) from hp) (by simp), e0.hok.kept hk, ?_⟩
  · exact name_of_addr x.apart (PySem.mem_of_lookup h1) (PySem.mem_of_lookup h2)
  · have hy : scope.names.lookup y = some .cell ∨ scope.names.lookup y = some .free := hy
    rcases hy with hy | hy
    · exact cell_has hy
    · exact absurd rfl (S.nofree _ (PySem.mem_of_lookup hy))
  · exact Nat.le_of_lt (x.above y c (PySem.mem_of_lookup h))
  · have hi : i < vs.length := by
      unfold start at h2
      by_cases hi : i < vs.length
      · exact hi
      · rw [List.getElem?_append_right (by simpa using hi)] at h2
        rw [List.getElem?_replicate] at h2
        split at h2 <;> cases h2
    have ha : vs[i]? = some v := by
      unfold start at h2
      rw [List.getElem?_append_left (by simpa using hi), List.getElem?_map] at h2
      cases e : vs[i]? with
      | none => rw [e] at h2; cases h2
      | some a => rw [e] at h2; cases h2; rfl
    obtain ⟨u, hu, rv⟩ := r.get ha
    have hp : ps[i]? = some y := by
      rw [← S.pre, List.getElem?_take_of_lt (by omega)]; exact h1
    have ndP : ps.Nodup := by rw [← S.pre]; exact S.nd.sublist (List.take_sublist _ _)
    refine ⟨u, rv, ?_⟩
    rcases S.par y (List.mem_of_getElem? hp) with k | k
    · exact .inl ⟨k, bindL_get ndP hp hu k⟩
    · obtain ⟨c, e⟩ := cell_has (n := s.heap.objs.size + 1) k
      refine .inr ⟨.inl k, c, e, ?_⟩
      have q := x.cell y c e
      rw [bindC_get ndP hp hu (by show scope.names.lookup y ≠ _; rw [k]; decide)] at q
      exact q
  · exact e0.hok.fresh (Nat.le_of_lt (x.above y c (PySem.mem_of_lookup h)))
  · unfold start
    show _ = N.length
    rw [List.length_append, List.length_map, List.length_replicate]
    omega

/-- THE RULE: a def (or a method) of the text, by its body. The body's reading t is chosen for each entry; it is run at the parameters' values -/
theorem fn_of {CX : CXT} {P : Program} {w : World} {K : PySem.W.Frag} {mg : Str → Option Value} {base : Heap} {k : Nat} {f : Addr} {name qual : Str} {params : Arguments} {body : List Stmt} {scope : Scope} {dV kV doc pm cdv ct oc : Value} {an od : Option Addr}
    {osl : Array (Option Value)} {N ps : List Str} {sp : Sp} (lk : K.lookup f = some ⟨oc, od, .func (PySem.W.fnOf name qual params body scope dV kV doc pm an cdv ct), osl⟩) (hcd : PySem.W.codeIn K cdv qual = true) (S : FnScope N ps scope)
    (len : ∀ vs H Q E, sp vs H Q E → vs.length = ps.length)
    (hbody : ∀ (A : Around) (outer : List Env) (s : Shared) (H : Hp) (vs : List V) (Q : VK) (E : XK), Room k (A.deeper (envOfC qual scope s.heap.objs.size f cdv)) → sp vs H Q E →
      ∃ t, PSs (cxOf CX P w K mg base N qual scope f cdv A outer s H E) body t ∧ t { nx := fun _ H' => Q .non H', rt := Q } (start N vs) H) :
    FnOk P w K mg base CX (k + 1) f (PySem.W.fnOf name qual params body scope dV kV doc pm an cdv ct) ps sp := by
  refine ⟨len, fun A outer s H args us vs Q E hr e0 hb r hsp => ?_⟩
  have hl := len _ _ _ _ hsp
  have KX : K.In s.heap := e0.mod.kin.keeps fun b o e => (e0.bs b o e).1
  have lim : s.heap.NoLimit := e0.mod.nolimit.keeps fun b o e => (e0.bs b o e).1
  have hkind : ∀ y ∈ ps.zip us, scope.names.lookup y.1 = some .local ∨ (scope.names.lookup y.1 = some .cell ∧ ((cellsFrom (s.heap.objs.size + 1) scope.names []).lookup y.1).isSome = true) := fun ⟨n, v⟩ hy => by
    rcases S.par n (List.of_mem_zip hy).1 with q | q
    · exact .inl q
    · exact .inr ⟨q, PySem.W.cellsFrom_some _ _ _ (.inl q)⟩
  refine codeAny_call_function hr.depth (KX _ _ lk) rfl S.co S.gen rfl (PySem.W.codeRec_of KX hcd) (hb _ _ _ _ ?_)
  refine wpAny_newFunctionEnv_cells S.kind hkind fun env he s1 x => ?_
  subst he
  refine ⟨lim.keeps x.toInCall.keep, codeAny_func ?_⟩
  obtain ⟨t, ht, hq⟩ := hbody A outer s H vs Q E (hr.deeper _) hsp
  have I : Inv (cxOf CX P w K mg base N qual scope f cdv A outer s H E) [] (start N vs) H s1 := inv_start S hr.hd e0 hl r x
  refine wpAny_mono (ht [] s1 (start N vs) H _ I hq) (fun fl s' hs => ?_) fun e s' hs => hs
  have fin : ∀ {σ' : St} {H' : Hp} {v : V} {u : Value}, Inv (cxOf CX P w K mg base N qual scope f cdv A outer s H E) [] σ' H' s' → RelV v u → Q v H' → CE outer P w H s Q u s' :=
    fun {σ' H' v u} J rv q => ⟨v, H', J.os, J.bare, J.base, J.hok, rv, q⟩
  cases fl with
  | ret u =>
    obtain ⟨v, σ', H', J, rv, q⟩ := hs
    exact fin J rv q
  | next =>
    obtain ⟨σ', H', J, q⟩ := hs
    exact fin (v := V.non) (u := Value.none) J rfl q
  | brk =>
    obtain ⟨_, _, _, q⟩ := hs
    exact False.elim q
  | cont =>
    obtain ⟨_, _, _, q⟩ := hs
    exact False.elim q
end L2

namespace L2
open PySem PySem.Spec PyProof.Rows
section
variable {X : Cx} {x : Str} {p pos : Pos} {e : Expr} {es : List Expr} {t : TA} {id T : String} {r : List V → Hp → VK → Prop}

def tCB (r : List V → Hp → VK → Prop) (t : TA) : TE := fun σ H Q => t σ H fun vs H1 => r vs H1 Q
/-- f(e, ..), f a built-in function -/
theorem pe_callB (hc : CallR X (.builtin id) r) (hg : Gl X x) (hm : X.mg x = none) (hv : bootBuiltins x = some (.builtin id)) (ha : PA X (e :: es) t) (hn : x ≠ "__name__" := by decide) (hdb : (x == ("__debug__" : Str)) = false := by decide)
    (he : starEach (e :: es) X.env = (false, eval e X.env) :: starEach es X.env := by rfl) (hpl : (backTo pos (starEach es X.env)).any (·.1) = false := by rfl) : PE X (.Call (.Name x p) (e :: es) [] pos) (tCB r t) := by
  intro pins s σ H Q I h
  refine wpAny_Call_Name_kw (ld_blt I hg hm hv ?_ hn hdb)
  exact PyProof.Rows.callWith_builtin1 (thn (ha pos pins s σ H _ I h) fun us s1 ⟨vs, H1, I1, r1, q1⟩ => hc pins s1 σ H1 vs us Q I1 r1 q1) he hpl
/-- T(e, ..), T a built-in type -/
theorem pe_callTy (hc : CallR X (.type T) r) (hg : Gl X x) (hm : X.mg x = none) (hv : bootBuiltins x = some (.type T)) (ha : PA X (e :: es) t) (hn : x ≠ "__name__" := by decide) (hdb : (x == ("__debug__" : Str)) = false := by decide)
    (he : starEach (e :: es) X.env = (false, eval e X.env) :: starEach es X.env := by rfl) (hpl : (backTo pos (starEach es X.env)).any (·.1) = false := by rfl) : PE X (.Call (.Name x p) (e :: es) [] pos) (tCB r t) := by
  intro pins s σ H Q I h
  refine wpAny_Call_Name_kw (ld_blt I hg hm hv ?_ hn hdb)
  exact PyProof.Rows.callWith_type1 (thn (ha pos pins s σ H _ I h) fun us s1 ⟨vs, H1, I1, r1, q1⟩ => hc pins s1 σ H1 vs us Q I1 r1 q1) he hpl
end
end L2

namespace HT
open PySem PyProof.Rows

section
open PySem.SeqAt
open PySem.AutoSeq1 (wpAny_loadPart')
open PySem.MeetsSeq PySem.MeetsSeq2 PySem.MeetsSeq3

end

section
variable {prog : Program} {w : World} {A : Around} {E : Value → Shared → Prop} {s : Shared}

/-! ### t[a:b], not the whole -/
/-- a slice's bound as a place among n (d where it is left out) -/
def sIx (n d : Nat) : Option Int → Nat
  | none => d
  | some v => if v < 0 then (v + (n : Int)).toNat else min v.toNat n
theorem sIx_none (n d : Nat) : sIx n d none = d := rfl
theorem sIx_nat (n d k : Nat) : sIx n d (some (k : Int)) = min k n := by
  show (if (k : Int) < 0 then ((k : Int) + (n : Int)).toNat else min (k : Int).toNat n) = min k n
  rw [if_neg (by omega), Int.toNat_natCast]
theorem sIx_le (n d : Nat) (hd : d ≤ n) (o : Option Int) : sIx n d o ≤ n := by
  cases o with
  | none => exact hd
  | some v =>
    show (if v < 0 then (v + (n : Int)).toNat else min v.toNat n) ≤ n
    by_cases hv : v < 0
    · rw [if_pos hv]; omega
    · rw [if_neg hv]; exact Nat.min_le_right _ _
theorem clip_eq (v : Int) (n d : Nat) : (if v < 0 then max (v + (n : Int)) 0 else min v (n : Int)) = ((sIx n d (some v) : Nat) : Int) := by
  show (if v < 0 then max (v + (n : Int)) 0 else min v (n : Int)) = (((if v < 0 then (v + (n : Int)).toNat else min v.toNat n) : Nat) : Int)
  by_cases hv : v < 0
  · simp only [if_pos hv]; omega
  · simp only [if_neg hv]; omega
theorem adjust_gen (lo hi : Option Int) (n : Nat) : Builtin.Slice.sliceAdjust lo hi 1 (n : Int) = (((sIx n 0 lo : Nat) : Int), ((sIx n n hi : Nat) : Int)) := by
  have h1 : ¬ ((1 : Int) < 0) := by omega
  unfold Builtin.Slice.sliceAdjust
  simp only [h1, if_false]
  refine Prod.ext ?_ ?_
  · cases lo with
    | none => rfl
    | some v => exact clip_eq v n 0
  · cases hi with
    | none => rfl
    | some v => exact clip_eq v n n
theorem places_gen (i j : Nat) : Builtin.Slice.slicePlaces (i : Int) (j : Int) 1 = j - i := by
  unfold Builtin.Slice.slicePlaces
  have h1 : (1 : Int) > 0 := by omega
  simp only [h1, if_true, Int.ediv_one]
  split <;> omega
theorem slicePart_ {v : Value} {o : Option Int} {Q : Option Int → Shared → Prop} (p : IsPart v o) (h : Q o s) : wpAny (model prog w) A (Builtin.Slice.slicePartIndex v) Q E s := by
  cases p with
  | none => exact slicePart_none h
  | int i t => exact slicePart_int h
theorem sliceApplied_gen {sl : Addr} {vl vu : Value} {lo hi : Option Int} {n : Nat} {Q : Int × Int × Nat → Shared → Prop} (hs : s.heap.IsSliceOf sl vl vu .none) (pl : IsPart vl lo) (pu : IsPart vu hi)
    (h : Q (((sIx n 0 lo : Nat) : Int), 1, sIx n n hi - sIx n 0 lo) s) : wpAny (model prog w) A (Builtin.Slice.sliceApplied (.ref sl) (pure (n : Int))) Q E s := by
  obtain ⟨os, hos, hcs, hds⟩ := id hs
  unfold Builtin.Slice.sliceApplied Builtin.Slice.sliceFields
  refine wpAny_bind (wpAny_bind (wpAny_field hos hds (x := vl) rfl (wpAny_bind (wpAny_field hos hds (x := vu) rfl (wpAny_bind (wpAny_field hos hds (x := .none) rfl (wpAny_pure ?_)))))))
  refine wpAny_bind (slicePart_none ?_)
  show wpAny _ _ (if ((1 : Int) == 0) = true then _ else _) _ _ s
  rw [if_neg (by decide)]
  refine wpAny_bind (slicePart_ pl (wpAny_bind (slicePart_ pu (wpAny_bind (wpAny_pure ?_)))))
  show wpAny _ _ (match Builtin.Slice.sliceAdjust lo hi 1 (n : Int) with | (lo, hi) => pure (lo, (1 : Int), Builtin.Slice.slicePlaces lo hi 1)) _ _ s
  rw [adjust_gen lo hi n]
  show wpAny _ _ (pure (((sIx n 0 lo : Nat) : Int), (1 : Int), Builtin.Slice.slicePlaces ((sIx n 0 lo : Nat) : Int) ((sIx n n hi : Nat) : Int) 1)) _ _ s
  rw [places_gen]
  exact wpAny_pure h
theorem pick_gen (xs : Array Value) (i k : Nat) : ((List.range k).filterMap fun (m : Nat) => xs[((i : Int) + (m : Int) * 1).toNat]?).toArray = ((xs.toList.drop i).take k).toArray := by
  have e : (fun (m : Nat) => xs[((i : Int) + (m : Int) * 1).toNat]?) = fun m => xs[i + m]? := by
    funext m
    have : ((i : Int) + (m : Int) * 1).toNat = i + m := by omega
    rw [this]
  rw [e]
  have := pick_run xs i k
  rw [List.filterMap_map] at this
  have e2 : ((fun x => xs[x]?) ∘ fun x => i + x) = fun m => xs[i + m]? := rfl
  rw [e2] at this
  rw [this]

theorem getItem_tuple_cut {t sl : Addr} {items : Array Value} {vl vu : Value} {lo hi : Option Int} {Q : Value → Shared → Prop} (ht : IsTup s.heap t items) (hs : s.heap.IsSliceOf sl vl vu .none) (pl : IsPart vl lo) (pu : IsPart vu hi)
    (hw : ¬ (sIx items.size 0 lo = 0 ∧ sIx items.size items.size hi = items.size))
    (h : Q (.ref s.heap.objs.size) { s with heap := s.heap.push { cls := .type "tuple", data := .seq ((items.toList.drop (sIx items.size 0 lo)).take (sIx items.size items.size hi - sIx items.size 0 lo)).toArray } })
    (hsz : items.size ≤ sizeLine) : wpAny (model prog w) A (getItem (.ref t) (.ref sl)) Q E s := by
  have htake : sizeOk (.seq ((items.toList.drop (sIx items.size 0 lo)).take (sIx items.size items.size hi - sIx items.size 0 lo)).toArray) := by
    show ((items.toList.drop (sIx items.size 0 lo)).take (sIx items.size items.size hi - sIx items.size 0 lo)).toArray.size ≤ sizeLine
    rw [List.size_toArray, List.length_take, List.length_drop, Array.length_toList]
    omega
  have hj : sIx items.size items.size hi ≤ items.size := sIx_le _ _ (Nat.le_refl _) hi
  obtain ⟨os, hos, hcs, hds⟩ := id hs
  have hTs : s.TypeIs (.ref sl) "slice" := ⟨os, hos, hcs⟩
  unfold getItem
  try with_reducible refine wpAny_holding ?_
  first | refine wpAny_bind (wpAny_pure ?_) | skip
  refine wpAny_bind (wpAny_sequenceKey ht.typeIs (by decide) ?_)
  refine wpAny_bind (wpAny_callSpecial?_slot (name := Str.ofString "__getitem__") ht.typeIs PyProof.Rows.slot_tuple_getitem
    (wpAny_call_entry PyProof.Rows.slot_tuple_getitem ht.typeIs entry_tuple_getitem ?_ (args_tuple_getitem _ _)))
  show wpAny _ _ (Builtin.Tuple.tupleItemsOf (.ref t) >>= _) _ _ s
  refine wpAny_bind (tupleItemsOf_ ht ?_)
  refine wpAny_bind (wpAny_typeOf hTs ?_)
  rw [if_pos (by decide)]
  refine wpAny_bind (sliceApplied_gen hs pl pu ?_)
  have hno : ¬ ((((sIx items.size 0 lo : Nat) : Int) == 0 && (1 : Int) == 1 && (sIx items.size items.size hi - sIx items.size 0 lo) == items.size) = true) := by
    intro q
    rw [Bool.and_eq_true, Bool.and_eq_true] at q
    have q1 : ((sIx items.size 0 lo : Nat) : Int) = 0 := eq_of_beq q.1.1
    have q2 : sIx items.size items.size hi - sIx items.size 0 lo = items.size := eq_of_beq q.2
    exact hw ⟨by omega, by omega⟩
  show wpAny _ _ (if (((sIx items.size 0 lo : Nat) : Int) == 0 && (1 : Int) == 1 && (sIx items.size items.size hi - sIx items.size 0 lo) == items.size) = true then _ else _) _ _ s
  rw [if_neg hno, pick_gen]
  first
    | exact wpAny_bind (m := Builtin.Tuple.tupleExact _) (wpAny_newObj_type (wpAny_pure ⟨_, rfl, wpAny_pure h⟩) htake)
    | exact wpAny_bind (m := Builtin.Tuple.tupleExact _) (wpAny_newObj_type (wpAny_bind (wpAny_pure (wpAny_pure ⟨_, rfl, wpAny_pure h⟩))) htake)
    | exact wpAny_bind (wpAny_bind (m := Builtin.Tuple.tupleExact _) (wpAny_newObj_type (wpAny_pure (wpAny_pure ⟨_, rfl, wpAny_pure h⟩)) htake))
    | exact wpAny_bind (wpAny_bind (m := Builtin.Tuple.tupleExact _) (wpAny_newObj_type (wpAny_pure ⟨_, rfl, wpAny_pure h⟩) htake))
end
end HT

namespace L2
open PySem PySem.Spec PyProof.Rows

/-! ### the parts of a slice -/
abbrev TO := St → Hp → (Option Int → Hp → Prop) → Prop
/-- a slice's part (left out, or an int) -/
def PO (X : Cx) (e : Option Expr) (t : TO) : Prop :=
  ∀ (pins : List (Addr × Obj)) (s : Shared) (σ : St) (H : Hp) (Q : Option Int → Hp → Prop), Inv X pins σ H s → t σ H Q →
    wpAny (model X.prog X.w) X.A (evalPart e X.env) (fun u s' => ∃ o H', Inv X pins σ H' s' ∧ IsPart u o ∧ Q o H') X.xe s
def tNoPart : TO := fun _ H Q => Q none H
def tPart (t : TE) : TO := fun σ H Q => t σ H fun x H1 => ∃ i, x = .int i ∧ Q (some i) H1

section
variable {X : Cx} {e : Expr} {te : TE} {lo hi : Option Expr} {tl th : TO} {pos p2 : Pos}

theorem po_none : PO X none tNoPart := by
  intro pins s σ H Q I h
  rw [evalPart_none]
  exact wpAny_pure ⟨none, H, I, .none, h⟩
theorem po_some (h : PE X e te) : PO X (some e) (tPart te) := by
  intro pins s σ H Q I hw
  rw [evalPart_some]
  refine thn (h pins s σ H _ I hw) fun u s1 ⟨x, H1, I1, r1, q1⟩ => ?_
  obtain ⟨i, rfl, q⟩ := q1
  obtain ⟨t, rfl⟩ := r1
  exact ⟨some i, H1, I1, .int i t, q⟩

/-- what a slice of a value is, by values: the slice object stands at sl -/
def SlR (X : Cx) (r : V → Option Int → Option Int → Hp → VK → Prop) : Prop :=
  ∀ (pins : List (Addr × Obj)) (s : Shared) (σ : St) (H : Hp) (x : V) (v vl vu : Value) (lo hi : Option Int) (sl : Addr) (Q : VK), Inv X pins σ H s → RelV x v → s.heap.IsSliceOf sl vl vu .none → IsPart vl lo → IsPart vu hi → r x lo hi H Q →
    ∃ T id, typeLookup (.type T) "__getitem__" = pure (some (.builtin id)) ∧ s.TypeIs v T ∧ wpAny (model X.prog X.w) X.A (getItem v (.ref sl)) (EP X pins σ Q) X.xe s
theorem SlR.or {r r' : V → Option Int → Option Int → Hp → VK → Prop} (h : SlR X r) (h' : SlR X r') : SlR X (fun x lo hi H Q => r x lo hi H Q ∨ r' x lo hi H Q) := by
  intro pins s σ H x v vl vu lo hi sl Q I rx hs pl pu q
  rcases q with q | q
  · exact h pins s σ H x v vl vu lo hi sl Q I rx hs pl pu q
  · exact h' pins s σ H x v vl vu lo hi sl Q I rx hs pl pu q
def tSl (r : V → Option Int → Option Int → Hp → VK → Prop) (te : TE) (tl th : TO) : TE := fun σ H Q => te σ H fun x H1 => tl σ H1 fun l H2 => th σ H2 fun u H3 => r x l u H3 Q
/-- a[lo:hi], any a -/
theorem pe_slice {r : V → Option Int → Option Int → Hp → VK → Prop} (hr : SlR X r) (he : PE X e te) (hl : PO X lo tl) (hu : PO X hi th) : PE X (.Subscript e (.Slice lo hi none p2) pos) (tSl r te tl th) := by
  intro pins s σ H Q I h
  refine Subscript_ (thn (he pins s σ H _ I h) fun v s1 ⟨x, H1, I1, r1, q1⟩ => ?_)
  refine wpAny_Slice (thn (hl pins s1 σ H1 _ I1 q1) fun vl s2 ⟨l, H2, I2, pl, q2⟩ => thn (hu pins s2 σ H2 _ I2 q2) fun vu s3 ⟨u, H3, I3, pu, q3⟩ => ?_)
  rw [evalPart_none]
  refine wpAny_pure ?_
  have I4 : Inv X pins σ H3 { s3 with heap := s3.heap.push { cls := .type "slice", data := .fields #[vl, vu, .none] } } := I3.kept (t' := s3.toks) fun b ob q => Heap.get?_push_of_some _ q
  obtain ⟨T, id, hT, ht, hg⟩ := hr pins { s3 with heap := s3.heap.push { cls := .type "slice", data := .fields #[vl, vu, .none] } } σ H3 x v vl vu l u s3.heap.objs.size Q I4 r1 (Heap.IsSliceOf.new ..) pl pu q3
  show wpAny (model X.prog X.w) X.A (subscriptTail e (.Slice lo hi none p2) v (.ref s3.heap.objs.size)) (EP X pins σ Q) X.xe { s3 with heap := s3.heap.push { cls := .type "slice", data := .fields #[vl, vu, .none] } }
  exact tail_any (ops := [.ref s3.heap.objs.size, v]) ht hT hg (by with_unfolding_all rfl)

/-- the items of xs[lo:hi] -/
def cutV (xs : List V) (lo hi : Option Int) : List V := (xs.drop (HT.sIx xs.length 0 lo)).take (HT.sIx xs.length xs.length hi - HT.sIx xs.length 0 lo)
theorem cutV_length (xs : List V) (lo hi : Option Int) : (cutV xs lo hi).length ≤ xs.length := by
  unfold cutV
  rw [List.length_take, List.length_drop]
  omega
/-- t[lo:hi], not the whole of it (the whole would be t itself) -/
def rSlT (K : PySem.W.Frag) : V → Option Int → Option Int → Hp → VK → Prop := fun x lo hi H Q => ∃ a xs, x = .ref a ∧ SqT K H a xs ∧
  ¬ (HT.sIx xs.length 0 lo = 0 ∧ HT.sIx xs.length xs.length hi = xs.length) ∧ ∀ p, H p = none → Q (.ref p) (upd H p (.tup (cutV xs lo hi)))
theorem sl_tup : SlR X (rSlT X.K) := by
  intro pins s σ H x v vl vu lo hi sl Q I rx hs pl pu h
  obtain ⟨a, xs, rfl, hx, hw, q⟩ := h
  cases rx
  obtain ⟨its, r, ht, hz⟩ := I.tuple hx
  have hlen : its.toArray.size = xs.length := by rw [List.size_toArray]; exact r.length.symm
  refine ⟨"tuple", _, PyProof.Rows.slot_tuple_getitem.lookup, ht.typeIs, ?_⟩
  refine HT.getItem_tuple_cut ht hs pl pu (by rw [hlen]; exact hw) ?_ (by rw [hlen]; exact hz)
  rw [hlen]
  refine ⟨.ref s.heap.objs.size, _, I.laid (t' := s.toks) (o := .tup (cutV xs lo hi)) (fun b ob q => Heap.get?_push_of_some _ q) (Nat.le_refl _) ?_, rfl, q _ (I.hok.fresh (Nat.le_refl _))⟩
  exact ⟨Nat.le_trans (cutV_length xs lo hi) hz, _, (r.drop (HT.sIx xs.length 0 lo)).take (HT.sIx xs.length xs.length hi - HT.sIx xs.length 0 lo), IsTup.new _ _⟩

/-! ### t < u, t + u -/
end
end L2

namespace L2
open PySem PySem.Spec PyProof.Rows

/-! ### places -/
/-- the place that an index of any sign means -/
def ixN (n : Nat) (i : Int) : Option Nat := if 0 ≤ i then (if i < n then some i.toNat else none) else if -(n : Int) ≤ i then some (i + n).toNat else none
def atI {α : Type} (xs : List α) (i : Int) : Option α := (ixN xs.length i).bind fun j => xs[j]?
theorem ixN_seq {n : Nat} {i : Int} {j : Nat} (h : ixN n i = some j) : seqIndex? i n = some j ∧ j < n ∧ -(n : Int) ≤ i ∧ i < n := by
  unfold ixN at h
  by_cases h0 : 0 ≤ i
  · rw [if_pos h0] at h
    by_cases h1 : i < n
    · rw [if_pos h1] at h
      have e : i.toNat = j := Option.some.inj h
      exact ⟨by rw [seqIndex_of h0 h1, e], by omega, by omega, h1⟩
    · rw [if_neg h1] at h; cases h
  · rw [if_neg h0] at h
    by_cases h1 : -(n : Int) ≤ i
    · rw [if_pos h1] at h
      have e : (i + n).toNat = j := Option.some.inj h
      exact ⟨by rw [seqIndex_neg (by omega) h1, e], by omega, h1, by omega⟩
    · rw [if_neg h1] at h; cases h
theorem atI_get {α : Type} {xs : List α} {i : Int} {v : α} (h : atI xs i = some v) : ∃ j, seqIndex? i xs.length = some j ∧ xs[j]? = some v ∧ j < xs.length ∧ -(xs.length : Int) ≤ i ∧ i < xs.length := by
  unfold atI at h
  cases e : ixN xs.length i with
  | none => rw [e] at h; cases h
  | some j =>
    rw [e] at h
    obtain ⟨h1, h2, h3, h4⟩ := ixN_seq e
    exact ⟨j, h1, h, h2, h3, h4⟩
theorem atI_last {α : Type} (xs : List α) (v : α) : atI (xs ++ [v]) (-1) = some v := by
  have hl : (xs ++ [v]).length = xs.length + 1 := by simp
  have e : ixN (xs ++ [v]).length (-1) = some xs.length := by
    unfold ixN
    rw [hl, if_neg (by decide), if_pos (by omega)]
    congr 1
    omega
  unfold atI
  rw [e]
  show (xs ++ [v])[xs.length]? = some v
  simp

/-! ### what may be subscripted -/
/-- what stands as an index of a plain subscript -/
def PlainIx (b : Expr) : Prop := ∀ o i, subscripted b false o i = operate [o, i] (getItem o i)
/-- a subscript by values -/
def IxR (X : Cx) (r : R2) : Prop :=
  ∀ (value slice : Expr) (pins : List (Addr × Obj)) (s : Shared) (σ : St) (H : Hp) (x y : V) (v u : Value) (Q : VK), Inv X pins σ H s → RelV x v → RelV y u → r x y H Q →
    subscripted slice false v u = operate [v, u] (getItem v u) → wpAny (model X.prog X.w) X.A (subscriptTail value slice v u) (EP X pins σ Q) X.xe s
/-- a call of a builtin's method by values: the receiver, the arguments -/
def MtR (X : Cx) (id : String) (r : V → List V → Hp → VK → Prop) : Prop :=
  ∀ (pins : List (Addr × Obj)) (s : Shared) (σ : St) (H : Hp) (x : V) (xs : List V) (v : Value) (us : List Value) (Q : VK), Inv X pins σ H s → RelV x v → Vals xs us → r x xs H Q →
    wpAny (model X.prog X.w) X.A (call (.builtin id) (v :: us)) (EP X pins σ Q) X.xe s
section
variable {X : Cx} {a b : Expr} {ta tb : TE} {pos : Pos}
theorem IxR.or {r r' : R2} (h : IxR X r) (h' : IxR X r') : IxR X (fun x y H Q => r x y H Q ∨ r' x y H Q) := by
  intro value slice pins s σ H x y v u Q I rx ry q hs
  rcases q with q | q
  · exact h value slice pins s σ H x y v u Q I rx ry q hs
  · exact h' value slice pins s σ H x y v u Q I rx ry q hs
theorem MtR.or {id : String} {r r' : V → List V → Hp → VK → Prop} (h : MtR X id r) (h' : MtR X id r') : MtR X id (fun x xs H Q => r x xs H Q ∨ r' x xs H Q) := by
  intro pins s σ H x xs v us Q I rx rs q
  rcases q with q | q
  · exact h pins s σ H x xs v us Q I rx rs q
  · exact h' pins s σ H x xs v us Q I rx rs q
/-- a[b] -/
theorem pe_ix {r : R2} (hr : IxR X r) (ha : PE X a ta) (hb : PE X b tb) (hs : PlainIx b) : PE X (.Subscript a b pos) (tOp r ta tb) := by
  intro pins s σ H Q I h
  exact Subscript_ (binT ha hb I h fun v u s2 x y H2 I2 rx ry q => hr a b pins s2 σ H2 x y v u Q I2 rx ry q (hs _ _))

def rIxL (K : PySem.W.Frag) : R2 := fun x y H Q => ∃ p xs i v, x = .ref p ∧ y = .int i ∧ SqL K H p xs ∧ atI xs i = some v ∧ Q v H
def rIxT (K : PySem.W.Frag) : R2 := fun x y H Q => ∃ p xs i v, x = .ref p ∧ y = .int i ∧ SqT K H p xs ∧ atI xs i = some v ∧ Q v H
def rIxS : R2 := fun x y H Q => ∃ z i c, x = .str z ∧ y = .int i ∧ z.length ≤ sizeLine ∧ atI z.cps.toList i = some c ∧ Q (.str ⟨#[c]⟩) H
theorem ix_list : IxR X (rIxL X.K) := by
  intro value slice pins s σ H x y v u Q I rx ry h hs
  obtain ⟨p, xs, i, z, rfl, rfl, hq, he, q⟩ := h
  cases rx
  obtain ⟨t, rfl⟩ := ry
  obtain ⟨its, r, pl, hz⟩ := I.list hq
  obtain ⟨j, h1, h2, h3, h4, h5⟩ := atI_get he
  obtain ⟨w, ew, rw'⟩ := r.get h2
  have hl := r.length
  have hn := line63
  have fin : EP X pins σ Q w s := ⟨z, H, I, rw', q⟩
  by_cases h0 : 0 ≤ i
  · have hj : i.toNat = j := by
      rw [seqIndex_of h0 h5] at h1
      exact Option.some.inj h1
    exact item_listR pl.isList h0 (by omega) (by rw [hj]; simpa using ew) fin hs
  · have hj : (i + (its.toArray.size : Int)).toNat = j := by
      rw [seqIndex_neg (by omega) h4] at h1
      rw [List.size_toArray, ← hl]
      exact Option.some.inj h1
    exact subscriptTail_builtinR (x := w) pl.isList.typeIs slot_list_getitem.lookup
      (wpAny_getItem_list_neg (Q := fun r s' => r = w ∧ EP X pins σ Q r s') pl.isList (by omega) (by rw [List.size_toArray] <;> omega) (by omega) (by rw [hj]; simpa using ew) ⟨rfl, fin⟩) hs
theorem ix_tup : IxR X (rIxT X.K) := by
  intro value slice pins s σ H x y v u Q I rx ry h hs
  obtain ⟨p, xs, i, z, rfl, rfl, hq, he, q⟩ := h
  cases rx
  obtain ⟨t, rfl⟩ := ry
  obtain ⟨its, r, pl, hz⟩ := I.tuple hq
  obtain ⟨j, h1, h2, h3, h4, h5⟩ := atI_get he
  obtain ⟨w, ew, rw'⟩ := r.get h2
  have hl := r.length
  have hn := line63
  have fin : EP X pins σ Q w s := ⟨z, H, I, rw', q⟩
  exact subscriptTail_builtinR (x := w) pl.typeIs slot_tuple_getitem.lookup
    (getItem_tuple (j := j) (Q := fun r s' => r = w ∧ EP X pins σ Q r s') pl (by omega) (by omega) (by rw [List.size_toArray, ← hl]; exact h1) (by simpa using ew) ⟨rfl, fin⟩) hs
theorem ix_str : IxR X rIxS := by
  intro value slice pins s σ H x y v u Q I rx ry h hs
  obtain ⟨z, i, c, rfl, rfl, hz, he, q⟩ := h
  obtain ⟨t, rfl⟩ := rx
  obtain ⟨t', rfl⟩ := ry
  obtain ⟨j, h1, h2, h3, h4, h5⟩ := atI_get he
  have hl : z.cps.toList.length = z.length := by simp [Str.length]
  rw [hl] at h1 h4 h5
  have hn := line63
  exact tail_any (typeIs_str s z t) slot_str_getitem.lookup (getItem_str (c := c) (by
    have e1 : decide (i < -(2 ^ 63 : Int)) = false := decide_eq_false (by omega)
    have e2 : decide (i ≥ 2 ^ 63) = false := decide_eq_false (by omega)
    rw [e1, e2, Bool.or_false]) (by rw [h1]; simpa using h2) ⟨.str ⟨#[c]⟩, H, I.tok _, ⟨_, rfl⟩, q⟩) hs
/-- list, tuple or str -/
def rIx (K : PySem.W.Frag) : R2 := fun x y H Q => rIxL K x y H Q ∨ rIxT K x y H Q ∨ rIxS x y H Q
theorem ix_seq : IxR X (rIx X.K) := ix_list.or (ix_tup.or ix_str)

/-! ### xs[i] = v, any sign -/
/-- the list's object behind a store -/
theorem mapSeq_set (its : List Value) (n j : Nat) (u : Value) : Obj.mapSeq (·.setIfInBounds j u) { cls := .type "list", data := .seq its.toArray n } = { cls := .type "list", data := .seq (its.set j u).toArray n } := by
  simp [Obj.mapSeq]
theorem Inv.lst {pins : List (Addr × Obj)} {σ : St} {H : Hp} {s : Shared} {p : Addr} {xs : List V} (I : Inv X pins σ H s) (h : H p = some (.lst xs)) :
    ∃ (its : List Value) (n : Nat), Vals xs its ∧ s.heap.get? p = some { cls := .type "list", data := .seq its.toArray n } ∧ xs.length ≤ sizeLine := by
  obtain ⟨z, its, n, r, e⟩ := I.hok p _ h
  exact ⟨its, n, r, e, z⟩
/-- the list at p is written by an update of its object -/
theorem Inv.lstUpd {pins : List (Addr × Obj)} {σ : St} {H : Hp} {s : Shared} {p : Addr} {xs ys : List V} {its its' : List Value} {n n' : Nat} {f : Obj → Obj} (I : Inv X pins σ H s) (h : H p = some (.lst xs))
    (ho : s.heap.get? p = some { cls := .type "list", data := .seq its.toArray n }) (hf : f { cls := .type "list", data := .seq its.toArray n } = { cls := .type "list", data := .seq its'.toArray n' }) (r : Vals ys its') (hz : ys.length ≤ sizeLine) (t : Nat) :
    Inv X pins σ (upd H p (.lst ys)) { s with heap := s.heap.update p f, toks := t } := by
  have e : (s.heap.update p f).get? p = some { cls := .type "list", data := .seq its'.toArray n' } := by
    rw [Heap.get?_update_self f ho (by rw [hf] <;> rfl), hf]
  refine I.write (x := p) (e := p) (by rw [h]; trivial) (.inl rfl) (fun b u hb q => (Heap.get?_update_other _ _ (Ne.symm hb)).trans q) ⟨_, e⟩ ?_
  exact ⟨hz, its', n', r, e⟩
def rSetL : V → V → V → Hp → (Hp → Prop) → Prop := fun o i v H Q => ∃ p xs k j, o = .ref p ∧ i = .int k ∧ H p = some (.lst xs) ∧ ixN xs.length k = some j ∧ Q (upd H p (.lst (xs.set j v)))
theorem set_list : PSet X rSetL := by
  intro pins s σ H o i v ov iv u Q I ro ri rv h
  obtain ⟨p, xs, k, j, rfl, rfl, hp, hj, q⟩ := h
  cases ro
  obtain ⟨t, rfl⟩ := ri
  obtain ⟨its, n, r, ho, hz⟩ := I.lst hp
  obtain ⟨h1, h2, h3, h4⟩ := ixN_seq hj
  have hl := r.length
  have hn := line63
  have I' : Inv X pins σ (upd H p (.lst (xs.set j v))) { s with heap := s.heap.update p (Obj.mapSeq (·.setIfInBounds j u)) } :=
    I.lstUpd hp ho (mapSeq_set its n j u) (r.set rv j) (by rw [List.length_set]; exact hz) s.toks
  by_cases h0 : 0 ≤ k
  · have hk : k.toNat = j := by
      rw [seqIndex_of h0 h4] at h1
      exact Option.some.inj h1
    exact PySem.W.ki_setAt ho h0 (by omega) (by rw [List.size_toArray, ← hl]; exact h4) (by rw [hk]; exact ⟨_, I', q⟩)
  · have hk : (k + (its.toArray.size : Int)).toNat = j := by
      rw [seqIndex_neg (by omega) h3] at h1
      rw [List.size_toArray, ← hl]
      exact Option.some.inj h1
    exact PySem.W.ki_setBack ho (by omega) (by rw [List.size_toArray, ← hl]; exact h3) (by omega) (by rw [hk]; exact ⟨_, I', q⟩)

/-! ### slices -/
theorem slice_bounds (lo hi : Option Int) (n : Nat) : (sliceBounds lo hi none n).1 = ((HT.sIx n 0 lo : Nat) : Int) ∧ (sliceBounds lo hi none n).2.1 = ((HT.sIx n n hi : Nat) : Int) ∧ (sliceBounds lo hi none n).2.2 = 1 := by
  refine ⟨?_, ?_, rfl⟩
  · cases lo with
    | none => simp [sliceBounds, HT.sIx]
    | some i =>
      simp only [sliceBounds, HT.sIx, Option.getD_none, show (1 : Int) > 0 by decide, if_true]
      by_cases h : i < 0
      · simp only [h, if_true] <;> omega
      · simp only [h, if_false] <;> omega
  · cases hi with
    | none => simp [sliceBounds, HT.sIx]
    | some i =>
      simp only [sliceBounds, HT.sIx, Option.getD_none, show (1 : Int) > 0 by decide, if_true]
      by_cases h : i < 0
      · simp only [h, if_true] <;> omega
      · simp only [h, if_false] <;> omega
theorem slicePick_cut (its : List Value) (lo hi : Option Int) : slicePick its.toArray lo hi none = ((its.drop (HT.sIx its.length 0 lo)).take (HT.sIx its.length its.length hi - HT.sIx its.length 0 lo)).toArray := by
  obtain ⟨h1, h2, h3⟩ := slice_bounds lo hi its.toArray.size
  unfold slicePick
  rw [h1, h2, h3]
  simp only [sliceRange_one, pick_run, List.size_toArray] <;> rfl
/-- xs[lo:hi] of a list: a new list -/
def rSlL (K : PySem.W.Frag) : V → Option Int → Option Int → Hp → VK → Prop := fun x lo hi H Q => ∃ a xs, x = .ref a ∧ SqL K H a xs ∧ ∀ p, H p = none → Q (.ref p) (upd H p (.lst (cutV xs lo hi)))
theorem sl_list : SlR X (rSlL X.K) := by
  intro pins s σ H x v vl vu lo hi sl Q I rx hs pl pu h
  obtain ⟨a, xs, rfl, hx, q⟩ := h
  cases rx
  obtain ⟨its, r, ht, hz⟩ := I.list hx
  have hlen := r.length
  refine ⟨"list", _, slot_list_getitem.lookup, ht.isList.typeIs, ?_⟩
  refine wpAny_getItem_list_slice ht.isList hs pl pu .none (by simp) ?_ (by rw [List.size_toArray] <;> omega)
  rw [slicePick_cut, ← hlen]
  refine ⟨.ref s.heap.objs.size, _, I.laid (t' := s.toks) (o := .lst (cutV xs lo hi)) (fun b ob q => Heap.get?_push_of_some _ q) (Nat.le_refl _) ?_, rfl, q _ (I.hok.fresh (Nat.le_refl _))⟩
  exact ⟨Nat.le_trans (cutV_length xs lo hi) hz, _, 0, (r.drop (HT.sIx xs.length 0 lo)).take (HT.sIx xs.length xs.length hi - HT.sIx xs.length 0 lo), Heap.get?_push_size _ rfl⟩

/-! ### in, not in: flat items -/
def flatV : V → Bool
  | .non => true
  | .bl _ => true
  | .int _ => true
  | .str _ => true
  | _ => false
/-- == of flat values -/
def eqV : V → V → Bool
  | .non, .non => true
  | .bl a, .bl b => a == b
  | .bl a, .int b => (if a then 1 else 0) == b
  | .int a, .bl b => a == (if b then 1 else 0)
  | .int a, .int b => a == b
  | .str a, .str b => a == b
  | _, _ => false
theorem eqAt_V {A : Around} {s : Shared} {y x : V} {u v : Value} (ry : RelV y u) (rx : RelV x v) (fy : flatV y = true) (fx : flatV x = true) : SeqAt.EqAt A s u v (eqV y x) := by
  cases y with
  | non =>
    cases ry
    cases x with
    | non => cases rx; exact SeqAt.EqAt.same _
    | bl b => cases rx; exact SeqAt.EqAt.none_bool b
    | int b => obtain ⟨t, rfl⟩ := rx; exact SeqAt.EqAt.none_int b t
    | str b => obtain ⟨t, rfl⟩ := rx; exact SeqAt.EqAt.none_str b t
    | _ => exact absurd (show false = true from fx) Bool.false_ne_true
  | bl a =>
    cases ry
    cases x with
    | non => cases rx; exact SeqAt.EqAt.bool_none a
    | bl b => cases rx; exact SeqAt.EqAt.bool_bool a b
    | int b => obtain ⟨t, rfl⟩ := rx; exact SeqAt.EqAt.bool_int a b t
    | str b => obtain ⟨t, rfl⟩ := rx; exact SeqAt.EqAt.bool_str a b t
    | _ => exact absurd (show false = true from fx) Bool.false_ne_true
  | int a =>
    obtain ⟨t', rfl⟩ := ry
    cases x with
    | non => cases rx; exact SeqAt.EqAt.int_none a t'
    | bl b => cases rx; exact SeqAt.EqAt.int_bool a t' b
    | int b => obtain ⟨t, rfl⟩ := rx; exact SeqAt.EqAt.int_int a t' b t
    | str b => obtain ⟨t, rfl⟩ := rx; exact SeqAt.EqAt.int_str a t' b t
    | _ => exact absurd (show false = true from fx) Bool.false_ne_true
  | str a =>
    obtain ⟨t', rfl⟩ := ry
    cases x with
    | non => cases rx; exact SeqAt.EqAt.str_none a t'
    | bl b => cases rx; exact SeqAt.EqAt.str_bool a t' b
    | int b => obtain ⟨t, rfl⟩ := rx; exact SeqAt.EqAt.str_int a t' b t
    | str b => obtain ⟨t, rfl⟩ := rx; exact SeqAt.EqAt.str_str a t' b t
    | _ => exact absurd (show false = true from fx) Bool.false_ne_true
  | _ => exact absurd (show false = true from fy) Bool.false_ne_true
/-! ### len, list(x), tuple(x) of any list or tuple that is read -/
theorem call_len_seq : CallR X (.builtin "len") (fun xs H Q => ∃ p ys, xs = [.ref p] ∧ (SqL X.K H p ys ∨ SqT X.K H p ys) ∧ Q (.int ys.length) H) := by
  intro pins s σ H xs us Q I r h
  obtain ⟨p, ys, rfl, hq, q⟩ := h
  obtain ⟨u, rfl, rx⟩ := vals1 r
  cases rx
  have hn := line63
  rcases hq with hq | hq
  · obtain ⟨its, r', pl, hz⟩ := I.list hq
    have hlen := r'.length
    exact Calls.call_len_list pl.isList (by simp only [List.size_toArray] <;> omega) ⟨.int ys.length, H, I.tok _, ⟨s.toks + 1, by rw [List.size_toArray, hlen]⟩, q⟩
  · obtain ⟨its, r', pl, hz⟩ := I.tuple hq
    have hlen := r'.length
    exact len_tuple pl (by simp only [List.size_toArray] <;> omega) ⟨.int ys.length, H, I.tok _, ⟨s.toks + 1, by rw [List.size_toArray, hlen]⟩, q⟩
theorem CallR.or {f : Value} {r r' : List V → Hp → VK → Prop} (h : CallR X f r) (h' : CallR X f r') : CallR X f (fun xs H Q => r xs H Q ∨ r' xs H Q) := by
  intro pins s σ H xs us Q I rs q
  rcases q with q | q
  · exact h pins s σ H xs us Q I rs q
  · exact h' pins s σ H xs us Q I rs q
theorem call_tuple_of : CallR X (.type "tuple") (fun xs H Q => ∃ p ys, xs = [.ref p] ∧ ((SqL X.K H p ys ∧ ∀ l, H l = none → Q (.ref l) (upd H l (.tup ys))) ∨ (SqT X.K H p ys ∧ Q (.ref p) H))) := by
  intro pins s σ H xs us Q I r h
  obtain ⟨p, ys, rfl, h⟩ := h
  obtain ⟨u, rfl, rx⟩ := vals1 r
  cases rx
  rcases h with ⟨hq, q⟩ | ⟨hq, q⟩
  · obtain ⟨its, r', pl, hz⟩ := I.list hq
    have hlen := r'.length
    refine call_tuple_list pl.isList (fun h' kp => ?_) (by simp only [List.size_toArray] <;> omega)
    have I1 : Inv X pins σ H { s with heap := h' } := I.kept (t' := s.toks) kp
    have I2 : Inv X pins σ (upd H h'.objs.size (.tup ys)) { s with heap := h'.push { cls := .type "tuple", data := .seq its.toArray } } :=
      I1.laid (t' := s.toks) (fun b o e => Heap.get?_push_of_some _ e) (Nat.le_refl _) (show ObjOk X.prog X.w _ _ _ (.tup ys) from ⟨hz, its, r', IsTup.new _ _⟩)
    exact ⟨.ref h'.objs.size, _, I2, rfl, q _ (I1.hok.fresh (Nat.le_refl _))⟩
  · obtain ⟨its, r', pl, hz⟩ := I.tuple hq
    exact call_tuple_same pl ⟨.ref p, H, I, rfl, q⟩

/-! ### the call of a builtin's method: o.m(..) -/
/-- the value is of that builtin type -/
def tyV (K : PySem.W.Frag) (T : String) (x : V) (H : Hp) : Prop := match x with
  | .str _ => T = "str"
  | .int _ => T = "int"
  | .ref p => (T = "list" ∧ ∃ xs, SqL K H p xs) ∨ (T = "tuple" ∧ ∃ o, K.lookup p = some o ∧ o.cls = .type "tuple" ∧ o.dict = none) ∨
      (T = "dict" ∧ ((∃ kvs, H p = some (.dK kvs)) ∨ ∃ kvs, H p = some (.dT kvs))) ∨ (T = "set" ∧ ∃ S n, H p = some (.set S n))
  | _ => False
theorem tyV_is {pins : List (Addr × Obj)} {σ : St} {H : Hp} {s : Shared} {T : String} {x : V} {v : Value} (I : Inv X pins σ H s) (r : RelV x v) (ty : tyV X.K T x H) :
    s.TypeIs v T ∧ ∀ a, v = .ref a → ∃ ob, s.heap.get? a = some ob ∧ ob.dict = none := by
  cases x with
  | str z =>
    obtain ⟨t, rfl⟩ := r
    cases (show T = "str" from ty)
    exact ⟨typeIs_str s z t, fun _ e => nomatch e⟩
  | int i =>
    obtain ⟨t, rfl⟩ := r
    cases (show T = "int" from ty)
    exact ⟨typeIs_int s i t, fun _ e => nomatch e⟩
  | ref p =>
    cases r
    rcases ty with ⟨rfl, xs, hq⟩ | ⟨rfl, o, hk, hc, hd⟩ | ⟨rfl, hk⟩ | ⟨rfl, S, n, hk⟩
    · obtain ⟨its, _, pl, _⟩ := I.list hq
      refine ⟨pl.isList.typeIs, fun a e => ?_⟩
      cases e
      obtain ⟨o, n, e, c, hd, _⟩ := pl
      exact ⟨o, e, hd⟩
    · refine ⟨⟨o, I.kIn p o hk, hc⟩, fun a e => ?_⟩
      cases e
      exact ⟨o, I.kIn _ o hk, hd⟩
    · have z : ∃ o, s.heap.get? p = some o ∧ o.ExactDict := by
        rcases hk with ⟨kvs, hk⟩ | ⟨kvs, hk⟩
        · obtain ⟨_, _, _, _, o, _, _, e, ex, _⟩ := I.hok p _ hk
          exact ⟨o, e, ex⟩
        · obtain ⟨_, _, _, _, o, _, _, e, ex, _⟩ := I.hok p _ hk
          exact ⟨o, e, ex⟩
      obtain ⟨o, e, ex⟩ := z
      refine ⟨⟨o, e, ex.1⟩, fun a e2 => ?_⟩
      cases e2
      exact ⟨o, e, ex.2.1⟩
    · obtain ⟨o, _, _, _, e, ex, _⟩ := I.hok p _ hk
      refine ⟨⟨o, e, ex.1⟩, fun a e2 => ?_⟩
      cases e2
      exact ⟨o, e, ex.2.1⟩
  | _ => exact False.elim ty
def tBM (K : PySem.W.Frag) (T : String) (r : V → List V → Hp → VK → Prop) (to : TE) (t : TA) : TE := fun σ H Q => to σ H fun x H1 => tyV K T x H1 ∧ t σ H1 fun xs H2 => r x xs H2 Q
variable {o e : Expr} {es : List Expr} {to : TE} {t : TA} {name : Str} {apos cpos : Pos} {T id : String} {r : V → List V → Hp → VK → Prop}
theorem pe_bm (pa : PlainAttrs T) (slot : Slot T name id) (hty : typeOf (.builtin id) = pure (.type "method_descriptor")) (hm : MtR X id r) (ho : PE X o to) (ha : PA X (e :: es) t)
    (hbase : attributeBase o name X.env (eval o X.env) = eval o X.env := by rfl)
    (hfew : ((backTo cpos (starEach (e :: es) X.env)).all (fun x => !x.1) && (backToKw cpos (keywordEach [] X.env)).all (fun x => x.1.isSome)
      && decide ((e :: es).length + ([] : List Keyword).length + (if ([] : List Keyword).isEmpty then 0 else 1) < 30)) = true := by rfl)
    (hline : (apos.endLine == cpos.line) = true := by rfl) (hs : starEach (e :: es) X.env = (false, eval e X.env) :: starEach es X.env := by rfl) (hplain : (backTo cpos (starEach es X.env)).any (·.1) = false := by rfl) :
    PE X (.Call (.Attribute o name apos) (e :: es) [] cpos) (tBM X.K T r to t) := by
  intro pins s σ H Q I h
  refine wpAny_Call_method_late hbase hfew hline rfl (thn (ho pins s σ H _ I h) fun v s1 ⟨x, H1, I1, r1, ty, q1⟩ => ?_)
  obtain ⟨h1, h2⟩ := tyV_is I1 r1 ty
  refine ⟨T, id, pa, slot, hty, h1, h2, ?_⟩
  have hA := ha cpos pins s1 σ H1 _ I1 q1
  rw [hs] at hA ⊢
  refine Calls.callWith_builtin (by show (false || (backTo cpos (starEach es X.env)).any (·.1)) = false; rw [hplain] <;> rfl) (Calls.evalArgs_plain ?_)
  exact thn hA fun us s2 ⟨vs, H2, I2, r2, q2⟩ => hm pins s2 σ H2 x vs v us Q I2 r1 r2 q2
/- xs.append(e), list.index on a module's tuple .. are MtR facts of 06m -/
end
end L2

namespace L2
open PySem PySem.Spec PyProof.Rows

def MtM (X : Cx) (id : String) (r : V → List V → Hp → VK → Prop) : Prop :=
  ∀ (pins : List (Addr × Obj)) (s : Shared) (σ : St) (H : Hp) (x : V) (xs : List V) (v : Value) (us : List Value) (Q : VK), Inv X pins σ H s → RelV x v → Vals xs us → r x xs H Q →
    wpAny (model X.prog X.w) X.A (call (.builtin id) (v :: us)) (EP X pins σ Q) X.xe s

/-! ### lists of values -/
theorem Vals.one : ∀ {x : V} {us : List Value}, Vals [x] us → ∃ u, us = [u] ∧ RelV x u
  | _, _, .cons r .nil => ⟨_, rfl, r⟩
theorem Vals.two : ∀ {x y : V} {us : List Value}, Vals [x, y] us → ∃ u v, us = [u, v] ∧ RelV x u ∧ RelV y v
  | _, _, _, .cons r (.cons q .nil) => ⟨_, _, rfl, r, q⟩
theorem Vals.zero : ∀ {us : List Value}, Vals [] us → us = []
  | _, .nil => rfl
theorem Vals.dropLast {xs : List V} {us : List Value} (h : Vals xs us) : Vals xs.dropLast us.dropLast := by
  induction h with
  | nil => exact .nil
  | cons r t ih =>
    cases t with
    | nil => exact .nil
    | cons q t' => exact .cons r ih
theorem Vals.eraseIdx : ∀ {xs : List V} {us : List Value} (i : Nat), Vals xs us → Vals (xs.eraseIdx i) (us.eraseIdx i)
  | _, _, _, .nil => .nil
  | _, _, 0, .cons _ t => t
  | _, _, i + 1, .cons r t => .cons r (Vals.eraseIdx i t)
theorem Vals.reverse {xs : List V} {us : List Value} (h : Vals xs us) : Vals xs.reverse us.reverse := by
  induction h with
  | nil => exact .nil
  | cons r t ih => rw [List.reverse_cons, List.reverse_cons]; exact Vals.append ih (.cons r .nil)
theorem Vals.rep {xs : List V} {us : List Value} (h : Vals xs us) : ∀ k : Nat, Vals (List.replicate k xs).flatten (List.replicate k us).flatten
  | 0 => .nil
  | k + 1 => by
    rw [List.replicate_succ, List.replicate_succ, List.flatten_cons, List.flatten_cons]
    exact Vals.append h (Vals.rep h k)
section
variable {X : Cx} {pins : List (Addr × Obj)} {σ : St} {H : Hp} {s : Shared} {l b : Addr} {xs ys zs : List V}

/-! ### the two steps: a tracked list is rewritten, a new list is laid -/
theorem Inv.lset {its its' : List Value} {n : Nat} {f : Array Value → Array Value} {t' : Nat} (I : Inv X pins σ H s) (hH : H l = some (.lst xs))
    (e : s.heap.get? l = some { cls := .type "list", data := .seq its.toArray n }) (hf : f its.toArray = its'.toArray) (hv : Vals ys its') (hz : ys.length ≤ sizeLine) :
    Inv X pins σ (upd H l (.lst ys)) { s with heap := s.heap.update l (Obj.mapSeq f), toks := t' } := by
  have q := PySem.IsL.update e f
  rw [hf] at q
  refine I.write (x := l) (e := l) (by rw [hH]; exact trivial) (.inl rfl) (fun b' u hb hu => (Heap.get?_update_other s.heap (Obj.mapSeq f) (Ne.symm hb)).trans hu) ⟨_, q⟩ ?_
  exact ⟨hz, its', _, hv, q⟩
theorem Inv.lnew {its : List Value} {t' : Nat} (I : Inv X pins σ H s) (hv : Vals ys its) (hz : ys.length ≤ sizeLine) :
    Inv X pins σ (upd H s.heap.objs.size (.lst ys)) { s with heap := s.heap.push { cls := .type "list", data := .seq its.toArray }, toks := t' } :=
  I.laid (fun _ _ q => Heap.get?_push_of_some _ q) (Nat.le_refl _) ⟨hz, its, 0, hv, Heap.get?_push_size _ rfl⟩
theorem Inv.fresh (I : Inv X pins σ H s) : H s.heap.objs.size = none := I.hok.fresh (Nat.le_refl _)
theorem Inv.lstM (I : Inv X pins σ H s) (hH : H l = some (.lst xs)) : xs.length ≤ sizeLine ∧ ∃ (its : List Value) (n : Nat), Vals xs its ∧ xs.length = its.length ∧ s.heap.get? l = some { cls := .type "list", data := .seq its.toArray n } := by
  obtain ⟨z, its, n, r, e⟩ := I.hok l _ hH
  exact ⟨z, its, n, r, r.length, e⟩

end

section
variable {X : Cx}

/-! ### methods -/
def rAppend : V → List V → Hp → VK → Prop := fun x vs H Q => ∃ l xs y, x = .ref l ∧ vs = [y] ∧ H l = some (.lst xs) ∧ xs.length < sizeLine ∧ Q .non (upd H l (.lst (xs ++ [y])))
theorem mt_append : MtM X "list.append" rAppend := by
  intro pins s σ H x vs v us Q I rx rv h
  obtain ⟨l, xs, y, rfl, rfl, hH, hz, q⟩ := h
  cases rx
  obtain ⟨u, rfl, ru⟩ := rv.one
  obtain ⟨z, its, n, r, hl, e⟩ := I.lstM hH
  refine call_meets F.slot_list_append ⟨_, e, rfl⟩ F.entry_list_append (F.args_list_append_2 _ _) (PySem.list_append l its.toArray n u (by rw [List.size_toArray]; omega)) ⟨e, ?_⟩
  refine ⟨.non, _, I.lset (its' := its ++ [u]) hH e (by simp) (r.append (.cons ru .nil)) ?_, rfl, q⟩
  rw [List.length_append, List.length_singleton]
  omega

/-! ### list + list, list += list, list * int -/
def rCat : R2 := fun x y H Q => ∃ l b xs zs, x = .ref l ∧ y = .ref b ∧ H l = some (.lst xs) ∧ H b = some (.lst zs) ∧ xs.length + zs.length ≤ sizeLine ∧ ∀ p, H p = none → Q (.ref p) (upd H p (.lst (xs ++ zs)))
theorem op_cat : OpR X (binaryOp .Add) rCat := by
  intro pins s σ H x y v u Q I rx ry h
  obtain ⟨l, b, xs, zs, rfl, rfl, hH, hB, hz, q⟩ := h
  cases rx
  cases ry
  obtain ⟨z, its, n, r, hl, e⟩ := I.lstM hH
  obtain ⟨z2, its2, n2, r2, hl2, e2⟩ := I.lstM hB
  refine PySem.P.add_list e e2 ?_ (by rw [List.size_toArray, List.size_toArray]; omega)
  have ea : its.toArray ++ its2.toArray = (its ++ its2).toArray := by simp
  rw [ea]
  exact ⟨.ref _, _, I.lnew (t' := s.toks) (r.append r2) (by rw [List.length_append]; omega), rfl, q _ I.fresh⟩
/-! ### del xs[i] -/
end

/-! ### xs[a:b] = ys -/
section
variable {prog : Program} {w : World} {A : Around} {E : Value → Shared → Prop} {s : Shared}
set_option maxRecDepth 100000 in
end

section
variable {X : Cx}
end
end L2


namespace L2
open PySem PySem.Spec PyProof.Rows

/-! ### lists of pairs as tables -/
section
variable {κ : Type} [DecidableEq κ]
def valV (kvs : List (κ × V)) (k : κ) : Option V := (kvs.find? fun kv => decide (kv.1 = k)).map (·.2)
/-- in its place, or at the end -/
def putK (kvs : List (κ × V)) (k : κ) (v : V) : List (κ × V) :=
  if (kvs.any fun kv => decide (kv.1 = k)) = true then kvs.map (fun kv => if kv.1 = k then (kv.1, v) else kv) else kvs ++ [(k, v)]
def dropK (kvs : List (κ × V)) (k : κ) : List (κ × V) := kvs.filter fun kv => decide (kv.1 ≠ k)

theorem valV_pos {p : κ × V} {r : List (κ × V)} {k : κ} (e : p.1 = k) : valV (p :: r) k = some p.2 := by simp [valV, List.find?_cons, e]
theorem valV_neg {p : κ × V} {r : List (κ × V)} {k : κ} (e : ¬ p.1 = k) : valV (p :: r) k = valV r k := by simp [valV, List.find?_cons, e]
theorem valV_any (k : κ) : ∀ kvs : List (κ × V), (kvs.any fun kv => decide (kv.1 = k)) = (valV kvs k).isSome
  | [] => rfl
  | p :: r => by
    rw [List.any_cons]
    by_cases e : p.1 = k
    · simp only [valV_pos e, decide_eq_true e, Bool.true_or, Option.isSome_some]
    · rw [valV_neg e, decide_eq_false e, Bool.false_or]; exact valV_any k r
theorem length_putK (kvs : List (κ × V)) (k : κ) (v : V) : (putK kvs k v).length ≤ kvs.length + 1 := by
  unfold putK
  split
  · rw [List.length_map]; omega
  · rw [List.length_append, List.length_cons, List.length_nil]; omega
theorem RelO.isSome_eq {o : Option V} {u : Option Value} (r : RelO o u) : o.isSome = u.isSome := by
  cases o with
  | none => cases u with
    | none => rfl
    | some _ => exact (show False from r).elim
  | some _ => cases u with
    | none => exact (show False from r).elim
    | some _ => rfl
theorem RelO.getD {o : Option V} {u : Option Value} {d : V} {d' : Value} (r : RelO o u) (rd : RelV d d') : RelV (o.getD d) (u.getD d') := by
  cases o with
  | none => cases u with
    | none => exact rd
    | some _ => exact (show False from r).elim
  | some _ => cases u with
    | none => exact (show False from r).elim
    | some _ => exact r

/-- raw tables of the same keys -/
theorem KV.val {kvs : List (κ × V)} {vs : List (κ × Value)} (r : KV kvs vs) (k : κ) : RelO (valV kvs k) (valueAt vs k) := by
  unfold KV at r
  induction r with
  | nil => exact True.intro
  | @cons p q ps qs h t ih =>
    obtain ⟨h1, h2⟩ := h
    by_cases e : p.1 = k
    · have e' : q.1 = k := h1.symm.trans e
      have b : valueAt (q :: qs) k = some q.2 := by simp [valueAt, List.find?_cons, e']
      rw [valV_pos e, b]; exact h2
    · have e' : ¬ q.1 = k := fun z => e (h1.trans z)
      have b : valueAt (q :: qs) k = valueAt qs k := by simp [valueAt, List.find?_cons, e']
      rw [valV_neg e, b]; exact ih
theorem KV.any {kvs : List (κ × V)} {vs : List (κ × Value)} (r : KV kvs vs) (k : κ) : (kvs.any fun kv => decide (kv.1 = k)) = vs.any fun kv => decide (kv.1 = k) := by
  unfold KV at r
  induction r with
  | nil => rfl
  | cons h t ih => rw [List.any_cons, List.any_cons, ih, h.1]
theorem KV.repl {kvs : List (κ × V)} {vs : List (κ × Value)} (r : KV kvs vs) (k : κ) {y : V} {u : Value} (ry : RelV y u) :
    KV (kvs.map fun kv => if kv.1 = k then (kv.1, y) else kv) (vs.map fun kv => if kv.1 = k then (kv.1, u) else kv) := by
  unfold KV at r ⊢
  induction r with
  | nil => exact .nil
  | @cons p q ps qs h t ih =>
    rw [List.map_cons, List.map_cons]
    refine .cons ?_ ih
    obtain ⟨h1, h2⟩ := h
    by_cases e : p.1 = k
    · rw [if_pos e, if_pos (h1.symm.trans e)]; exact ⟨h1, ry⟩
    · rw [if_neg e, if_neg (fun z => e (h1.trans z))]; exact ⟨h1, h2⟩
theorem KV.put {kvs : List (κ × V)} {vs : List (κ × Value)} (r : KV kvs vs) (k : κ) {y : V} {u : Value} (ry : RelV y u) : KV (putK kvs k y) (stored vs k u) := by
  unfold putK stored
  rw [r.any k]
  by_cases e : (vs.any fun kv => decide (kv.1 = k)) = true
  · rw [if_pos e, if_pos e]; exact r.repl k ry
  · rw [if_neg e, if_neg e]; exact Paired.snoc r ⟨rfl, ry⟩
theorem KV.drop {kvs : List (κ × V)} {vs : List (κ × Value)} (r : KV kvs vs) (k : κ) : KV (dropK kvs k) (without vs k) := by
  unfold KV at r ⊢
  unfold dropK without
  induction r with
  | nil => exact .nil
  | @cons p q ps qs h t ih =>
    obtain ⟨h1, h2⟩ := h
    rw [List.filter_cons, List.filter_cons]
    by_cases e : p.1 = k
    · have a : ¬ decide (p.1 ≠ k) = true := by simp [e]
      have b : ¬ decide (q.1 ≠ k) = true := by simp [h1.symm.trans e]
      rw [if_neg a, if_neg b]; exact ih
    · have e' : ¬ q.1 = k := fun z => e (h1.trans z)
      have a : decide (p.1 ≠ k) = true := by simp [e]
      have b : decide (q.1 ≠ k) = true := by simp [e']
      rw [if_pos a, if_pos b]; exact .cons ⟨h1, h2⟩ ih
theorem KV.keys {kvs : List (κ × V)} {vs : List (κ × Value)} (r : KV kvs vs) : kvs.map (·.1) = vs.map (·.1) := by
  unfold KV at r
  induction r with
  | nil => rfl
  | cons h t ih => rw [List.map_cons, List.map_cons, ih, h.1]
theorem KV.length {kvs : List (κ × V)} {vs : List (κ × Value)} (r : KV kvs vs) : kvs.length = vs.length := Paired.length r
end


/-! ### a tracked dict, its keys ints and texts or tuples of these -/
theorem kV_is {P : Program} {w : World} {k : Key} {u : Value} (r : RelV (kV k) u) : (mixKind P w).is k u = true := by
  cases k with
  | inl i => obtain ⟨t, e⟩ := (show ∃ t, u = Value.int i t from r); subst e; exact mixKind_int P w i t
  | inr x => obtain ⟨t, e⟩ := (show ∃ t, u = Value.str x t from r); subst e; exact mixKind_str P w x t
theorem items_are {P : Program} {w : World} : ∀ {ks : List Key} {us : List Value}, Vals (ks.map kV) us → ItemsAre (mixKind P w) ks us
  | [], _, r => by rw [List.map_nil] at r; cases r; exact .nil
  | k :: ks, _, r => by
    rw [List.map_cons] at r
    cases r with
    | cons h t => exact .cons (kV_is h) (items_are t)

/-- raw entries of a dict with tuple keys -/
abbrev KT (H : Hp) : List (List Key × V) → List (List Key × Addr × Value) → Prop := Paired fun p q => p.1 = q.1 ∧ H q.2.1 = some (.tup (p.1.map kV)) ∧ RelV p.2 q.2.2
theorem KT.val {H : Hp} {kvs : List (List Key × V)} {xs : List (List Key × Addr × Value)} (r : KT H kvs xs) (k : List Key) : RelO (valV kvs k) ((atKey xs k).map (·.2)) := by
  induction r with
  | nil => exact True.intro
  | @cons p q ps qs h t ih =>
    obtain ⟨h1, _, h2⟩ := h
    by_cases e : p.1 = k
    · have e' : q.1 = k := h1.symm.trans e
      have b : atKey (q :: qs) k = some q.2 := by simp [atKey, List.find?_cons, e']
      rw [valV_pos e, b]; exact h2
    · have e' : ¬ q.1 = k := fun z => e (h1.trans z)
      have b : atKey (q :: qs) k = atKey qs k := by simp [atKey, List.find?_cons, e']
      rw [valV_neg e, b]; exact ih
theorem KT.repl {H : Hp} {kvs : List (List Key × V)} {xs : List (List Key × Addr × Value)} (r : KT H kvs xs) (k : List Key) {y : V} {u : Value} (ry : RelV y u) :
    KT H (kvs.map fun kv => if kv.1 = k then (kv.1, y) else kv) (xs.map (putAt k u)) := by
  induction r with
  | nil => exact .nil
  | @cons p q ps qs h t ih =>
    rw [List.map_cons, List.map_cons]
    refine .cons ?_ ih
    obtain ⟨h1, h2, h3⟩ := h
    unfold putAt
    by_cases e : p.1 = k
    · rw [if_pos e, if_pos (h1.symm.trans e)]; exact ⟨h1, h2, ry⟩
    · rw [if_neg e, if_neg (fun z => e (h1.trans z))]; exact ⟨h1, h2, h3⟩
theorem KT.put {H : Hp} {kvs : List (List Key × V)} {xs : List (List Key × Addr × Value)} (r : KT H kvs xs) (k : List Key) {b : Addr} {y : V} {u : Value} (hb : H b = some (.tup (k.map kV))) (ry : RelV y u) :
    KT H (putK kvs k y) (storedH xs k b u) := by
  have e : (kvs.any fun kv => decide (kv.1 = k)) = (atKey xs k).isSome := by
    rw [valV_any, (r.val k).isSome_eq, Option.isSome_map]
  unfold putK storedH
  rw [e]
  by_cases q : (atKey xs k).isSome = true
  · rw [if_pos q, if_pos q]; exact r.repl k ry
  · rw [if_neg q, if_neg q]; exact Paired.snoc r ⟨rfl, hb, ry⟩
theorem KT.keeps {H H' : Hp} {kvs : List (List Key × V)} {xs : List (List Key × Addr × Value)} (r : KT H kvs xs) (ht : ∀ b ys, H b = some (.tup ys) → H' b = some (.tup ys)) : KT H' kvs xs :=
  Paired.mapP r fun _ _ z => ⟨z.1, ht _ _ z.2.1, z.2.2⟩

section
variable {P : Program} {w : World} {H : Hp} {h : Heap} {a : Addr}
theorem rd_of {u : HO} (ok : HOk P w H h) (e : Rd H a u) : ObjOk P w H h a u := e.ok ok
theorem dk_rd {kvs : List (Key × V)} (ok : HOk P w H h) (e : Rd H a (.dK kvs)) : kvs.length ≤ sizeLine ∧ (a == sysModules) = false ∧ ∃ vs, KV kvs vs ∧ h.DictOf (mixKind P w) a vs :=
  show ObjOk P w H h a (.dK kvs) from rd_of ok e
theorem dk_of {kvs : List (Key × V)} (ok : HOk P w H h) (e : H a = some (.dK kvs)) : kvs.length ≤ sizeLine ∧ (a == sysModules) = false ∧ ∃ vs, KV kvs vs ∧ h.DictOf (mixKind P w) a vs := dk_rd ok (.inl e)
/-- a tracked tuple of ints and texts is a key -/
theorem key_of {ks : List Key} (ok : HOk P w H h) (e : H a = some (.tup (ks.map kV))) : (tupleKind (mixKind P w)).is h ks a := by
  obtain ⟨_, its, r, o, h1, h2, n, h3⟩ := (show ObjOk P w H h a (.tup (ks.map kV)) from ok a _ e)
  exact ⟨o, its.toArray, n, h1, h2, h3, by simpa using items_are r⟩
theorem dt_rd {kvs : List (List Key × V)} (ok : HOk P w H h) (e : Rd H a (.dT kvs)) : kvs.length ≤ sizeLine ∧ (a == sysModules) = false ∧
    ∃ xs, KT H kvs xs ∧ h.DictOfH (tupleKind (mixKind P w)) a xs := by
  obtain ⟨z, y, xs, r, o, es, ep, h1, h2, h3, h4, h5⟩ := (show ObjOk P w H h a (.dT kvs) from rd_of ok e)
  refine ⟨z, y, xs, r, o, es, ep, h1, h2, h3, h4, fun x hx => ?_, h5⟩
  have all : ∀ {l : List (List Key × V)} {m : List (List Key × Addr × Value)}, KT H l m → ∀ x ∈ m, (tupleKind (mixKind P w)).is h x.1 x.2.1 := by
    intro l m q
    induction q with
    | nil => intro x hx; exact nomatch hx
    | @cons p q ps qs hq t ih =>
      intro x hx
      rcases List.mem_cons.mp hx with e | hx
      · subst e
        exact key_of ok (by rw [← hq.1]; exact hq.2.1)
      · exact ih x hx
  exact all r x hx
theorem dt_of {kvs : List (List Key × V)} (ok : HOk P w H h) (e : H a = some (.dT kvs)) : kvs.length ≤ sizeLine ∧ (a == sysModules) = false ∧
    ∃ xs, KT H kvs xs ∧ h.DictOfH (tupleKind (mixKind P w)) a xs := dt_rd ok (.inl e)
end

/-- what the dict at a holds at the key y -/
def DGet (H : Hp) (a : Addr) (y : V) (r : Option V) : Prop :=
  (∃ kvs k, Rd H a (.dK kvs) ∧ y = kV k ∧ r = valV kvs k) ∨ ∃ kvs k b, Rd H a (.dT kvs) ∧ y = .ref b ∧ H b = some (.tup (k.map kV)) ∧ r = valV kvs k
/-- the heap behind a[y] = v -/
def DPut (H : Hp) (a : Addr) (y v : V) (H' : Hp) : Prop :=
  (∃ kvs k, H a = some (.dK kvs) ∧ y = kV k ∧ kvs.length < sizeLine ∧ H' = upd H a (.dK (putK kvs k v))) ∨
  ∃ kvs k b, H a = some (.dT kvs) ∧ y = .ref b ∧ H b = some (.tup (k.map kV)) ∧ kvs.length < sizeLine ∧ H' = upd H a (.dT (putK kvs k v))
theorem DGet.k {H : Hp} {a : Addr} {kvs : List (Key × V)} {k : Key} (e : H a = some (.dK kvs)) : DGet H a (kV k) (valV kvs k) := .inl ⟨kvs, k, .inl e, rfl, rfl⟩
theorem DGet.t {H : Hp} {a b : Addr} {kvs : List (List Key × V)} {k : List Key} (e : H a = some (.dT kvs)) (eb : H b = some (.tup (k.map kV))) : DGet H a (.ref b) (valV kvs k) := .inr ⟨kvs, k, b, .inl e, rfl, eb, rfl⟩
theorem DPut.k {H : Hp} {a : Addr} {kvs : List (Key × V)} {k : Key} {v : V} (e : H a = some (.dK kvs)) (hl : kvs.length < sizeLine) : DPut H a (kV k) v (upd H a (.dK (putK kvs k v))) := .inl ⟨kvs, k, e, rfl, hl, rfl⟩
theorem DPut.t {H : Hp} {a b : Addr} {kvs : List (List Key × V)} {k : List Key} {v : V} (e : H a = some (.dT kvs)) (eb : H b = some (.tup (k.map kV))) (hl : kvs.length < sizeLine) :
    DPut H a (.ref b) v (upd H a (.dT (putK kvs k v))) := .inr ⟨kvs, k, b, e, rfl, eb, hl, rfl⟩


section
variable {X : Cx} {pins : List (Addr × Obj)} {σ : St} {H : Hp} {s : Shared} {a : Addr} {y v : V} {u r : Value} {o : Option V} {A : Around} {E : Value → Shared → Prop}

theorem Inv.big (I : Inv X pins σ H s) : sysModules < s.heap.objs.size := by
  have h : mainGlobals < s.heap.objs.size := (I.mod.glob.keeps I.bk).lt
  exact Nat.lt_trans (by decide) h

/-- a dict's object is replaced -/
theorem d_write {h' : Heap} {t' : Nat} {ob : HO} (I : Inv X pins σ H s) (mu : Mut (H a)) (hs : Heap.SameBut a s.heap h') (he : ∃ q, h'.get? a = some q) (new : ObjOk X.prog X.w (upd H a ob) h' a ob) :
    Inv X pins σ (upd H a ob) { s with heap := h', toks := t' } :=
  I.write (x := a) (e := a) mu (.inl rfl) (fun b q hb z => (hs.2 b hb).trans z) he new
theorem dk_new {P : Program} {w : World} {H' : Hp} {h' : Heap} {kvs : List (Key × V)} {vs : List (Key × Value)} (z : kvs.length ≤ sizeLine) (hd : (a == sysModules) = false) (rel : KV kvs vs) (dd : h'.DictOf (mixKind P w) a vs) :
    ObjOk P w H' h' a (.dK kvs) := ⟨z, hd, vs, rel, dd⟩
/-- d[y] = v -/
theorem d_setItem {H' : Hp} {Q : Unit → Shared → Prop} (hu : A.units + 1 < cLine) (I : Inv X pins σ H s) (g : DPut H a y v H') (ry : RelV y u) (rv : RelV v r) (h : ∀ s', Inv X pins σ H' s' → Q () s') :
    wpAny (model X.prog X.w) A (setItem (.ref a) u r) Q E s := by
  rcases g with ⟨kvs, k, e, ey, l, eH⟩ | ⟨kvs, k, b, e, ey, eb, l, eH⟩
  · subst ey eH
    obtain ⟨z, hd, vs, rel, dd⟩ := dk_of I.hok e
    have hz : vs.length ≤ sizeLine := by rw [← rel.length]; exact z
    have hl : (putK kvs k v).length ≤ sizeLine := by have := length_putK kvs k v; omega
    refine wpAny_setItem_pairs (hsz := hz) (kV_is ry) dd fun h' dd' hs => h _ ?_
    have he : ∃ q, h'.get? a = some q := let ⟨q, _, _, hq, _⟩ := dd'; ⟨q, hq⟩
    exact d_write I (by rw [e]; exact True.intro) hs he (dk_new hl hd (rel.put k rv) dd')
  · subst ey eH
    cases (show u = Value.ref b from ry)
    obtain ⟨z, hd, xs, rel, dd⟩ := dt_of I.hok e
    have hz : xs.length ≤ sizeLine := by rw [← Paired.length rel]; exact z
    have hl : (putK kvs k v).length ≤ sizeLine := by have := length_putK kvs k v; omega
    refine wpAny_setItem_heap (hsz := hz) (tupleKind_room_in1 hu) (key_of I.hok eb) dd fun h' dd' hs => h _ ?_
    obtain ⟨q, es, ep, hq, h2, h3, h4, _, h5⟩ := dd'
    refine d_write I (by rw [e]; exact True.intro) hs ⟨q, hq⟩ ⟨hl, hd, _, (rel.put k eb rv).keeps fun c ys ec => ?_, q, es, ep, hq, h2, h3, h4, h5⟩
    rw [upd_ne (ne_of ec e (fun z => nomatch z))]
    exact ec
end

section
variable {X : Cx} {pins : List (Addr × Obj)} {σ : St} {H : Hp} {s : Shared} {a : Addr} {kvs : List (Key × V)} {k : Key} {u : Value} {A : Around} {E : Value → Shared → Prop}
end


/-! ### readings and rules -/
/-- d[y] = v -/
def sDPut (td ty tv : TE) : TS := fun D σ H => tv σ H fun v H1 => td σ H1 fun x H2 => ty σ H2 fun y H3 => ∃ a H4, x = .ref a ∧ DPut H3 a y v H4 ∧ D.nx σ H4
section
variable {X : Cx} {o i e value : Expr} {pos pos' tpos : Pos} {td ty tv : TE}
theorem ps_dput (hu : X.A.units + 1 < cLine) (ho : PE X o td) (hi : PE X i ty) (hv : PE X value tv) (hs : swapsWith value (some (.Subscript o i pos')) pos.line X.env = pure false) :
    PS X (.Assign [.Subscript o i pos'] value pos) (sDPut td ty tv) := by
  intro pins s σ H D I h
  refine wpAny_Assign_Subscript (thn (hv pins s σ H _ I h) fun r s1 ⟨v, H1, I1, rv, q1⟩ => thn (ho pins s1 σ H1 _ I1 q1) fun u s2 ⟨x, H2, I2, rx, q2⟩ => thn (hi pins s2 σ H2 _ I2 q2) fun iv s3 ⟨y, H3, I3, ry, a, H4, ex, g, q3⟩ => ?_) hs
  subst ex
  obtain rfl : u = Value.ref a := rx
  exact d_setItem hu I3 g ry rv fun s4 I4 => ⟨σ, H4, I4, q3⟩
end


/-! ### displays -/
theorem dk_empty {P : Program} {w : World} {H : Hp} (h : Heap) (hb : sysModules < h.objs.size) : ObjOk P w H (h.push { cls := .type "dict", data := .dict #[] }) h.objs.size (.dK []) :=
  ⟨Nat.zero_le _, beq_eq_false_iff_ne.mpr (Ne.symm (Nat.ne_of_lt hb)), [], .nil, Heap.DictOf.new h⟩
/-- {}, to be a dict of the kind that is wanted -/
def tDNewK : TE := fun _ H Q => ∀ p, H p = none → Q (.ref p) (upd H p (.dK []))
section
variable {X : Cx} {pos : Pos}
theorem pe_dnewK : PE X (.Dict [] [] pos) tDNewK := fun pins s σ H Q I h =>
  wpAny_Dict_empty ⟨.ref s.heap.objs.size, _, I.laid (a := s.heap.objs.size) (o := .dK []) (t' := s.toks) (fun _ _ q => Heap.get?_push_of_some _ q) (Nat.le_refl _) (dk_empty s.heap I.big), rfl, h _ (I.hok.fresh (Nat.le_refl _))⟩
end

/-! ### methods -/
section
variable {X : Cx} {pins : List (Addr × Obj)} {σ : St} {H : Hp} {s : Shared} {a : Addr} {y d : V} {u r : Value} {o : Option V} {A : Around} {E : Value → Shared → Prop}
end

section
variable {X : Cx} {o e f : Expr} {apos cpos : Pos} {td ty tx : TE}
end

/-! ### dict(d): a copy -/
section
variable {X : Cx} {pins : List (Addr × Obj)} {σ : St} {H : Hp} {s : Shared} {a : Addr} {kvs : List (Key × V)} {A : Around} {E : Value → Shared → Prop}
end


section
variable {X : Cx} {pins : List (Addr × Obj)} {σ : St} {H : Hp} {s : Shared} {a : Addr} {y : V} {u : Value} {A : Around} {E : Value → Shared → Prop}
end
end L2

namespace Att
open PySem PySem.W PySem.Calls PyProof.Rows

/-! ### the script -/
theorem ints_of_wellAll {P : Params} {h : Heap} : ∀ (ns : List Int) (vs : List Value), WellAll P h vs (ns.map WData.int) → IntsAre vs ns := by
  intro ns
  induction ns with
  | nil =>
    intro vs w
    rw [List.map_nil] at w
    cases w
    exact .nil
  | cons n ns ih =>
    intro vs w
    rw [List.map_cons] at w
    cases w with
    | cons a b =>
      cases a
      exact .cons _ _ (ih _ b)

theorem script_of {l : OpenLaw} {n : Nat} (hn : l.most = some n) {P : Params} {h : Heap} {args : List WData} {vals : List Value}
    (hpre : l.row.toRowW.claim.pre args = true) (hwl : WellAll P h vals args) :
    ∃ a vs ns, vals = [Value.ref a] ∧ args = [WData.list (ns.map WData.int)] ∧ h.get? a = some { cls := .type "list", data := .seq vs.toArray } ∧ IntsAre vs ns ∧ ns.length ≤ n := by
  have hsh : WShape.hasAll [] args [.list .int] = true := (pre_splitW hpre).1
  have hc : l.pre.holds [] { args := args } = true := (pre_splitW hpre).2
  obtain ⟨d, r, rfl, h1, h2⟩ := hasAllW_cons hsh
  obtain rfl := hasAllW_nil h2
  obtain ⟨xs, rfl, h3⟩ := hasW_list h1
  obtain ⟨ns, rfl⟩ := items_int h3
  have hlen : ns.length ≤ n := by
    unfold OpenLaw.pre at hc
    have h4 : (WTm.not (.lt (.lit (.int (n : Int))) (.len (.arg 0)))).holds [] { args := [.list (ns.map .int)] } = true := by
      have h4 := (holds_andW hc).1
      rw [hn] at h4
      exact h4
    have h5 := condW_of h4 (w_not (w_lt w_lit (w_len_list (w_arg rfl))))
    rw [List.length_map] at h5
    refine Nat.le_of_not_lt fun q => ?_
    have q' : (n : Int) < ((ns.length : Nat) : Int) := by omega
    first
      | (rw [decide_eq_true q'] at h5; exact absurd h5 (by decide))
      | (simp at h5; omega)
  cases hwl with
  | cons w1 w2 =>
    cases w2
    cases w1 with
    | list ho hall => exact ⟨_, _, ns, rfl, rfl, ho, ints_of_wellAll ns _ hall, hlen⟩

theorem post_true (l : OpenLaw) (args : List WData) : l.row.toRowW.claim.post args (.bool true) args = true :=
  postW_of (r := l.row.toRowW) (X := (true == true))
    (show WShape.has [] (.bool true) .bool = true by first | rfl | decide | simp [WShape.has, WShape.arms, WShape.armsAll])
    (show (WTm.eq .res (.lit (.bool true))).value [] { args := args, res := some (.bool true), after := args } = some (.bool (true == true)) from w_eq_bool (w_res rfl) w_lit) rfl

/-! ### the attachment: holds_open's last premise (the goal 'hc' behind k_head) from a wpAny of the law's body -/
/-- the same from a codeAny of the CALL (for a layer whose function contracts speak of calls) -/
theorem attach_call {l : OpenLaw} {n : Nat} {q : Program} {loose : List Str} {XP : (Str → Option Value) → Heap → Prop} {YP : World → Heap → Prop} {d : DefRec}
    (hn : l.most = some n) (hdf : d.params.defaults = [])
    (call : ∀ (w : World) (s₀ s₁ : Shared) (mg mb : Str → Option Value) (fa : Addr) (o : Obj) (pm cd doc : Value) (a : Addr) (vs : List Value) (ns : List Int),
      Ground q loose [] XP w s₀ mg mb s₁.heap → YP w s₁.heap →
      s₁.heap.get? fa = some o → o.data = .func (docDef d.name d.params d.body d.scope pm cd doc) → s₁.heap.CodeRec cd d.name → mg d.name = some (.ref fa) →
      s₁.heap.get? a = some { cls := .type "list", data := .seq vs.toArray } → IntsAre vs ns → ns.length ≤ n → s₁.gens = #[] →
      codeAny (model l.prog w) callerA (.call (.ref fa) ⟨[.ref a], []⟩) (fun r s' => r = .ok (.ret (.bool true)) ∧ OldK s₁.heap s'.heap ∧ s'.os = s₁.os ∧ AllBare s'.gens) s₁) :
    WalkO q loose XP YP l.row.toRowW d [] (fun f vs => PySem.call f vs) := by
  intro w s₀ s₁ mg mb G Y fa o pm cd doc dV kV ho hd hcd hD hmg hg args vals as hpre hlay hrd hwl hlo
  obtain rfl : dV = .none := Dflts.none hD hdf
  obtain rfl : kV = .none := Dflts.noKw hD
  obtain ⟨a, vs, ns, rfl, rfl, hobj, hints, hlen⟩ := script_of hn hpre hwl
  refine enter_call (codeAny_mono (call w s₀ s₁ mg mb fa o pm cd doc a vs ns G Y ho (fd_plain hd) hcd hmg hobj hints hlen hg) fun r s' hq => ?_)
  obtain ⟨rfl, h2, h3, h4⟩ := hq
  exact ⟨.inl ⟨.bool true, .bool true, [], rfl, fun _ => rfl, .bool true, post_true l _, fun _ => ⟨List.Pairwise.nil, fun _ hm => (nomatch hm)⟩⟩, h2, h3, h4⟩

/-! ### rules over ANY heap (no ledger) from facts about the written part K: the library's own take a ledger (News) for what they write -/
section
variable {prog : Program} {w : World} {A : Around} {E : Value → Shared → Prop} {s : Shared} {K : Frag}

/-! the whole heap as the ledger: makes every rule that writes through a ledger a rule over any heap -/
def ledger (h : Heap) (L d : Addr) : List (Addr × Obj) := (List.range h.objs.size).filterMap fun a => if a = L ∨ a = d then none else (h.get? a).map fun o => (a, o)
end
end Att

namespace L2
open PySem PySem.Spec PyProof.Rows

theorem vals_ints : ∀ {vs : List Value} {ns : List Int}, IntsAre vs ns → Vals (ns.map V.int) vs
  | _, _, .nil => .nil
  | _, _, .cons n t h => .cons ⟨t, rfl⟩ (vals_ints h)

/-- nothing is tracked but the script, known to the object (or it is an object of the module) -/
def Only (H : Hp) : Prop := ∀ b, H b = none ∨ ∃ o xs, H b = some (.frz o (.lst xs))

/-- THE HEAD: the law's promise, at the heap behind the top. F, the promise of the law's def, may use that base is part of the heap (so K.In base, base.Ns mainGlobals mg stand in Mod) -/
theorem law_call {P : Program} {w : World} {K : PySem.W.Frag} {mg mb : Str → Option Value} {CX : CXT} {k : Nat} {fa a : Addr} {fd : FuncData} {x : Str} {sp : Sp} {s₁ : Shared} {vs : List Value} {ns : List Int}
    (KX : K.In s₁.heap) (hns : s₁.heap.Ns mainGlobals mg) (hb : s₁.heap.Ns builtinsNs mb) (hbb : ∀ x : Str, x ≠ "__name__" → mb x = bootBuiltins x) (hlim : s₁.heap.NoLimit) (hg : s₁.gens = #[])
    (ha : s₁.heap.get? a = some { cls := .type "list", data := .seq vs.toArray }) (hi : IntsAre vs ns) (hl : ns.length ≤ sizeLine) (hr : Room k callerA)
    (F : ∀ base : Heap, K.In base → base.Ns mainGlobals mg → FnOk P w K mg base CX k fa fd [x] sp) (hbind : ∀ (s : Shared) (u : Value), BindsTo s fd ⟨[u], []⟩ [(x, u)])
    (hsp : ∀ H : Hp, Only H → SqL K H a (ns.map V.int) → sp [.ref a] H (fun v _ => v = .bl true) fun _ _ _ => False)
    (hCX : ∀ H e s', CX [] H s₁ (fun _ _ _ => False) e s' → False) :
    codeAny (model P w) callerA (.call (.ref fa) ⟨[.ref a], []⟩) (fun r s' => r = .ok (.ret (.bool true)) ∧ OldK s₁.heap s'.heap ∧ s'.os = s₁.os ∧ AllBare s'.gens) s₁ := by
  have rv := vals_ints hi
  have lenV := hi.length
  -- from an abstract heap in which nothing but the script may be tracked
  have core : ∀ H : Hp, Only H → SqL K H a (ns.map V.int) → HOk P w H s₁.heap → (∀ b, H b ≠ none → b = a) → (H a ≠ none → K.lookup a = none) →
      codeAny (model P w) callerA (.call (.ref fa) ⟨[.ref a], []⟩) (fun r s' => r = .ok (.ret (.bool true)) ∧ OldK s₁.heap s'.heap ∧ s'.os = s₁.os ∧ AllBare s'.gens) s₁ := by
    intro H hO hS hok hA hK
    have base_of : ∀ {b : Addr} {o : Obj}, s₁.heap.get? b = some o → H b = none → (hidT s₁.heap H).get? b = some o := fun e n => hidT_get e n
    have noA : ∀ {b : Addr} {o : Obj} {es : Array DictEntry} {ep : Nat}, s₁.heap.get? b = some o → o.data = .dict es ep → H b = none := fun {b o es ep} e d => by
      cases q : H b with
      | none => rfl
      | some u =>
        have e' : b = a := hA b (by rw [q]; simp)
        subst e'
        rw [ha] at e; cases e
        have d' : Data.seq vs.toArray _ = Data.dict es ep := d
        cases d'
    have nsK : ∀ {b : Addr} {m : Str → Option Value}, s₁.heap.Ns b m → (hidT s₁.heap H).Ns b m := fun {b m} ⟨o, es, ep, e, d, r⟩ => ⟨o, es, ep, base_of e (noA e d), d, r⟩
    have hKb : K.In (hidT s₁.heap H) := fun b o e => base_of (KX b o e) (by
      cases q : H b with
      | none => rfl
      | some u =>
        have e' : b = a := hA b (by rw [q]; simp)
        subst e'
        rw [hK (by rw [q]; simp)] at e; cases e)
    have hM : Mod K mg (hidT s₁.heap H) := ⟨hKb, nsK hns, ⟨mb, nsK hb, hbb⟩, let ⟨mc, h1, h2⟩ := hlim; ⟨mc, nsK h1, h2⟩⟩
    have e0 : Env0 P w K mg (hidT s₁.heap H) callerA [] s₁ H := ⟨rfl, hM, fun b o e => of_hidT e, Nat.le_of_eq (hidT_size _ _), trivial, fun b hb => absurd (show b ∈ ([] : List Addr) from hb) (by simp), hok, .of_eq hg⟩
    refine codeAny_mono ((F _ hKb (nsK hns)).run callerA [] s₁ H ⟨[.ref a], []⟩ [.ref a] [.ref a] _ _ hr e0 (hbind s₁ (.ref a)) (.cons rfl .nil) (hsp H hO hS)) fun r s' h => ?_
    cases r with
    | error e => exact (hCX H e s' h).elim
    | ok fl =>
      cases fl with
      | next => exact False.elim h
      | brk => exact False.elim h
      | cont => exact False.elim h
      | ret u =>
        obtain ⟨v, H', os, bare, un, hok', r', q⟩ := h
        have q' : v = .bl true := q
        subst q'
        obtain rfl : u = Value.bool true := r'
        refine ⟨rfl, OldK.of_keep fun b o e => ?_, os, bare⟩
        cases q : H b with
        | none => exact un.keep b o e q (by intro z; exact absurd (show b ∈ ([] : List Addr) from z) (by simp)) (by simp)
        | some u =>
          rcases hO b with z | ⟨ob, xs, z⟩
          · rw [q] at z; cases z
          · have z2 := un.frzs b ob _ z
            obtain ⟨e1, _⟩ := hok b _ z
            obtain ⟨e2, _⟩ := hok' b _ z2
            rw [e] at e1; cases e1
            exact e2
  cases hk : K.lookup a with
  | some o =>
    -- the script is one of the module's own objects
    have e := KX a o hk
    rw [ha] at e
    cases e
    refine core (fun _ => none) (fun _ => .inl rfl) (.inr ⟨_, vs.toArray, _, hk, rfl, rfl, rfl, by rw [List.size_toArray, lenV]; exact hl, by simpa using rv⟩) (fun b u z => by have z' : (none : Option HO) = some u := z; cases z') (fun b z => absurd rfl z) fun z => absurd rfl z
  | none =>
    refine core (fun b => if b = a then some (.frz { cls := .type "list", data := .seq vs.toArray } (.lst (ns.map V.int))) else none) (fun b => ?_) (.inl (.inr ⟨{ cls := .type "list", data := .seq vs.toArray }, if_pos rfl⟩)) (fun b u z => ?_) (fun b z => ?_) fun _ => hk
    · by_cases hb : b = a
      · exact .inr ⟨_, _, if_pos hb⟩
      · exact .inl (if_neg hb)
    · by_cases hb : b = a
      · have z' := (if_pos hb).symm.trans z
        cases z'
        subst hb
        exact ⟨ha, by rw [List.length_map]; exact hl, vs, _, rv, ha⟩
      · have z' := (if_neg hb).symm.trans z
        cases z'
    · by_cases hb : b = a
      · exact hb
      · exact absurd (if_neg hb) z
end L2

namespace L2
open PySem PySem.Spec PyProof.Rows

abbrev KOf {K : PySem.W.Frag} {h : Heap} (_ : K.In h) : PySem.W.Frag := K

/-- the goal that k_head leaves (case hc), from the law's promise. F gives the function object fd (K's own) once, then the promise over every base -/
theorem walk_of {l : PySem.W.OpenLaw} {n k : Nat} {q : Program} {loose : List Str} {XP : (Str → Option Value) → Heap → Prop} {YP : World → Heap → Prop} {d : DefRec} {K : Params → PySem.W.Frag} {CX : World → CXT} {sp : World → Sp} {x : Str}
    (hn : l.most = some n) (hn2 : n ≤ sizeLine) (hdf : d.params.defaults = []) (hr : Room k callerA)
    (hY : ∀ (w : World) (h : Heap), YP w h → (K w.params).In h)
    (F : ∀ (w : World) (mg : Str → Option Value) (fa : Addr) (h : Heap), (K w.params).In h → h.Ns mainGlobals mg → mg d.name = some (.ref fa) →
      ∃ fd : FuncData, (∀ (s : Shared) (u : Value), BindsTo s fd ⟨[u], []⟩ [(x, u)]) ∧
        ∀ base : Heap, (K w.params).In base → base.Ns mainGlobals mg → FnOk l.prog w (K w.params) mg base (CX w) k fa fd [x] (sp w))
    (hsp : ∀ (w : World) (H : Hp) (a : Addr) (ns : List Int), ns.length ≤ n → Only H → SqL (K w.params) H a (ns.map V.int) → sp w [.ref a] H (fun v _ => v = .bl true) fun _ _ _ => False)
    (hCX : ∀ (w : World) (H : Hp) (s : Shared) (e : Value) (s' : Shared), CX w [] H s (fun _ _ _ => False) e s' → False) :
    PySem.W.WalkO q loose XP YP l.row.toRowW d [] (fun f vs => PySem.call f vs) := by
  refine Att.attach_call hn hdf fun w s₀ s₁ mg mb fa o pm cd doc a vs ns G Y ho hd hcd hmg hobj hints hlen hg => ?_
  have KX := hY w _ Y
  obtain ⟨fd, hb, hF⟩ := F w mg fa _ KX G.T.g hmg
  exact law_call KX G.T.g G.T.b G.T.builtins G.T.nolimit hg hobj hints (Nat.le_trans hlen hn2) hr hF hb (fun H hO hS => hsp w H a ns hlen hO hS) fun H e s' => hCX w H s₁ e s'
end L2

/- THE LAST THEOREM (shape; LID, My.* are yours):
   My.Adr: a structure of the addresses that your layer names (classes, functions); My.Txt K t: a structure (Prop) of the equations over K;
   My.txt_mk : {K} {implicit addresses ..} (e1 : nsIn K mainGlobals "law" = some (some (.ref f))) (e2 : K.lookup f = some ⟨oc, od, .func (fnOf "law" "law" params body scope dV kV doc pm an cdv ct), sl⟩) (e3 : codeIn K cdv "law" = true) .. : ∃ t, My.Txt K t

set_option maxRecDepth 100000 in
set_option maxHeartbeats 0 in
theorem PySem.Challenge.cw_LID_holds : PySem.Challenge.rw_LID.Holds := by
  w_on; o_law; k_head; (case hw => w_witness2)
  k_fill
  refine L2.walk_of (l := PySem.Challenge.rw_LID) (n := 63) (k := 40) (x := "script") (CX := fun w => ..) (sp := fun _ => My.sp_law) rfl (by decide) rfl ⟨rfl, by decide, by decide⟩ (fun w h Y => PySem.W.kIn_of Y) ?F ?S ?C
  case F =>
    intro w mg fa h KX G hmg
    have T : ∃ t, My.Txt (L2.KOf KX) t := by
      dsimp only [L2.KOf]                          -- K must stand as «<heap const> w.params» for k_is
      refine' My.txt_mk ?e1 ?e2 ?e3 ..
      (case e1 => PySem.W.k_is)                    -- in the order: a name -> its address -> its object -> its parts
      (case e2 => PySem.W.k_is)
      ..
    obtain ⟨t, T⟩ := T
    have e0 := hmg.symm.trans (PySem.W.mg_of KX G T.law)
    cases e0                                       -- fa is the law's own address
    exact ⟨_, fun s u => .of_eq rfl, fun base kb nb => My.law_fn T kb nb⟩     -- if «.of_eq rfl» comes too early: refine' ⟨_, ?b, fun base kb nb => My.law_fn T kb nb⟩; exact fun s u => .of_eq rfl
  case S => exact fun w H a ns hl hO hS => ..
  case C => exact ..
(the tactic k_is has no namespace: write k_is) -/

/-! SHORT WORDS over the layer: a def of the text, its body, what a loop and a test want. -/
namespace L2
open PySem PySem.Spec PyProof.Rows

/-! ### the text by places -/
def defArgs (s : Stmt) : Arguments := match s with
  | .FunctionDef _ a _ _ _ _ _ _ _ _ => a
  | _ => { posonlyargs := [], args := [], vararg := none, kwonlyargs := [], kw_defaults := [], kwarg := none, defaults := [] }
def defBody (s : Stmt) : List Stmt := match s with
  | .FunctionDef _ _ b _ _ _ _ _ _ _ => b
  | _ => []
def defScope (s : Stmt) : Scope := match s with
  | .FunctionDef _ _ _ _ _ _ sc _ _ _ => sc
  | _ => { kind := .function, names := [], isGenerator := false, isCoroutine := false }

/-! ### no exception leaves a def -/
abbrev CX0 : CXT := fun _ _ _ _ _ _ => False
abbrev E0 : XK := fun _ _ _ => False
theorem pass0 {X : Cx} : Passes CX0 X E0 := fun _ _ _ _ _ _ _ h => h.elim

/-! ### a def (or method) of the text as it stands behind the top -/
structure Fun (K : PySem.W.Frag) (x qual : Str) (st : Stmt) (f : Addr) (fd : FuncData) : Prop where
  ex : ∃ (oc : Value) (od : Option Addr) (kV doc pm : Value) (an : Option Addr) (cdv ct : Value) (osl : Array (Option Value)),
    fd = PySem.W.fnOf x qual (defArgs st) (defBody st) (defScope st) .none kV doc pm an cdv ct ∧ K.lookup f = some ⟨oc, od, .func fd, osl⟩ ∧ PySem.W.codeIn K cdv qual = true
  kp : PySem.W.keepIn K (.ref f) = true
section
variable {P : Program} {w : World} {K : PySem.W.Frag} {mg : Str → Option Value} {base : Heap}
/-- THE RULE for a def: its body as a term of rules, and the reading of that term -/
theorem Fun.ok {x qual : Str} {st : Stmt} {f : Addr} {fd : FuncData} {N ps : List Str} {k : Nat} {sp : Sp} (F : Fun K x qual st f fd) (S : FnScope N ps (defScope st)) (len : ∀ vs H Q E, sp vs H Q E → vs.length = ps.length)
    (hbody : ∀ (cdv : Value) (A : Around) (outer : List Env) (s : Shared) (H : Hp) (vs : List V) (Q : VK) (E : XK), Room k (A.deeper (envOfC qual (defScope st) s.heap.objs.size f cdv)) → sp vs H Q E →
      ∃ t, PSs (cxOf CX0 P w K mg base N qual (defScope st) f cdv A outer s H E).nox (defBody st) t ∧ t { nx := fun _ H' => Q .non H', rt := Q } (start N vs) H) : FnOk P w K mg base CX0 (k + 1) f fd ps sp := by
  obtain ⟨oc, od, kV, doc, pm, an, cdv, ct, osl, rfl, lk, hcd⟩ := F.ex
  refine fn_of lk hcd S len fun A outer s H vs Q E hr hsp => ?_
  obtain ⟨t, h, q⟩ := hbody cdv A outer s H vs Q E hr hsp
  exact ⟨t, h.nox, q⟩
/-- how its arguments bind (no defaults): h is «fun _ _ _ _ _ _ us hl => match us, hl with | [_, _], _ => rfl», one _ a parameter -/
theorem Fun.binds {x qual : Str} {st : Stmt} {f : Addr} {fd : FuncData} {ps : List Str} (F : Fun K x qual st f fd)
    (h : ∀ (kV doc pm : Value) (an : Option Addr) (cdv ct : Value) (us : List Value), us.length = ps.length → bindArgs (PySem.W.fnOf x qual (defArgs st) (defBody st) (defScope st) .none kV doc pm an cdv ct) ⟨us, []⟩ = pure (ps.zip us)) : Binds K fd ps [] := by
  obtain ⟨oc, od, kV, doc, pm, an, cdv, ct, osl, rfl, lk, hcd⟩ := F.ex
  exact .all (h kV doc pm an cdv ct)
theorem fun_mk {x qual : Str} {st : Stmt} {f : Addr} {oc : Value} {od an : Option Addr} {osl : Array (Option Value)} {kV doc pm cdv ct : Value} (l : K.lookup f = some ⟨oc, od, .func (PySem.W.fnOf x qual (defArgs st) (defBody st) (defScope st) .none kV doc pm an cdv ct), osl⟩)
    (c : PySem.W.codeIn K cdv qual = true) (k : PySem.W.keepIn K (.ref f) = true) : Fun K x qual st f (PySem.W.fnOf x qual (defArgs st) (defBody st) (defScope st) .none kV doc pm an cdv ct) := ⟨⟨oc, od, kV, doc, pm, an, cdv, ct, osl, rfl, l, c⟩, k⟩
end
theorem small1000 {n : Nat} (h : n ≤ 1000) : n < sizeLine := Nat.lt_of_le_of_lt h (by decide)

/-! ### expressions in short: the name that stands in the i-th slot -/
section
variable {X : Cx}
end

/-! ### tests -/
theorem ite2 {c A B : Prop} [Decidable c] (h1 : c → A) (h2 : ¬ c → B) : if c then A else B := by
  by_cases h : c
  · rw [if_pos h]
    exact h1 h
  · rw [if_neg h]
    exact h2 h
/-! ### heaps -/
/-- all that was tracked is as it was -/
def Same (H H' : Hp) : Prop := ∀ b o, H b = some o → H' b = some o
theorem Same.refl (H : Hp) : Same H H := fun _ _ h => h
theorem Same.trans {H H1 H2 : Hp} (a : Same H H1) (b : Same H1 H2) : Same H H2 := fun c o h => b c o (a c o h)
theorem Same.free {H H' : Hp} (e : Same H H') {l : Addr} (h : H' l = Option.none) : H l = Option.none := by
  cases q : H l with
  | none => rfl
  | some o =>
    rw [e l o q] at h
    cases h
theorem Same.seq {K : PySem.W.Frag} {H H' : Hp} {a : Addr} {xs : List V} (e : Same H H') (h : SqL K H a xs) : SqL K H' a xs := by
  rcases h with (h | ⟨o, h⟩) | h
  · exact .inl (.inl (e _ _ h))
  · exact .inl (.inr ⟨o, e _ _ h⟩)
  · exact .inr h
/-! ### a dict's pairs: keys that differ -/
section
variable {κ : Type} [DecidableEq κ]
end
end L2


namespace DL
open PySem L2

/-- a value without its place: what a name stands for, as a whole -/
inductive D where
  | non | bl (b : Bool) | int (i : Int) | str (x : Str)
  | tup (xs : List D) | lst (xs : List D) | fz (xs : List D) | dct (ks : List Str) (vs : List D)


def kvsOf (ks : List Str) (vs : List V) : List (Key × V) := (ks.map Sum.inr).zip vs
def H0 : Hp := fun _ => none
/-- a list that nobody may change: the script, a list of the text's top -/
def FzAt (K : PySem.W.Frag) (H : Hp) (a : Addr) (vs : List V) : Prop := (∃ o, H a = some (.frz o (.lst vs))) ∨ SqL K H0 a vs

mutual
def Rep (K : PySem.W.Frag) (M : Addr → Prop) (H : Hp) : D → V → Prop
  | .non, v => v = .non
  | .bl b, v => v = .bl b
  | .int i, v => v = .int i
  | .str x, v => v = .str x
  | .tup ds, v => ∃ a vs, v = .ref a ∧ SqT K H a vs ∧ Reps K M H ds vs
  | .lst ds, v => ∃ a vs, v = .ref a ∧ ¬ M a ∧ H a = some (.lst vs) ∧ Reps K M H ds vs
  | .fz ds, v => ∃ a vs, v = .ref a ∧ FzAt K H a vs ∧ Reps K M H ds vs
  | .dct ks ds, v => ∃ a vs, v = .ref a ∧ ¬ M a ∧ H a = some (.dK (kvsOf ks vs)) ∧ ks.length = ds.length ∧ Reps K M H ds vs
def Reps (K : PySem.W.Frag) (M : Addr → Prop) (H : Hp) : List D → List V → Prop
  | [], vs => vs = []
  | d :: ds, vs => ∃ v r, vs = v :: r ∧ Rep K M H d v ∧ Reps K M H ds r
end

/-- kept: what nobody at M owns, the tuples, and what is frozen -/
structure Kp (M : Addr → Prop) (H H' : Hp) : Prop where
  un : ∀ b o, H b = some o → ¬ M b → H' b = some o
  tu : ∀ b xs, H b = some (.tup xs) → H' b = some (.tup xs)
  fr : ∀ b o u, H b = some (.frz o u) → H' b = some (.frz o u)
theorem Kp.of_same {M : Addr → Prop} {H H' : Hp} (h : Same H H') : Kp M H H' := ⟨fun b o e _ => h b o e, fun b xs e => h b _ e, fun b o u e => h b _ e⟩
theorem Kp.refl {M : Addr → Prop} {H : Hp} : Kp M H H := Kp.of_same (Same.refl H)

section
variable {K : PySem.W.Frag} {M M' : Addr → Prop} {H H' : Hp}
theorem SqT.kp {a : Addr} {vs : List V} (k : Kp M H H') (h : SqT K H a vs) : SqT K H' a vs := by
  rcases h with (h | ⟨o, h⟩) | h
  · exact .inl (.inl (k.tu _ _ h))
  · exact .inl (.inr ⟨o, k.fr _ _ _ h⟩)
  · exact .inr h
theorem FzAt.kp {a : Addr} {vs : List V} (k : Kp M H H') (h : FzAt K H a vs) : FzAt K H' a vs := by
  rcases h with ⟨o, h⟩ | h
  · exact .inl ⟨o, k.fr _ _ _ h⟩
  · exact .inr h
theorem FzAt.seq {a : Addr} {vs : List V} (h : FzAt K H a vs) : SqL K H a vs := by
  rcases h with ⟨o, h⟩ | (h | ⟨o, h⟩) | h
  · exact .inl (.inr ⟨o, h⟩)
  · cases h
  · cases h
  · exact .inr h

mutual
theorem Rep.kp (k : Kp M H H') : ∀ (d : D) (v : V), Rep K M H d v → Rep K M H' d v
  | .non, v, h => by unfold Rep at h ⊢; exact h
  | .bl b, v, h => by unfold Rep at h ⊢; exact h
  | .int i, v, h => by unfold Rep at h ⊢; exact h
  | .str x, v, h => by unfold Rep at h ⊢; exact h
  | .tup ds, v, h => by
    unfold Rep at h ⊢
    obtain ⟨a, vs, e, q, r⟩ := h
    exact ⟨a, vs, e, SqT.kp k q, Reps.kp k ds vs r⟩
  | .lst ds, v, h => by
    unfold Rep at h ⊢
    obtain ⟨a, vs, e, n, q, r⟩ := h
    exact ⟨a, vs, e, n, k.un _ _ q n, Reps.kp k ds vs r⟩
  | .fz ds, v, h => by
    unfold Rep at h ⊢
    obtain ⟨a, vs, e, q, r⟩ := h
    exact ⟨a, vs, e, q.kp k, Reps.kp k ds vs r⟩
  | .dct ks ds, v, h => by
    unfold Rep at h ⊢
    obtain ⟨a, vs, e, n, q, l, r⟩ := h
    exact ⟨a, vs, e, n, k.un _ _ q n, l, Reps.kp k ds vs r⟩
theorem Reps.kp (k : Kp M H H') : ∀ (ds : List D) (vs : List V), Reps K M H ds vs → Reps K M H' ds vs
  | [], vs, h => by unfold Reps at h ⊢; exact h
  | d :: ds, vs, h => by
    unfold Reps at h ⊢
    obtain ⟨v, r, e, q, s⟩ := h
    exact ⟨v, r, e, Rep.kp k d v q, Reps.kp k ds r s⟩
end
mutual
/-- fewer owners, or owners of what wasn't there -/
theorem Rep.more (hM : ∀ b, M' b → M b ∨ H b = none) : ∀ (d : D) (v : V), Rep K M H d v → Rep K M' H d v
  | .non, v, h => by unfold Rep at h ⊢; exact h
  | .bl b, v, h => by unfold Rep at h ⊢; exact h
  | .int i, v, h => by unfold Rep at h ⊢; exact h
  | .str x, v, h => by unfold Rep at h ⊢; exact h
  | .tup ds, v, h => by
    unfold Rep at h ⊢
    obtain ⟨a, vs, e, q, r⟩ := h
    exact ⟨a, vs, e, q, Reps.more hM ds vs r⟩
  | .lst ds, v, h => by
    unfold Rep at h ⊢
    obtain ⟨a, vs, e, n, q, r⟩ := h
    exact ⟨a, vs, e, fun z => (hM _ z).elim n (fun e => by rw [q] at e; cases e), q, Reps.more hM ds vs r⟩
  | .fz ds, v, h => by
    unfold Rep at h ⊢
    obtain ⟨a, vs, e, q, r⟩ := h
    exact ⟨a, vs, e, q, Reps.more hM ds vs r⟩
  | .dct ks ds, v, h => by
    unfold Rep at h ⊢
    obtain ⟨a, vs, e, n, q, l, r⟩ := h
    exact ⟨a, vs, e, fun z => (hM _ z).elim n (fun e => by rw [q] at e; cases e), q, l, Reps.more hM ds vs r⟩
theorem Reps.more (hM : ∀ b, M' b → M b ∨ H b = none) : ∀ (ds : List D) (vs : List V), Reps K M H ds vs → Reps K M' H ds vs
  | [], vs, h => by unfold Reps at h ⊢; exact h
  | d :: ds, vs, h => by
    unfold Reps at h ⊢
    obtain ⟨v, r, e, q, s⟩ := h
    exact ⟨v, r, e, Rep.more hM d v q, Reps.more hM ds r s⟩
end
theorem Reps.length : ∀ (ds : List D) (vs : List V), Reps K M H ds vs → ds.length = vs.length
  | [], vs, h => by unfold Reps at h; subst h; rfl
  | d :: ds, vs, h => by
    unfold Reps at h
    obtain ⟨v, r, rfl, q, s⟩ := h
    rw [List.length_cons, List.length_cons, Reps.length ds r s]
theorem Reps.get : ∀ (ds : List D) (vs : List V), Reps K M H ds vs → ∀ (i : Nat) (d : D), ds[i]? = some d → ∃ v, vs[i]? = some v ∧ Rep K M H d v
  | [], vs, h, i, d, e => by simp at e
  | d :: ds, vs, h, i, d', e => by
    unfold Reps at h
    obtain ⟨v, r, rfl, q, s⟩ := h
    cases i with
    | zero => simp at e; subst e; exact ⟨v, rfl, q⟩
    | succ i => exact Reps.get ds r s i d' (by simpa using e)
theorem Reps.of : ∀ (ds : List D) (vs : List V), ds.length = vs.length → (∀ (i : Nat) d v, ds[i]? = some d → vs[i]? = some v → Rep K M H d v) → Reps K M H ds vs
  | [], vs, l, _ => by unfold Reps; exact List.length_eq_zero_iff.mp l.symm
  | d :: ds, [], l, _ => by cases l
  | d :: ds, v :: vs, l, h => by
    unfold Reps
    exact ⟨v, vs, rfl, h 0 d v rfl rfl, Reps.of ds vs (Nat.succ.inj l) fun i d' v' e e' => h (i + 1) d' v' (by simpa using e) (by simpa using e')⟩
theorem Reps.append : ∀ (ds es : List D) (vs ws : List V), Reps K M H ds vs → Reps K M H es ws → Reps K M H (ds ++ es) (vs ++ ws)
  | [], es, vs, ws, h, k => by unfold Reps at h; subst h; exact k
  | d :: ds, es, vs, ws, h, k => by
    unfold Reps at h
    obtain ⟨v, r, rfl, q, s⟩ := h
    show Reps K M H (d :: (ds ++ es)) (v :: (r ++ ws))
    unfold Reps
    exact ⟨v, r ++ ws, rfl, q, Reps.append ds es r ws s k⟩
theorem Reps.one {d : D} {v : V} (h : Rep K M H d v) : Reps K M H [d] [v] := by
  unfold Reps
  exact ⟨v, [], rfl, h, by unfold Reps; rfl⟩
theorem Reps.nil : Reps K M H [] [] := by unfold Reps; rfl
theorem Reps.cons {d : D} {v : V} {ds : List D} {vs : List V} (h : Rep K M H d v) (r : Reps K M H ds vs) : Reps K M H (d :: ds) (v :: vs) := by
  unfold Reps
  exact ⟨v, vs, rfl, h, r⟩
theorem Reps.take : ∀ (n : Nat) (ds : List D) (vs : List V), Reps K M H ds vs → Reps K M H (ds.take n) (vs.take n)
  | 0, ds, vs, h => by simpa using Reps.nil
  | n + 1, [], vs, h => by unfold Reps at h; subst h; simpa using Reps.nil
  | n + 1, d :: ds, vs, h => by
    unfold Reps at h
    obtain ⟨v, r, rfl, q, s⟩ := h
    exact Reps.cons q (Reps.take n ds r s)
theorem Reps.drop : ∀ (n : Nat) (ds : List D) (vs : List V), Reps K M H ds vs → Reps K M H (ds.drop n) (vs.drop n)
  | 0, ds, vs, h => h
  | n + 1, [], vs, h => by unfold Reps at h; subst h; simpa using Reps.nil
  | n + 1, d :: ds, vs, h => by
    unfold Reps at h
    obtain ⟨v, r, rfl, q, s⟩ := h
    exact Reps.drop n ds r s
theorem Reps.set {d : D} {v : V} (h : Rep K M H d v) : ∀ (i : Nat) (ds : List D) (vs : List V), Reps K M H ds vs → Reps K M H (ds.set i d) (vs.set i v)
  | _, [], vs, r => by unfold Reps at r; subst r; exact Reps.nil
  | 0, x :: ds, vs, r => by
    unfold Reps at r
    obtain ⟨w, r, rfl, q, s⟩ := r
    exact Reps.cons h s
  | i + 1, x :: ds, vs, r => by
    unfold Reps at r
    obtain ⟨w, r, rfl, q, s⟩ := r
    exact Reps.cons q (Reps.set h i ds r s)
theorem Reps.ints (ns : List Int) : Reps K M H (ns.map D.int) (ns.map V.int) := by
  induction ns with
  | nil => exact Reps.nil
  | cons n r ih => exact Reps.cons (by unfold Rep; rfl) ih
end

/-! ### the state of a def's frame -/
inductive Sl where
  | no | dat (d : D) | own (a : Addr) (d : D)

structure Gf where
  M0 : Addr → Prop
  H0 : Hp
  Pm : Addr → Prop

def OwnAt (K : PySem.W.Frag) (M : Addr → Prop) (H : Hp) (a : Addr) : D → Prop
  | .lst ds => ∃ vs, H a = some (.lst vs) ∧ Reps K M H ds vs
  | .dct ks ds => ∃ vs, H a = some (.dK (kvsOf ks vs)) ∧ ks.length = ds.length ∧ Reps K M H ds vs
  | _ => False

structure Sx (K : PySem.W.Frag) (G : Gf) (A : Addr → Prop) (δ : List Sl) (P : List (D × V)) (σ : St) (H : Hp) : Prop where
  old : ∀ b o, G.H0 b = some o → ¬ G.Pm b → H b = some o
  stay : ∀ b, G.H0 b ≠ none → H b ≠ none
  m0 : ∀ b, G.M0 b → G.H0 b ≠ none
  pm : ∀ b, G.Pm b → G.H0 b ≠ none ∧ ¬ G.M0 b
  new : ∀ b, A b → G.H0 b = none ∨ G.Pm b
  thr : ∀ b, A b → H b ≠ none
  len : δ.length = σ.length
  dat : ∀ (i : Nat) d, δ[i]? = some (.dat d) → ∃ v, σ[i]? = some (some v) ∧ Rep K (fun b => G.M0 b ∨ A b) H d v
  own : ∀ (i : Nat) a d, δ[i]? = some (.own a d) → σ[i]? = some (some (.ref a)) ∧ A a ∧ OwnAt K (fun b => G.M0 b ∨ A b) H a d
  inj : ∀ (i j : Nat) a d e, δ[i]? = some (.own a d) → δ[j]? = some (.own a e) → i = j
  pnd : ∀ p ∈ P, Rep K (fun b => G.M0 b ∨ A b) H p.1 p.2
def S (K : PySem.W.Frag) (G : Gf) (δ : List Sl) (P : List (D × V)) (σ : St) (H : Hp) : Prop := ∃ A, Sx K G A δ P σ H

/-- a pure answer: M the owned, ds what is handed in, R what comes -/
def pureR (K : PySem.W.Frag) (f : List D → (D → Prop) → Prop) (vs : List V) (H : Hp) (Q : VK) : Prop :=
  ∃ (M : Addr → Prop) (ds : List D) (R : D → Prop), (∀ b, M b → H b ≠ none) ∧ Reps K M H ds vs ∧ f ds R ∧ ∀ d, R d → ∀ v H', Same H H' → Rep K M H' d v → Q v H'

section
variable {K : PySem.W.Frag} {G : Gf} {A : Addr → Prop} {δ : List Sl} {P P' : List (D × V)} {σ : St} {H H' : Hp}
theorem OwnAt.kp {M : Addr → Prop} {a : Addr} {d : D} (k : Kp M H H') (e : H' a = H a) (h : OwnAt K M H a d) : OwnAt K M H' a d := by
  cases d with
  | lst ds =>
    obtain ⟨vs, q, r⟩ := h
    exact ⟨vs, e.trans q, Reps.kp k _ _ r⟩
  | dct ks ds =>
    obtain ⟨vs, q, l, r⟩ := h
    exact ⟨vs, e.trans q, l, Reps.kp k _ _ r⟩
  | _ => exact h.elim
theorem OwnAt.more {M M' : Addr → Prop} {a : Addr} {d : D} (hM : ∀ b, M' b → M b ∨ H b = none) (h : OwnAt K M H a d) : OwnAt K M' H a d := by
  cases d with
  | lst ds =>
    obtain ⟨vs, q, r⟩ := h
    exact ⟨vs, q, Reps.more hM _ _ r⟩
  | dct ks ds =>
    obtain ⟨vs, q, l, r⟩ := h
    exact ⟨vs, q, l, Reps.more hM _ _ r⟩
  | _ => exact h.elim
theorem Sx.sub (s : Sx K G A δ P σ H) (h : ∀ p ∈ P', p ∈ P) : Sx K G A δ P' σ H :=
  ⟨s.old, s.stay, s.m0, s.pm, s.new, s.thr, s.len, s.dat, s.own, s.inj, fun p hp => s.pnd p (h p hp)⟩
theorem S.sub (s : S K G δ P σ H) (h : ∀ p ∈ P', p ∈ P) : S K G δ P' σ H := let ⟨A, x⟩ := s; ⟨A, x.sub h⟩
/-- nothing was changed; more stands there -/
theorem Sx.same (s : Sx K G A δ P σ H) (h : Same H H') : Sx K G A δ P σ H' where
  old := fun b o e n => h b o (s.old b o e n)
  stay := fun b e => by
    cases q : H b with
    | none => exact absurd q (s.stay b e)
    | some o => rw [h b o q]; exact fun z => nomatch z
  m0 := s.m0
  pm := s.pm
  new := s.new
  thr := fun b e => by
    cases q : H b with
    | none => exact absurd q (s.thr b e)
    | some o => rw [h b o q]; exact fun z => nomatch z
  len := s.len
  dat := fun i d e => let ⟨v, q, r⟩ := s.dat i d e; ⟨v, q, Rep.kp (Kp.of_same h) _ _ r⟩
  own := fun i a d e => by
    obtain ⟨q, a1, o⟩ := s.own i a d e
    refine ⟨q, a1, OwnAt.kp (Kp.of_same h) ?_ o⟩
    cases z : H a with
    | none => exact absurd z (s.thr a a1)
    | some o => exact h a o z
  inj := s.inj
  pnd := fun p hp => Rep.kp (Kp.of_same h) _ _ (s.pnd p hp)
theorem Sx.push (s : Sx K G A δ P σ H) {d : D} {v : V} (h : Rep K (fun b => G.M0 b ∨ A b) H d v) : Sx K G A δ ((d, v) :: P) σ H :=
  ⟨s.old, s.stay, s.m0, s.pm, s.new, s.thr, s.len, s.dat, s.own, s.inj, fun p hp => by
    rcases List.mem_cons.mp hp with rfl | hp
    · exact h
    · exact s.pnd p hp⟩
theorem Sx.mem (s : Sx K G A δ P σ H) : ∀ b, (G.M0 b ∨ A b) → H b ≠ none := fun b h => h.elim (fun z => s.stay b (s.m0 b z)) fun z => s.thr b z
theorem Sx.reps (s : Sx K G A δ P σ H) : ∀ (ds : List D) (vs : List V), ds.length = vs.length → (∀ p ∈ ds.zip vs, p ∈ P) → Reps K (fun b => G.M0 b ∨ A b) H ds vs
  | [], [], _, _ => Reps.nil
  | d :: ds, v :: vs, l, h => Reps.cons (s.pnd (d, v) (h _ (List.mem_cons_self ..))) (Sx.reps s ds vs (Nat.succ.inj l) fun p hp => h p (List.mem_cons_of_mem _ hp))
/-- the move behind every pure step -/
theorem S.pure {f : List D → (D → Prop) → Prop} {ds : List D} {vs : List V} {R : D → Prop} {Q : VK} (s : S K G δ P σ H) (hl : ds.length = vs.length) (hp : ∀ p ∈ ds.zip vs, p ∈ P) (hs : ∀ p ∈ P', p ∈ P) (hf : f ds R)
    (h : ∀ d, R d → ∀ v H', S K G δ ((d, v) :: P') σ H' → Q v H') : pureR K f vs H Q := by
  obtain ⟨A, x⟩ := s
  refine ⟨fun b => G.M0 b ∨ A b, ds, R, x.mem, x.reps ds vs hl hp, hf, fun d r v H' sm rp => h d r v H' ⟨A, ?_⟩⟩
  exact ((x.same sm).sub hs).push rp
/-- a name is given what was reckoned -/
theorem Sx.set {i : Nat} {d : D} {v : V} (s : Sx K G A δ P σ H) (hp : (d, v) ∈ P) (hs : ∀ p ∈ P', p ∈ P) : Sx K G A (δ.set i (.dat d)) P' (σ.set i (some v)) H where
  old := s.old
  stay := s.stay
  m0 := s.m0
  pm := s.pm
  new := s.new
  thr := s.thr
  len := by rw [List.length_set, List.length_set, s.len]
  dat := fun j d' e => by
    by_cases hij : i = j
    · subst hij
      by_cases hl : i < δ.length
      · rw [List.getElem?_set_self hl] at e
        cases e
        exact ⟨v, by rw [List.getElem?_set_self (by rw [← s.len]; exact hl)], s.pnd _ hp⟩
      · rw [List.getElem?_eq_none (by rw [List.length_set]; omega)] at e
        cases e
    · rw [List.getElem?_set_ne hij] at e
      obtain ⟨v', q, r⟩ := s.dat j d' e
      exact ⟨v', by rw [List.getElem?_set_ne hij]; exact q, r⟩
  own := fun j a d' e => by
    by_cases hij : i = j
    · subst hij
      by_cases hl : i < δ.length
      · rw [List.getElem?_set_self hl] at e
        cases e
      · rw [List.getElem?_eq_none (by rw [List.length_set]; omega)] at e
        cases e
    · rw [List.getElem?_set_ne hij] at e
      obtain ⟨q, r⟩ := s.own j a d' e
      exact ⟨by rw [List.getElem?_set_ne hij]; exact q, r⟩
  inj := fun j k a d' e' h1 h2 => by
    have hj : δ[j]? = some (.own a d') := by
      by_cases hij : i = j
      · subst hij
        by_cases hl : i < δ.length
        · rw [List.getElem?_set_self hl] at h1; cases h1
        · rw [List.getElem?_eq_none (by rw [List.length_set]; omega)] at h1; cases h1
      · rw [List.getElem?_set_ne hij] at h1; exact h1
    have hk : δ[k]? = some (.own a e') := by
      by_cases hij : i = k
      · subst hij
        by_cases hl : i < δ.length
        · rw [List.getElem?_set_self hl] at h2; cases h2
        · rw [List.getElem?_eq_none (by rw [List.length_set]; omega)] at h2; cases h2
      · rw [List.getElem?_set_ne hij] at h2; exact h2
    exact s.inj j k a d' e' hj hk
  pnd := fun p h => s.pnd p (hs p h)
theorem S.set {i : Nat} {d : D} {v : V} (s : S K G δ P σ H) (hp : (d, v) ∈ P) (hs : ∀ p ∈ P', p ∈ P) : S K G (δ.set i (.dat d)) P' (σ.set i (some v)) H := let ⟨A, x⟩ := s; ⟨A, x.set hp hs⟩
end
end DL

namespace DL
open PySem L2
section
variable {K : PySem.W.Frag} {G : Gf} {A : Addr → Prop} {δ : List Sl} {P P' : List (D × V)} {σ : St} {H H' : Hp}
theorem set_get {α : Type} {l : List α} {i j : Nat} {x y : α} (h : (l.set i x)[j]? = some y) : (i = j ∧ x = y ∧ i < l.length) ∨ (i ≠ j ∧ l[j]? = some y) := by
  by_cases e : i = j
  · subst e
    by_cases hl : i < l.length
    · rw [List.getElem?_set_self hl] at h
      exact .inl ⟨rfl, Option.some.inj h, hl⟩
    · rw [List.getElem?_eq_none (by rw [List.length_set]; omega)] at h
      cases h
  · rw [List.getElem?_set_ne e] at h
    exact .inr ⟨e, h⟩
/-- a new thing becomes the frame's own -/
theorem Sx.claim {i : Nat} {a : Addr} {d : D} (s : Sx K G A δ P σ H) (hn : H a = none) (hs : Same H H') (ho : OwnAt K (fun b => (G.M0 b ∨ A b) ∨ b = a) H' a d) (hP : ∀ p ∈ P', p ∈ P) :
    Sx K G (fun b => A b ∨ b = a) (δ.set i (.own a d)) P' (σ.set i (some (.ref a))) H' := by
  have x := s.same hs
  have hM : ∀ b, (G.M0 b ∨ (A b ∨ b = a)) → (G.M0 b ∨ A b) ∨ H b = none := fun b h => by
    rcases h with h | h | h
    · exact .inl (.inl h)
    · exact .inl (.inr h)
    · subst h; exact .inr hn
  have hM2 : ∀ b, (G.M0 b ∨ (A b ∨ b = a)) → ((G.M0 b ∨ A b) ∨ b = a) ∨ H' b = none := fun b h => by
    rcases h with h | h | h
    · exact .inl (.inl (.inl h))
    · exact .inl (.inl (.inr h))
    · exact .inl (.inr h)
  have up : ∀ d v, Rep K (fun b => G.M0 b ∨ A b) H d v → Rep K (fun b => G.M0 b ∨ (A b ∨ b = a)) H' d v := fun d v r => Rep.kp (Kp.of_same hs) _ _ (Rep.more hM _ _ r)
  have na : ∀ b, A b → b ≠ a := fun b h e => s.thr b h (by rw [e]; exact hn)
  have h0 : G.H0 a = none := by
    cases q : G.H0 a with
    | none => rfl
    | some o => exact absurd hn (s.stay a (by rw [q]; exact fun z => nomatch z))
  have hne : H' a ≠ none := by
    cases d with
    | lst ds => obtain ⟨vs, q, _⟩ := ho; rw [q]; exact fun z => nomatch z
    | dct ks ds => obtain ⟨vs, q, _⟩ := ho; rw [q]; exact fun z => nomatch z
    | _ => exact ho.elim
  refine ⟨x.old, x.stay, x.m0, x.pm, fun b h => h.elim (s.new b) fun e => .inl (by rw [e]; exact h0), fun b h => h.elim (x.thr b) fun e => by rw [e]; exact hne, by rw [List.length_set, List.length_set, s.len], fun j d' e => ?_, fun j b d' e => ?_,
    fun j k b d' e' h1 h2 => ?_, fun p hp => up _ _ (s.pnd p (hP p hp))⟩
  · rcases set_get e with ⟨_, z, _⟩ | ⟨hij, e⟩
    · cases z
    · obtain ⟨v, q, r⟩ := s.dat j d' e
      exact ⟨v, by rw [List.getElem?_set_ne hij]; exact q, up _ _ r⟩
  · rcases set_get e with ⟨hij, z, hl⟩ | ⟨hij, e⟩
    · cases z
      subst hij
      exact ⟨by rw [List.getElem?_set_self (by rw [← s.len]; exact hl)], .inr rfl, OwnAt.more hM2 ho⟩
    · obtain ⟨q, r, o⟩ := s.own j b d' e
      refine ⟨by rw [List.getElem?_set_ne hij]; exact q, .inl r, OwnAt.kp (Kp.of_same hs) ?_ (OwnAt.more hM o)⟩
      cases z : H b with
      | none => exact absurd z (s.thr b r)
      | some o' => exact hs b o' z
  · rcases set_get h1 with ⟨hij, z, hl⟩ | ⟨hij, e⟩
    · cases z
      rcases set_get h2 with ⟨hik, _, _⟩ | ⟨hik, e2⟩
      · rw [← hij, ← hik]
      · exact absurd rfl (na _ (s.own k _ _ e2).2.1)
    · rcases set_get h2 with ⟨hik, z, _⟩ | ⟨hik, e2⟩
      · cases z
        exact absurd rfl (na _ (s.own j _ _ e).2.1)
      · exact s.inj j k b d' e' e e2
/-- an own thing is changed -/
theorem Sx.change {i : Nat} {a : Addr} {d d' : D} (s : Sx K G A δ P σ H) (hi : δ[i]? = some (.own a d)) (hk : ∀ b o, b ≠ a → H b = some o → H' b = some o) (ho : OwnAt K (fun b => G.M0 b ∨ A b) H' a d') :
    Sx K G A (δ.set i (.own a d')) P σ H' := by
  obtain ⟨si, ai, oi⟩ := s.own i a d hi
  have hmu : (∀ xs, H a ≠ some (.tup xs)) ∧ ∀ o u, H a ≠ some (.frz o u) := by
    cases d with
    | lst ds => obtain ⟨vs, q, _⟩ := oi; rw [q]; exact ⟨fun _ z => (nomatch z), fun _ _ z => (nomatch z)⟩
    | dct ks ds => obtain ⟨vs, q, _⟩ := oi; rw [q]; exact ⟨fun _ z => (nomatch z), fun _ _ z => (nomatch z)⟩
    | _ => exact oi.elim
  have hne : H' a ≠ none := by
    cases d' with
    | lst ds => obtain ⟨vs, q, _⟩ := ho; rw [q]; exact fun z => nomatch z
    | dct ks ds => obtain ⟨vs, q, _⟩ := ho; rw [q]; exact fun z => nomatch z
    | _ => exact ho.elim
  have kp : Kp (fun b => G.M0 b ∨ A b) H H' := ⟨fun b o e n => hk b o (fun z => n (.inr (by rw [z]; exact ai))) e, fun b xs e => hk b _ (fun z => hmu.1 xs (by rw [← z]; exact e)) e,
    fun b o u e => hk b _ (fun z => hmu.2 o u (by rw [← z]; exact e)) e⟩
  have stay : ∀ b, H b ≠ none → H' b ≠ none := fun b e => by
    by_cases z : b = a
    · rw [z]; exact hne
    · cases q : H b with
      | none => exact absurd q e
      | some o => rw [hk b o z q]; exact fun z => nomatch z
  have na : ∀ b o, G.H0 b = some o → ¬ G.Pm b → b ≠ a := fun b o e n z => (s.new a ai).elim (fun q => by rw [z] at e; rw [e] at q; cases q) fun q => n (by rw [z]; exact q)
  refine ⟨fun b o e n => hk b o (na b o e n) (s.old b o e n), fun b e => stay b (s.stay b e), s.m0, s.pm, s.new, fun b e => stay b (s.thr b e), by rw [List.length_set, s.len], fun j x e => ?_, fun j b x e => ?_, fun j k b x y h1 h2 => ?_,
    fun p hp => Rep.kp kp _ _ (s.pnd p hp)⟩
  · rcases set_get e with ⟨_, z, _⟩ | ⟨hij, e⟩
    · cases z
    · obtain ⟨v, q, r⟩ := s.dat j x e
      exact ⟨v, q, Rep.kp kp _ _ r⟩
  · rcases set_get e with ⟨hij, z, hl⟩ | ⟨hij, e9⟩
    · cases z
      subst hij
      exact ⟨si, ai, ho⟩
    · clear e
      obtain ⟨q, r, o⟩ := s.own j b x e9
      have hb : b ≠ a := fun z => by rw [z] at e9; exact hij (s.inj _ _ _ _ _ hi e9)
      refine ⟨q, r, OwnAt.kp kp ?_ o⟩
      cases z : H b with
      | none => exact absurd z (s.thr b r)
      | some o' => exact hk b o' hb z
  · have hj : ∃ x', δ[j]? = some (.own b x') := by
      rcases set_get h1 with ⟨hij, z, hl⟩ | ⟨hij, e⟩
      · cases z; subst hij; exact ⟨_, hi⟩
      · exact ⟨_, e⟩
    have hk' : ∃ x', δ[k]? = some (.own b x') := by
      rcases set_get h2 with ⟨hij, z, hl⟩ | ⟨hij, e⟩
      · cases z; subst hij; exact ⟨_, hi⟩
      · exact ⟨_, e⟩
    obtain ⟨x1, e1⟩ := hj
    obtain ⟨x2, e2⟩ := hk'
    exact s.inj j k b x1 x2 e1 e2
/-- an own thing is only read from now on -/
theorem OwnAt.rep {M M' : Addr → Prop} {a : Addr} {d : D} (h : OwnAt K M H a d) (n : ¬ M' a) (hM : ∀ b, M' b → M b) : Rep K M' H d (.ref a) := by
  cases d with
  | lst ds =>
    obtain ⟨vs, q, r⟩ := h
    unfold Rep
    exact ⟨a, vs, rfl, n, q, Reps.more (fun b z => .inl (hM b z)) _ _ r⟩
  | dct ks ds =>
    obtain ⟨vs, q, l, r⟩ := h
    unfold Rep
    exact ⟨a, vs, rfl, n, q, l, Reps.more (fun b z => .inl (hM b z)) _ _ r⟩
  | _ => exact h.elim
theorem Sx.freeze {i : Nat} {a : Addr} {d : D} (s : Sx K G A δ P σ H) (hi : δ[i]? = some (.own a d)) (hp : ¬ G.M0 a) : Sx K G (fun b => A b ∧ b ≠ a) (δ.set i (.dat d)) P σ H := by
  obtain ⟨si, ai, oi⟩ := s.own i a d hi
  have hM : ∀ b, (G.M0 b ∨ (A b ∧ b ≠ a)) → (G.M0 b ∨ A b) := fun b h => h.elim .inl fun z => .inr z.1
  have dn : ∀ d v, Rep K (fun b => G.M0 b ∨ A b) H d v → Rep K (fun b => G.M0 b ∨ (A b ∧ b ≠ a)) H d v := fun d v r => Rep.more (fun b z => .inl (hM b z)) _ _ r
  refine ⟨s.old, s.stay, s.m0, s.pm, fun b h => s.new b h.1, fun b h => s.thr b h.1, by rw [List.length_set, s.len], fun j x e => ?_, fun j b x e => ?_, fun j k b x y h1 h2 => ?_, fun p hp => dn _ _ (s.pnd p hp)⟩
  · rcases set_get e with ⟨hij, z, _⟩ | ⟨hij, e⟩
    · cases z; subst hij
      exact ⟨.ref a, si, oi.rep (fun z => z.elim hp fun q => q.2 rfl) hM⟩
    · obtain ⟨v, q, r⟩ := s.dat j x e
      exact ⟨v, q, dn _ _ r⟩
  · rcases set_get e with ⟨_, z, _⟩ | ⟨hij, e9⟩
    · cases z
    · clear e
      obtain ⟨q, r, o⟩ := s.own j b x e9
      have hb : b ≠ a := fun z => by rw [z] at e9; exact hij (s.inj _ _ _ _ _ hi e9)
      exact ⟨q, ⟨r, hb⟩, OwnAt.more (fun b z => .inl (hM b z)) o⟩
  · rcases set_get h1 with ⟨_, z, _⟩ | ⟨_, e1⟩
    · cases z
    · rcases set_get h2 with ⟨_, z, _⟩ | ⟨_, e2⟩
      · cases z
      · exact s.inj j k b x y e1 e2
end
end DL

namespace DL
open PySem PySem.Spec PyProof.Rows L2

inductive W where
  | d (x : D) | o (i : Nat)
abbrev En := List Sl
abbrev TDE := En → (W → En → Prop) → Prop
abbrev TDA := En → (List D → En → Prop) → Prop
abbrev TDT := En → (Bool → En → Prop) → Prop
structure DEnds where
  nx : En → Prop
  rt : D → En → Prop
  bk : En → Prop := fun _ => False
  ct : En → Prop := fun _ => False
  ro : D → Prop := fun _ => False
abbrev TDS := DEnds → En → Prop
abbrev TDG := D → En → (En → Prop) → Prop
abbrev TDGs := List D → En → (En → Prop) → Prop

def wd (R : D → En → Prop) : W → En → Prop
  | .d x, δ => R x δ
  | .o _, _ => False

def up (K : PySem.W.Frag) (t : TDE) : TE := fun σ H Q => ∃ (G : Gf) (δ : En) (P : List (D × V)) (R : W → En → Prop), S K G δ P σ H ∧ t δ R ∧
  (∀ x δ', R (.d x) δ' → ∀ v H', S K G δ' ((x, v) :: P) σ H' → Q v H') ∧ (∀ i δ', R (.o i) δ' → ∀ a d H', S K G δ' P σ H' → δ'[i]? = some (.own a d) → Q (.ref a) H')
def upA (K : PySem.W.Frag) (t : TDA) : TA := fun σ H Q => ∃ (G : Gf) (δ : En) (P : List (D × V)) (R : List D → En → Prop), S K G δ P σ H ∧ t δ R ∧
  ∀ ds δ', R ds δ' → ∀ vs H', ds.length = vs.length → S K G δ' (ds.zip vs ++ P) σ H' → Q vs H'
def upT (K : PySem.W.Frag) (t : TDT) : TT := fun σ H Q => ∃ (G : Gf) (δ : En) (P : List (D × V)) (R : Bool → En → Prop), S K G δ P σ H ∧ t δ R ∧
  ∀ b δ', R b δ' → ∀ H', S K G δ' P σ H' → Q b H'
def upG (K : PySem.W.Frag) (t : TDG) : TG := fun v σ H Q => ∃ (G : Gf) (δ : En) (P : List (D × V)) (d : D) (R : En → Prop), S K G δ ((d, v) :: P) σ H ∧ t d δ R ∧
  ∀ δ', R δ' → ∀ σ' H', S K G δ' P σ' H' → Q σ' H'
def upGs (K : PySem.W.Frag) (t : TDGs) : TGs := fun vs σ H Q => ∃ (G : Gf) (δ : En) (P : List (D × V)) (ds : List D) (R : En → Prop), ds.length = vs.length ∧ S K G δ (ds.zip vs ++ P) σ H ∧ t ds δ R ∧
  ∀ δ', R δ' → ∀ σ' H', S K G δ' P σ' H' → Q σ' H'
/-- a thing of the frame's own is handed back -/
def OwnRet (K : PySem.W.Frag) (G : Gf) (H' : Hp) (a : Addr) (d : D) : Prop := (∀ b o, G.H0 b = some o → ¬ G.Pm b → H' b = some o) ∧ (G.H0 a = none ∨ G.Pm a) ∧ ¬ G.M0 a ∧ OwnAt K (fun b => G.M0 b ∨ b = a) H' a d
def upS (K : PySem.W.Frag) (t : TDS) : TS := fun E σ H => ∃ (G : Gf) (δ : En) (P : List (D × V)) (R : DEnds), S K G δ P σ H ∧ t R δ ∧
  (∀ δ', R.nx δ' → ∀ σ' H', S K G δ' P σ' H' → E.nx σ' H') ∧ ((∀ d δ', R.rt d δ' → ∀ v σ' H', S K G δ' ((d, v) :: P) σ' H' → E.rt v H') ∧ ∀ d, R.ro d → ∀ a H', OwnRet K G H' a d → E.rt (.ref a) H') ∧
  (∀ δ', R.bk δ' → ∀ σ' H', S K G δ' P σ' H' → E.bk σ' H') ∧ (∀ δ', R.ct δ' → ∀ σ' H', S K G δ' P σ' H' → E.ct σ' H')

def DE (X : Cx) (e : Expr) (t : TDE) : Prop := PE X e (up X.K t)
def DA (X : Cx) (es : List Expr) (t : TDA) : Prop := PA X es (upA X.K t)
def DT (X : Cx) (e : Expr) (t : TDT) : Prop := PT X e (upT X.K t)
def DW (X : Cx) (e : Expr) (t : TDT) : Prop := PW X e (upT X.K t)
def DG (X : Cx) (e : Expr) (t : TDG) : Prop := PG X e (upG X.K t)
def DGs (X : Cx) (e : List Expr) (t : TDGs) : Prop := PGs X e (upGs X.K t)
def DS (X : Cx) (st : Stmt) (t : TDS) : Prop := PS X st (upS X.K t)
def DSs (X : Cx) (st : List Stmt) (t : TDS) : Prop := PSs X st (upS X.K t)

section
variable {X : Cx} {e : Expr} {pos : Pos}
theorem PE.imp {t t' : TE} (h : PE X e t) (i : ∀ σ H Q, t' σ H Q → t σ H Q) : PE X e t' := fun pins s σ H Q I q => h pins s σ H Q I (i σ H Q q)
theorem PT.imp {t t' : TT} (h : PT X e t) (i : ∀ σ H Q, t' σ H Q → t σ H Q) : PT X e t' := fun pins s σ H Q I q => h pins s σ H Q I (i σ H Q q)
theorem PW.imp {t t' : TT} (h : PW X e t) (i : ∀ σ H Q, t' σ H Q → t σ H Q) : PW X e t' := fun wh pins s σ H Q I q => h wh pins s σ H Q I (i σ H Q q)
theorem PA.imp {es : List Expr} {t t' : TA} (h : PA X es t) (i : ∀ σ H Q, t' σ H Q → t σ H Q) : PA X es t' := fun p pins s σ H Q I q => h p pins s σ H Q I (i σ H Q q)
theorem PS.imp {st : Stmt} {t t' : TS} (h : PS X st t) (i : ∀ E σ H, t' E σ H → t E σ H) : PS X st t' := fun pins s σ H D I q => h pins s σ H D I (i D σ H q)
theorem PSs.imp {st : List Stmt} {t t' : TS} (h : PSs X st t) (i : ∀ E σ H, t' E σ H → t E σ H) : PSs X st t' := fun pins s σ H D I q => h pins s σ H D I (i D σ H q)
theorem PG.imp {t t' : TG} (h : PG X e t) (i : ∀ v σ H Q, t' v σ H Q → t v σ H Q) : PG X e t' := fun pins s σ H v u Q I r q => h pins s σ H v u Q I r (i v σ H Q q)
theorem PGs.imp {es : List Expr} {t t' : TGs} (h : PGs X es t) (i : ∀ v σ H Q, t' v σ H Q → t v σ H Q) : PGs X es t' := fun pins s σ H v u Q I r q => h pins s σ H v u Q I r (i v σ H Q q)
theorem OpR.imp {f : Value → Value → Sem Value} {r r' : R2} (h : OpR X f r) (i : ∀ x y H Q, r' x y H Q → r x y H Q) : OpR X f r' := fun pins s σ H x y v u Q I rx ry q => h pins s σ H x y v u Q I rx ry (i x y H Q q)
theorem UnR.imp {f : Value → Sem Value} {r r' : V → Hp → VK → Prop} (h : UnR X f r) (i : ∀ x H Q, r' x H Q → r x H Q) : UnR X f r' := fun pins s σ H x v Q I rx q => h pins s σ H x v Q I rx (i x H Q q)
theorem CallR.imp {f : Value} {r r' : List V → Hp → VK → Prop} (h : CallR X f r) (i : ∀ xs H Q, r' xs H Q → r xs H Q) : CallR X f r' := fun pins s σ H x v Q I rx q => h pins s σ H x v Q I rx (i x H Q q)
theorem IxR.imp {r r' : R2} (h : IxR X r) (i : ∀ x y H Q, r' x y H Q → r x y H Q) : IxR X r' := fun value slice pins s σ H x y v u Q I rx ry q hs => h value slice pins s σ H x y v u Q I rx ry (i x y H Q q) hs
end

section
variable {K : PySem.W.Frag} {G : Gf} {δ : En} {P : List (D × V)} {σ : L2.St} {H : Hp}
theorem up.mk {t : TDE} {R : D → En → Prop} {Q : VK} (s : S K G δ P σ H) (h : t δ (wd R)) (k : ∀ x δ', R x δ' → ∀ v H', S K G δ' ((x, v) :: P) σ H' → Q v H') : up K t σ H Q := ⟨G, δ, P, wd R, s, h, k, fun _ _ z => z.elim⟩
theorem S.dat {i : Nat} {d : D} (s : S K G δ P σ H) (e : δ[i]? = some (.dat d)) : ∃ v, σ[i]? = some (some v) ∧ S K G δ ((d, v) :: P) σ H := by
  obtain ⟨A, x⟩ := s
  obtain ⟨v, q, r⟩ := x.dat i d e
  exact ⟨v, q, A, x.push r⟩
theorem S.own {i : Nat} {a : Addr} {d : D} (s : S K G δ P σ H) (e : δ[i]? = some (.own a d)) : σ[i]? = some (some (.ref a)) := let ⟨_, x⟩ := s; (x.own i a d e).1
/-- a scalar -/
def sc : D → Option V
  | .non => some .non
  | .bl b => some (.bl b)
  | .int i => some (.int i)
  | .str x => some (.str x)
  | _ => none
theorem Rep.sc {M : Addr → Prop} {d : D} {v : V} (h : sc d = some v) : Rep K M H d v := by
  cases d <;> simp only [DL.sc, Option.some.injEq, reduceCtorEq] at h <;> subst h <;> unfold Rep <;> rfl
theorem S.sc {d : D} {v : V} (s : S K G δ P σ H) (h : sc d = some v) : S K G δ ((d, v) :: P) σ H := let ⟨A, x⟩ := s; ⟨A, x.push (Rep.sc h)⟩
end

/-! ### expressions -/
def dV (i : Nat) : TDE := fun δ R => ∃ d, δ[i]? = some (.dat d) ∧ R (.d d) δ
def dO (i : Nat) : TDE := fun δ R => ∃ a d, δ[i]? = some (.own a d) ∧ R (.o i) δ
def dC (d : D) : TDE := fun δ R => R (.d d) δ
def dOp (f : List D → (D → Prop) → Prop) (ta tb : TDE) : TDE := fun δ R => ta δ (wd fun x δ1 => tb δ1 (wd fun y δ2 => f [x, y] fun d => R (.d d) δ2))
def dUn (f : List D → (D → Prop) → Prop) (ta : TDE) : TDE := fun δ R => ta δ (wd fun x δ1 => f [x] fun d => R (.d d) δ1)
def dANil : TDA := fun δ R => R [] δ
def dACons (te : TDE) (t : TDA) : TDA := fun δ R => te δ (wd fun x δ1 => t δ1 fun ds δ2 => R (x :: ds) δ2)
def dCall (f : List D → (D → Prop) → Prop) (t : TDA) : TDE := fun δ R => t δ fun ds δ1 => f ds fun d => R (.d d) δ1
def dTup (t : TDA) : TDE := fun δ R => t δ fun ds δ1 => ds.length ≤ 1000 ∧ R (.d (.tup ds)) δ1
def dLst (t : TDA) : TDE := fun δ R => t δ fun ds δ1 => ds.length ≤ 1000 ∧ R (.d (.lst ds)) δ1
def dTst (t : TDE) : TDT := fun δ R => t δ (wd fun x δ1 => ∃ b, x = .bl b ∧ R b δ1)
def dAnd (t u : TDT) : TDT := fun δ R => t δ fun b δ1 => if b = true then u δ1 R else R false δ1
def dOr (t u : TDT) : TDT := fun δ R => t δ fun b δ1 => if b = true then R true δ1 else u δ1 R
def dNot (t : TDT) : TDT := fun δ R => t δ fun b δ1 => R (!b) δ1
def dAndV (t u : TDE) : TDE := fun δ R => t δ (wd fun x δ1 => ∃ b, x = .bl b ∧ if b = true then u δ1 R else R (.d (.bl false)) δ1)
def dOrV (t u : TDE) : TDE := fun δ R => t δ (wd fun x δ1 => ∃ b, x = .bl b ∧ if b = true then R (.d (.bl true)) δ1 else u δ1 R)
def dNotV (t : TDE) : TDE := fun δ R => t δ (wd fun x δ1 => ∃ b, x = .bl b ∧ R (.d (.bl (!b))) δ1)
def dIfE (c : TDT) (t u : TDE) : TDE := fun δ R => c δ fun b δ1 => if b = true then t δ1 R else u δ1 R

section
variable {X : Cx} {pos : Pos} {a b c : Expr} {ta tb : TDE} {t : TDA} {f : List D → (D → Prop) → Prop} {es : List Expr}
theorem de_v (i : Nat) {x : Str} (hN : X.N[i]? = some x := by rfl) (hv : Vis X.env.scope x := by first | exact Or.inl rfl | exact Or.inr (Or.inl rfl) | exact Or.inr (Or.inr rfl)) (hd : (x == ("__debug__" : Str)) = false := by decide)
    (hcd : (x == ("__classdict__" : Str)) = false := by decide) : DE X (.Name x pos) (dV i) := PE.imp (pe_var hN hv hd hcd) fun σ H Q ⟨G, δ, P, R, s, ⟨d, e, r⟩, k, _⟩ => by
  obtain ⟨v, q, s'⟩ := s.dat e
  exact ⟨v, q, k d δ r v H s'⟩
theorem de_c {v : V} {d : D} (h : PE X a (tC v)) (hs : sc d = some v) : DE X a (dC d) := PE.imp h fun σ H Q ⟨G, δ, P, R, s, r, k, _⟩ => k d δ r v H (s.sc hs)
theorem de_int {i j pos} : DE X (.Constant (.int i) j pos) (dC (.int i)) := de_c pe_int rfl
theorem de_bl {i j pos} : DE X (.Constant (.bool i) j pos) (dC (.bl i)) := de_c pe_bl rfl
theorem de_str {x j pos} : DE X (.Constant (.str x) j pos) (dC (.str x)) := de_c pe_str rfl
theorem de_op {op : Operator} (ho : OpR X (binaryOp op) fun x y => pureR X.K f [x, y]) (ha : DE X a ta) (hb : DE X b tb) : DE X (.BinOp a op b pos) (dOp f ta tb) :=
  PE.imp (pe_op ho ha hb) fun σ H Q ⟨G, δ, P, R, s, h, k, _⟩ => up.mk s h fun x δ1 h1 v H1 s1 => up.mk s1 h1 fun y δ2 h2 u H2 s2 =>
    S.pure (P' := P) (ds := [x, y]) (vs := [v, u]) s2 rfl (by simp) (fun p hp => by simp [hp]) h2 fun d r v' H' s' => k d δ2 r v' H' s'
theorem de_cmp {op : CmpOp} (ho : OpR X (compareOp op) fun x y => pureR X.K f [x, y]) (ha : DE X a ta) (hb : DE X b tb) (hm : behindInMarks op b = false) : DE X (.Compare a [op] [b] pos) (dOp f ta tb) :=
  PE.imp (pe_cmpR ho ha hb hm) fun σ H Q ⟨G, δ, P, R, s, h, k, _⟩ => up.mk s h fun x δ1 h1 v H1 s1 => up.mk s1 h1 fun y δ2 h2 u H2 s2 =>
    S.pure (P' := P) (ds := [x, y]) (vs := [v, u]) s2 rfl (by simp) (fun p hp => by simp [hp]) h2 fun d r v' H' s' => k d δ2 r v' H' s'
theorem dt_cmp {op : CmpOp} (ho : OpR X (compareOp op) fun x y => pureR X.K f [x, y]) (ha : DE X a ta) (hb : DE X b tb) (hm : behindInMarks op b = false) : DT X (.Compare a [op] [b] pos) (dTst (dOp f ta tb)) :=
  PT.imp (pt_cmpR ho ha hb hm) fun σ H Q ⟨G, δ, P, R, s, h, k⟩ => up.mk s h fun x δ1 h1 v H1 s1 => up.mk s1 h1 fun y δ2 h2 u H2 s2 =>
    S.pure (P' := P) (ds := [x, y]) (vs := [v, u]) s2 rfl (by simp) (fun p hp => by simp [hp]) h2 fun d r v' H' s' => by
      obtain ⟨b, e, r⟩ := r
      subst e
      have q := s'
      obtain ⟨A, q⟩ := q
      have q2 := q.pnd (.bl b, v') (by simp)
      simp only [Rep] at q2
      exact ⟨b, q2, k b δ2 r H' (s'.sub fun p hp => by simp [hp])⟩
theorem de_un {op : UnaryOp} (ho : UnR X (unaryOp op) fun x => pureR X.K f [x]) (ha : DE X a ta) : DE X (.UnaryOp op a pos) (dUn f ta) :=
  PE.imp (pe_un ho ha) fun σ H Q ⟨G, δ, P, R, s, h, k, _⟩ => up.mk s h fun x δ1 h1 v H1 s1 =>
    S.pure (P' := P) (ds := [x]) (vs := [v]) s1 rfl (by simp) (fun p hp => by simp [hp]) h1 fun d r v' H' s' => k d δ1 r v' H' s'
/-- any expression of a truth as a test -/
theorem dt_val (h : DE X a ta) (he : ∀ whole, isTrue a X.env whole = (do let v ← whole; standAt a.pos; holding [v] (truthy v)) := by intro _; rfl) : DT X a (dTst ta) :=
  PT.imp (pt_val h he) fun σ H Q ⟨G, δ, P, R, s, h, k⟩ => up.mk s h fun x δ1 h1 v H1 s1 => by
    obtain ⟨b, e, r⟩ := h1
    subst e
    obtain ⟨A, q⟩ := id s1
    have q2 := q.pnd (.bl b, v) (by simp)
    simp only [Rep] at q2
    exact ⟨b, q2, k b δ1 r H1 (s1.sub fun p hp => by simp [hp])⟩
variable {tA tB' : TDT} {rest : List Expr}
theorem DW.dt (h : DW X a tA) : DT X a tA := PW.pt h
theorem dw_and1 (ha : DT X a tA) : DW X (.BoolOp .And [a] pos) tA := pw_and1 ha
theorem dw_or1 (ha : DT X a tA) : DW X (.BoolOp .Or [a] pos) tA := pw_or1 ha
theorem dw_and (ha : DT X a tA) (hb : DW X (.BoolOp .And (b :: rest) pos) tB') : DW X (.BoolOp .And (a :: b :: rest) pos) (dAnd tA tB') :=
  PW.imp (pw_and ha hb) fun σ H Q ⟨G, δ, P, R, s, h, k⟩ => ⟨G, δ, P, _, s, h, fun b δ1 h1 H1 s1 => by
    cases b with
    | true => exact ⟨G, δ1, P, R, s1, h1, k⟩
    | false => exact k false δ1 h1 H1 s1⟩
theorem dw_or (ha : DT X a tA) (hb : DW X (.BoolOp .Or (b :: rest) pos) tB') : DW X (.BoolOp .Or (a :: b :: rest) pos) (dOr tA tB') :=
  PW.imp (pw_or ha hb) fun σ H Q ⟨G, δ, P, R, s, h, k⟩ => ⟨G, δ, P, _, s, h, fun b δ1 h1 H1 s1 => by
    cases b with
    | true => exact k true δ1 h1 H1 s1
    | false => exact ⟨G, δ1, P, R, s1, h1, k⟩⟩
theorem dt_not (ha : DT X a tA) : DT X (.UnaryOp .Not a pos) (dNot tA) :=
  PT.imp (pt_not ha) fun σ H Q ⟨G, δ, P, R, s, h, k⟩ => ⟨G, δ, P, _, s, h, fun b δ1 h1 H1 s1 => k _ δ1 h1 H1 s1⟩
theorem bl_of {K : PySem.W.Frag} {G : Gf} {δ : En} {P : List (D × V)} {σ : L2.St} {H : Hp} {b : Bool} {v : V} (s : S K G δ ((.bl b, v) :: P) σ H) : v = .bl b := by
  obtain ⟨A, q⟩ := s
  have q2 := q.pnd (.bl b, v) (by simp)
  simpa only [Rep] using q2
theorem de_one {op} (h : DE X a ta) : DE X (.BoolOp op [a] pos) ta := pe_one h
theorem de_and (ha : DE X a ta) (hb : DE X (.BoolOp .And (b :: rest) pos) tb) : DE X (.BoolOp .And (a :: b :: rest) pos) (dAndV ta tb) :=
  PE.imp (pe_and ha hb) fun σ H Q ⟨G, δ, P, R, s, h, k, k2⟩ => up.mk s h fun x δ1 h1 v H1 s1 => by
    obtain ⟨b, e, r⟩ := h1
    subst e
    refine ⟨b, bl_of s1, ?_⟩
    cases b with
    | true => exact ⟨G, δ1, P, R, s1.sub fun p hp => by simp [hp], r, k, k2⟩
    | false => exact k (.bl false) δ1 r _ H1 (by rw [← bl_of s1]; exact s1)
theorem de_or (ha : DE X a ta) (hb : DE X (.BoolOp .Or (b :: rest) pos) tb) : DE X (.BoolOp .Or (a :: b :: rest) pos) (dOrV ta tb) :=
  PE.imp (pe_or ha hb) fun σ H Q ⟨G, δ, P, R, s, h, k, k2⟩ => up.mk s h fun x δ1 h1 v H1 s1 => by
    obtain ⟨b, e, r⟩ := h1
    subst e
    refine ⟨b, bl_of s1, ?_⟩
    cases b with
    | false => exact ⟨G, δ1, P, R, s1.sub fun p hp => by simp [hp], r, k, k2⟩
    | true => exact k (.bl true) δ1 r _ H1 (by rw [← bl_of s1]; exact s1)
theorem da_nil : DA X [] dANil := PA.imp pa_nil fun σ H Q ⟨G, δ, P, R, s, h, k⟩ => k [] δ h [] H rfl s
theorem da_cons (ha : DE X a ta) (hr : DA X es t) (hs : starEach (a :: es) X.env = (false, eval a X.env) :: starEach es X.env := by rfl) : DA X (a :: es) (dACons ta t) :=
  PA.imp (pa_cons ha hr hs) fun σ H Q ⟨G, δ, P, R, s, h, k⟩ => up.mk s h fun x δ1 h1 v H1 s1 => ⟨G, δ1, (x, v) :: P, _, s1, h1, fun ds δ2 h2 vs H2 hl s2 =>
    k (x :: ds) δ2 h2 (v :: vs) H2 (by simp [hl]) (s2.sub fun p hp => by
      simp only [List.zip_cons_cons, List.cons_append, List.mem_cons, List.mem_append] at hp ⊢
      rcases hp with h | h | h
      · exact .inr (.inl h)
      · exact .inl h
      · exact .inr (.inr h))⟩
theorem same_new {H : Hp} {p : Addr} (h : H p = none) (o : HO) : Same H (upd H p o) := fun b u q => by rw [upd_ne (ne_of_none q h)]; exact q
theorem small {n : Nat} (h : n ≤ 1000) : n ≤ sizeLine := Nat.le_of_lt (small1000 h)
theorem de_tup {x1} (h : DA X es t) : DE X (.Tuple es x1 pos) (dTup t) :=
  PE.imp (pe_tup h) fun σ H Q ⟨G, δ, P, R, s, h, k, _⟩ => ⟨G, δ, P, _, s, h, fun ds δ1 ⟨hz, h1⟩ vs H1 hl s1 => ⟨by rw [← hl]; exact small hz, fun p hp => by
    obtain ⟨A, x⟩ := s1
    have r := x.reps ds vs hl (fun q hq => List.mem_append_left _ hq)
    have x2 := x.same (same_new hp (.tup vs))
    refine k (.tup ds) δ1 h1 (.ref p) _ ⟨A, (x2.sub fun q hq => List.mem_append_right _ hq).push ?_⟩
    unfold Rep
    exact ⟨p, vs, rfl, SqT.of upd_same, Reps.kp (Kp.of_same (same_new hp _)) _ _ r⟩⟩⟩
theorem de_lst (h : DA X es t) : DE X (.List es pos) (dLst t) :=
  PE.imp (pe_lst h) fun σ H Q ⟨G, δ, P, R, s, h, k, _⟩ => ⟨G, δ, P, _, s, h, fun ds δ1 ⟨hz, h1⟩ vs H1 hl s1 => ⟨by rw [← hl]; exact small hz, fun p hp => by
    obtain ⟨A, x⟩ := s1
    have r := x.reps ds vs hl (fun q hq => List.mem_append_left _ hq)
    have x2 := x.same (same_new hp (.lst vs))
    refine k (.lst ds) δ1 h1 (.ref p) _ ⟨A, (x2.sub fun q hq => List.mem_append_right _ hq).push ?_⟩
    unfold Rep
    exact ⟨p, vs, rfl, fun z => x.mem p z hp, upd_same, Reps.kp (Kp.of_same (same_new hp _)) _ _ r⟩⟩⟩
theorem de_ix (hr : IxR X fun x y => pureR X.K f [x, y]) (ha : DE X a ta) (hb : DE X b tb) (hs : PlainIx b) : DE X (.Subscript a b pos) (dOp f ta tb) :=
  PE.imp (pe_ix hr ha hb hs) fun σ H Q ⟨G, δ, P, R, s, h, k, _⟩ => up.mk s h fun x δ1 h1 v H1 s1 => up.mk s1 h1 fun y δ2 h2 u H2 s2 =>
    S.pure (P' := P) (ds := [x, y]) (vs := [v, u]) s2 rfl (by simp) (fun p hp => by simp [hp]) h2 fun d r v' H' s' => k d δ2 r v' H' s'
/-- what a pure def promises -/
def spD (K : PySem.W.Frag) (f : List D → (D → Prop) → Prop) : Sp := fun vs H Q _ => pureR K f vs H Q
theorem call_red {K : PySem.W.Frag} {σ : L2.St} {H : Hp} {Q : VK} {f : List D → (D → Prop) → Prop} (h : up K (dCall f t) σ H Q) : upA K t σ H fun vs H1 => pureR K f vs H1 Q := by
  obtain ⟨G, δ, P, R, s, h, k, _⟩ := h
  exact ⟨G, δ, P, _, s, h, fun ds δ1 h1 vs H1 hl s1 => S.pure (P' := P) s1 hl (fun p hp => List.mem_append_left _ hp) (fun p hp => List.mem_append_right _ hp) h1 fun d r v' H' s' => k d δ1 r v' H' s'⟩
theorem de_call {x : Str} {k : Nat} {g : Addr} {fd : FuncData} {ps : List Str} {p : Pos} (F : FnOk X.prog X.w X.K X.mg X.base CX0 k g fd ps (spD X.K f)) (hr : Room k X.A) (hg : Gl X x) (hm : X.mg x = some (.ref g)) (hk : PySem.W.keepIn X.K (.ref g) = true)
    (hb : Binds X.K fd ps []) (ha : DA X (a :: es) t) (hdb : (x == ("__debug__" : Str)) = false := by decide) (he : starEach (a :: es) X.env = (false, eval a X.env) :: starEach es X.env := by rfl) (hpl : (backTo pos (starEach es X.env)).any (·.1) = false := by rfl) :
    DE X (.Call (.Name x p) (a :: es) [] pos) (dCall f t) :=
  PE.imp (pe_call F hr hg hm hk hb .nil pass0 ha hdb he hpl) fun σ H Q h => by
    show upA X.K t σ H fun vs H1 => pureR X.K f (vs ++ []) H1 Q
    have q := call_red h
    simpa only [List.append_nil] using q
theorem de_callB {x : Str} {id : String} {p : Pos} (hc : CallR X (.builtin id) (pureR X.K f)) (hg : Gl X x) (hm : X.mg x = none) (hv : bootBuiltins x = some (.builtin id)) (ha : DA X (a :: es) t) (hn : x ≠ "__name__" := by decide) (hdb : (x == ("__debug__" : Str)) = false := by decide)
    (he : starEach (a :: es) X.env = (false, eval a X.env) :: starEach es X.env := by rfl) (hpl : (backTo pos (starEach es X.env)).any (·.1) = false := by rfl) : DE X (.Call (.Name x p) (a :: es) [] pos) (dCall f t) :=
  PE.imp (pe_callB hc hg hm hv ha hn hdb he hpl) fun σ H Q h => call_red h
theorem de_callTy {x : Str} {T : String} {p : Pos} (hc : CallR X (.type T) (pureR X.K f)) (hg : Gl X x) (hm : X.mg x = none) (hv : bootBuiltins x = some (.type T)) (ha : DA X (a :: es) t) (hn : x ≠ "__name__" := by decide) (hdb : (x == ("__debug__" : Str)) = false := by decide)
    (he : starEach (a :: es) X.env = (false, eval a X.env) :: starEach es X.env := by rfl) (hpl : (backTo pos (starEach es X.env)).any (·.1) = false := by rfl) : DE X (.Call (.Name x p) (a :: es) [] pos) (dCall f t) :=
  PE.imp (pe_callTy hc hg hm hv ha hn hdb he hpl) fun σ H Q h => call_red h
end

/-! ### statements -/
def dNext : TDS := fun R δ => R.nx δ
def dSeq (t u : TDS) : TDS := fun R δ => t { R with nx := u R } δ
def dDrop (t : TDE) : TDS := fun R δ => t δ fun _ δ1 => R.nx δ1
def dRet (t : TDE) : TDS := fun R δ => t δ (wd fun x δ1 => R.rt x δ1)
def dIf (c : TDT) (t u : TDS) : TDS := fun R δ => c δ fun b δ1 => if b = true then t R δ1 else u R δ1
def dNever : TDS := fun _ _ => False
def dSet (i : Nat) (t : TDE) : TDS := fun R δ => t δ (wd fun x δ1 => R.nx (δ1.set i (.dat x)))
def dAsg (t : TDE) (g : TDG) : TDS := fun R δ => t δ (wd fun x δ1 => g x δ1 R.nx)
def dPar (i j : Nat) (t : TDA) : TDS := fun R δ => t δ fun ds δ1 => ∃ x y, ds = [x, y] ∧ R.nx ((δ1.set i (.dat x)).set j (.dat y))
def dgName (i : Nat) : TDG := fun x δ R => R (δ.set i (.dat x))
def dgNil : TDGs := fun ds δ R => ds = [] ∧ R δ
def dgCons (t : TDG) (u : TDGs) : TDGs := fun ds δ R => ∃ x r, ds = x :: r ∧ t x δ fun δ1 => u r δ1 R
def dgTup (n : Nat) (t : TDGs) : TDG := fun d δ R => ∃ xs, d = .tup xs ∧ xs.length = n ∧ t xs δ R
def dWhile (c : TDT) (tb : TDS) : TDS := fun R δ => ∃ (I : En → Prop) (μ : En → Nat), I δ ∧ ∀ δ, I δ → c δ fun b δ1 =>
  if b = true then tb { R with nx := fun δ' => I δ' ∧ μ δ' < μ δ, ct := fun δ' => I δ' ∧ μ δ' < μ δ, bk := R.nx } δ1 else R.nx δ1
def dForL (t : TDE) (g : TDG) (tb : TDS) : TDS := fun R δ => t δ (wd fun d δ1 => ∃ xs, d = .lst xs ∧ ∃ I : Nat → En → Prop, I 0 δ1 ∧
  (∀ i x δ', xs[i]? = some x → I i δ' → g x δ' fun δ2 => tb { R with nx := I (i + 1), ct := I (i + 1), bk := R.nx } δ2) ∧ ∀ δ', I xs.length δ' → R.nx δ')
def dForT (t : TDE) (g : TDG) (tb : TDS) : TDS := fun R δ => t δ (wd fun d δ1 => ∃ xs, d = .tup xs ∧ ∃ I : Nat → En → Prop, I 0 δ1 ∧
  (∀ i x δ', xs[i]? = some x → I i δ' → g x δ' fun δ2 => tb { R with nx := I (i + 1), ct := I (i + 1), bk := R.nx } δ2) ∧ ∀ δ', I xs.length δ' → R.nx δ')
def dForR (t : TDA) (g : TDG) (tb : TDS) : TDS := fun R δ => t δ fun ds δ1 => ∃ j : Int, ds = [.int j] ∧ -(2 ^ 62) ≤ j ∧ j < 2 ^ 62 ∧ ∃ I : Nat → En → Prop, I 0 δ1 ∧
  (∀ i δ', i < j.toNat → I i δ' → g (.int i) δ' fun δ2 => tb { R with nx := I (i + 1), ct := I (i + 1), bk := R.nx } δ2) ∧ ∀ δ', I j.toNat δ' → R.nx δ'

section
variable {X : Cx} {pos : Pos} {a b c e tg : Expr} {ta : TDE} {tA : TDT} {t u : TDS} {st : Stmt} {rest body : List Stmt} {g : TDG} {gs : TDGs} {tda : TDA}
theorem dss_nil : DSs X [] dNext := PSs.imp pss_nil fun E σ H ⟨G, δ, P, R, s, h, k, _⟩ => k δ h σ H s
theorem dss_cons (h1 : DS X st t) (h2 : DSs X rest u) : DSs X (st :: rest) (dSeq t u) :=
  PSs.imp (pss_cons h1 h2) fun E σ H ⟨G, δ, P, R, s, h, k1, k2, k3, k4⟩ => ⟨G, δ, P, { R with nx := u R }, s, h, fun δ' h' σ' H' s' => ⟨G, δ', P, R, s', h', k1, k2, k3, k4⟩, k2, k3, k4⟩
theorem dss_one (h1 : DS X st t) : DSs X [st] t := pss_one h1
theorem ds_expr (he : DE X e ta) (hs : swapsWith e none pos.line X.env = pure false := by rfl) : DS X (.Expr e pos) (dDrop ta) :=
  PS.imp (ps_expr he hs) fun E σ H ⟨G, δ, P, R, s, h, k, _⟩ => ⟨G, δ, P, _, s, h, fun x δ1 h1 v H1 s1 => k δ1 h1 σ H1 (s1.sub fun p hp => by simp [hp]), fun i δ1 h1 a d H1 s1 _ => k δ1 h1 σ H1 s1⟩
theorem ds_ret (he : DE X e ta) : DS X (.Return (some e) pos) (dRet ta) :=
  PS.imp (ps_ret he) fun E σ H ⟨G, δ, P, R, s, h, _, k, _⟩ => up.mk s h fun x δ1 h1 v H1 s1 => k.1 x δ1 h1 v σ H1 s1
theorem ds_if {aa bb : List Stmt} (hc : DT X c tA) (ha : DSs X aa t) (hb : DSs X bb u) : DS X (.If c aa bb pos) (dIf tA t u) :=
  PS.imp (ps_if hc ha hb) fun E σ H ⟨G, δ, P, R, s, h, k1, k2, k3, k4⟩ => ⟨G, δ, P, _, s, h, fun b δ1 h1 H1 s1 => by
    cases b with
    | true => exact ⟨G, δ1, P, R, s1, h1, k1, k2, k3, k4⟩
    | false => exact ⟨G, δ1, P, R, s1, h1, k1, k2, k3, k4⟩⟩
theorem ds_set (i : Nat) {x : Str} {pos' : Pos} (hN : X.N.Nodup) (he : DE X e ta) (hi : X.N[i]? = some x := by rfl) (hx : Loc X.env.scope x := by first | exact Or.inl rfl | exact Or.inr rfl) (hs : swapsWith e (some (.Name x pos')) pos.line X.env = pure false := by rfl)
    (hf : X.fn x = true ∨ X.env.scope.names.lookup x = some .local := by first | exact .inl rfl | exact .inr rfl | assumption) : DS X (.Assign [.Name x pos'] e pos) (dSet i ta) :=
  PS.imp (ps_set hN hi hx he hs hf) fun E σ H ⟨G, δ, P, R, s, h, k, _⟩ => up.mk s h fun x δ1 h1 v H1 s1 => k _ h1 _ H1 (s1.set (by simp) fun p hp => by simp [hp])
theorem dg_name (i : Nat) {x : Str} (hN : X.N.Nodup) (hi : X.N[i]? = some x := by rfl) (hx : Loc X.env.scope x := by first | exact Or.inl rfl | exact Or.inr rfl) (hf : X.fn x = true ∨ X.env.scope.names.lookup x = some .local := by first | exact .inl rfl | exact .inr rfl | assumption) :
    DG X (.Name x pos) (dgName i) := PG.imp (pg_name hN hi hx hf) fun v σ H Q ⟨G, δ, P, d, R, s, h, k⟩ => k _ h _ H (s.set (by simp) fun p hp => by simp [hp])
theorem dgs_nil : DGs X [] dgNil := PGs.imp pgs_nil fun vs σ H Q ⟨G, δ, P, ds, R, hl, s, ⟨e, h⟩, k⟩ => by
  subst e
  have : vs = [] := List.length_eq_zero_iff.mp hl.symm
  subst this
  exact ⟨rfl, k δ h σ H s⟩
theorem dgs_cons {es : List Expr} (h1 : DG X e g) (h2 : DGs X es gs) (hs : (assignEach (e :: es) X.env).map (·.2) = assign e X.env :: (assignEach es X.env).map (·.2) := by rfl) : DGs X (e :: es) (dgCons g gs) :=
  PGs.imp (pgs_cons h1 h2 hs) fun vs σ H Q ⟨G, δ, P, ds, R, hl, s, ⟨x, r, e, h⟩, k⟩ => by
    subst e
    cases vs with
    | nil => cases hl
    | cons v vs =>
      refine ⟨v, vs, rfl, G, δ, r.zip vs ++ P, x, _, s.sub fun p hp => by simpa using hp, h, fun δ1 h1 σ1 H1 s1 => ⟨G, δ1, P, r, R, Nat.succ.inj hl, s1, h1, k⟩⟩
theorem dg_tup {es : List Expr} {kk n : Nat} (hc : X.calm = true) (h : DGs X es gs) (hn : (assignEach es X.env).length = n := by rfl) (hst : (assignEach es X.env).findIdx? (·.1) = none := by rfl) : DG X (.Tuple es kk pos) (dgTup n gs) :=
  PG.imp (pg_tup hc h hn hst) fun v σ H Q ⟨G, δ, P, d, R, s, ⟨xs, e, hl, h⟩, k⟩ => by
    subst e
    obtain ⟨A, x⟩ := s
    have q := x.pnd (.tup xs, v) (by simp)
    simp only [Rep] at q
    obtain ⟨a, vs, e, sq, r⟩ := q
    subst e
    refine ⟨a, vs, rfl, sq, by rw [← Reps.length _ _ r]; exact hl, G, δ, P, xs, R, Reps.length _ _ r, ⟨A, ?_⟩, h, k⟩
    exact ⟨x.old, x.stay, x.m0, x.pm, x.new, x.thr, x.len, x.dat, x.own, x.inj, fun p hp => by
      rcases List.mem_append.mp hp with hp | hp
      · obtain ⟨i, hi, e⟩ := List.mem_iff_getElem.mp hp
        have h1 : i < xs.length := by rw [List.length_zip] at hi; omega
        have h2 : i < vs.length := by rw [List.length_zip] at hi; omega
        obtain ⟨v', e', r'⟩ := Reps.get _ _ r i xs[i] (by simp [h1])
        have : p = (xs[i], vs[i]) := by rw [← e, List.getElem_zip]
        rw [this]
        rw [List.getElem?_eq_getElem h2] at e'
        cases e'
        exact r'
      · exact x.pnd p (by simp [hp])⟩
theorem ds_while (hp : PassesOwn (model X.prog X.w) X.A X.env X.xe) (hc : DT X c tA) (hb : DSs X body t) : DS X (.While c body [] pos) (dWhile tA t) :=
  PS.imp (ps_while hp hc hb) fun E σ H ⟨G, δ, P, R, s, ⟨I, μ, i0, turn⟩, k1, k2, k3, k4⟩ => by
    refine ⟨fun m σ H => ∃ δ, m = μ δ ∧ I δ ∧ S X.K G δ P σ H, ⟨_, δ, rfl, i0, s⟩, ?_⟩
    rintro m σ H ⟨δ, rfl, i, s⟩
    refine ⟨G, δ, P, _, s, turn δ i, fun b δ1 h1 H1 s1 => ?_⟩
    cases b with
    | false => exact k1 δ1 h1 σ H1 s1
    | true =>
      refine ⟨fun σ' H' => ∃ δ', (I δ' ∧ μ δ' < μ δ) ∧ S X.K G δ' P σ' H', fun σ' H' ⟨δ', ⟨i', l⟩, s'⟩ => ⟨_, l, δ', rfl, i', s'⟩, ?_⟩
      exact ⟨G, δ1, P, _, s1, h1, fun δ' h' σ' H' s' => ⟨δ', h', s'⟩, k2, k1, fun δ' h' σ' H' s' => ⟨δ', h', s'⟩⟩
theorem ds_forL (hp : PassesOwn (model X.prog X.w) X.A X.env X.xe) (hc : X.calm = true) (hi : DE X e ta) (hg : DG X tg g) (hb : DSs X body t) (hs : ∀ x, foldedSetIterable e X.env x = pure x := by intro _; rfl) : DS X (.For tg e body [] pos) (dForL ta g t) :=
  PS.imp (ps_for hp hc (pi_list hi) hg hb hs) fun E σ H ⟨G, δ, P, R, s, h, k1, k2, k3, k4⟩ => up.mk s h fun d δ1 h1 v H1 s1 => by
    obtain ⟨xs, e, I, i0, turn, fin⟩ := h1
    subst e
    have hat : ∀ δ σ H, S X.K G δ ((.lst xs, v) :: P) σ H → ∃ a vs, v = .ref a ∧ SqL X.K H a vs ∧ vs.length = xs.length := fun δ σ H ⟨A, x⟩ => by
      have q := x.pnd (.lst xs, v) (by simp)
      simp only [Rep] at q
      obtain ⟨a, vs, e, _, l, r⟩ := q
      exact ⟨a, vs, e, SqL.of l, (Reps.length _ _ r).symm⟩
    have hev : ∃ a vs, v = .ref a ∧ SqL X.K H1 a vs ∧ vs.length = xs.length := hat _ _ _ s1
    obtain ⟨a, vs0, rfl, hsq, hl0⟩ := hev
    refine ⟨a, rfl, ⟨vs0, hsq⟩, fun i m σ H => m = xs.length - i ∧ i ≤ xs.length ∧ ∃ δ, I i δ ∧ S X.K G δ ((.lst xs, .ref a) :: P) σ H, ⟨xs.length, by simp, Nat.zero_le _, δ1, i0, s1⟩, ?_⟩
    rintro i m σ H ⟨rfl, hi, δ', ii, s'⟩
    obtain ⟨A, x⟩ := id s'
    have q := x.pnd (.lst xs, .ref a) (by simp)
    simp only [Rep] at q
    obtain ⟨a', vs, e, _, l, r⟩ := q
    cases e
    have l : SqL X.K H a vs := SqL.of l
    have hl : xs.length = vs.length := Reps.length _ _ r
    by_cases hlt : i < xs.length
    · obtain ⟨v', e', r'⟩ := Reps.get _ _ r i xs[i] (by simp [hlt])
      refine .inr ⟨⟨vs, v', l, e'⟩, fun σ' H' => ∃ δ', I (i + 1) δ' ∧ S X.K G δ' ((.lst xs, .ref a) :: P) σ' H', fun σ' H' ⟨δ', p', s'⟩ => ⟨xs.length - (i + 1), by omega, rfl, hlt, δ', p', s'⟩, fun y H' hy => ?_⟩
      obtain ⟨e, hy⟩ := hy
      subst e
      have : some y = some v' := (hy vs l).symm.trans e'
      cases this
      refine ⟨G, δ', (.lst xs, .ref a) :: P, xs[i], _, ⟨A, x.push r'⟩, turn i xs[i] δ' (by simp [hlt]) ii, fun δ2 h2 σ2 H2 s2 => ?_⟩
      refine ⟨G, δ2, (.lst xs, .ref a) :: P, _, s2, h2, fun δ3 h3 σ3 H3 s3 => ⟨δ3, h3, s3⟩, ⟨fun d δ3 h3 v3 σ3 H3 s3 => k2.1 d δ3 h3 v3 σ3 H3 (s3.sub fun p hp => by
        rcases List.mem_cons.mp hp with rfl | hp
        · simp
        · simp [hp]), k2.2⟩, fun δ3 h3 σ3 H3 s3 => k1 δ3 h3 σ3 H3 (s3.sub fun p hp => by simp [hp]), fun δ3 h3 σ3 H3 s3 => ⟨δ3, h3, s3⟩⟩
    · have e : i = xs.length := by omega
      subst e
      exact .inl ⟨⟨vs, l, by omega⟩, k1 δ' (fin δ' ii) σ H (s'.sub fun p hp => by simp [hp])⟩
theorem ds_forT (hp : PassesOwn (model X.prog X.w) X.A X.env X.xe) (hc : X.calm = true) (hi : DE X e ta) (hg : DG X tg g) (hb : DSs X body t) (hs : ∀ x, foldedSetIterable e X.env x = pure x := by intro _; rfl) : DS X (.For tg e body [] pos) (dForT ta g t) :=
  PS.imp (ps_for hp hc (pi_tup hi) hg hb hs) fun E σ H ⟨G, δ, P, R, s, h, k1, k2, k3, k4⟩ => up.mk s h fun d δ1 h1 v H1 s1 => by
    obtain ⟨xs, e, I, i0, turn, fin⟩ := h1
    subst e
    have hat : ∀ δ σ H, S X.K G δ ((.tup xs, v) :: P) σ H → ∃ a vs, v = .ref a ∧ SqT X.K H a vs ∧ vs.length = xs.length := fun δ σ H ⟨A, x⟩ => by
      have q := x.pnd (.tup xs, v) (by simp)
      simp only [Rep] at q
      obtain ⟨a, vs, e, l, r⟩ := q
      exact ⟨a, vs, e, l, (Reps.length _ _ r).symm⟩
    have hev : ∃ a vs, v = .ref a ∧ SqT X.K H1 a vs ∧ vs.length = xs.length := hat _ _ _ s1
    obtain ⟨a, vs0, rfl, hsq, hl0⟩ := hev
    refine ⟨a, rfl, ⟨vs0, hsq⟩, fun i m σ H => m = xs.length - i ∧ i ≤ xs.length ∧ ∃ δ, I i δ ∧ S X.K G δ ((.tup xs, .ref a) :: P) σ H, ⟨xs.length, by simp, Nat.zero_le _, δ1, i0, s1⟩, ?_⟩
    rintro i m σ H ⟨rfl, hi, δ', ii, s'⟩
    obtain ⟨A, x⟩ := id s'
    have q := x.pnd (.tup xs, .ref a) (by simp)
    simp only [Rep] at q
    obtain ⟨a', vs, e, l, r⟩ := q
    cases e
    have hl : xs.length = vs.length := Reps.length _ _ r
    by_cases hlt : i < xs.length
    · obtain ⟨v', e', r'⟩ := Reps.get _ _ r i xs[i] (by simp [hlt])
      refine .inr ⟨⟨vs, v', l, e'⟩, fun σ' H' => ∃ δ', I (i + 1) δ' ∧ S X.K G δ' ((.tup xs, .ref a) :: P) σ' H', fun σ' H' ⟨δ', p', s'⟩ => ⟨xs.length - (i + 1), by omega, rfl, hlt, δ', p', s'⟩, fun y H' hy => ?_⟩
      obtain ⟨e, hy⟩ := hy
      subst e
      have : some y = some v' := (hy vs l).symm.trans e'
      cases this
      refine ⟨G, δ', (.tup xs, .ref a) :: P, xs[i], _, ⟨A, x.push r'⟩, turn i xs[i] δ' (by simp [hlt]) ii, fun δ2 h2 σ2 H2 s2 => ?_⟩
      refine ⟨G, δ2, (.tup xs, .ref a) :: P, _, s2, h2, fun δ3 h3 σ3 H3 s3 => ⟨δ3, h3, s3⟩, ⟨fun d δ3 h3 v3 σ3 H3 s3 => k2.1 d δ3 h3 v3 σ3 H3 (s3.sub fun p hp => by
        rcases List.mem_cons.mp hp with rfl | hp
        · simp
        · simp [hp]), k2.2⟩, fun δ3 h3 σ3 H3 s3 => k1 δ3 h3 σ3 H3 (s3.sub fun p hp => by simp [hp]), fun δ3 h3 σ3 H3 s3 => ⟨δ3, h3, s3⟩⟩
    · have e : i = xs.length := by omega
      subst e
      exact .inl ⟨⟨vs, l, by omega⟩, k1 δ' (fin δ' ii) σ H (s'.sub fun p hp => by simp [hp])⟩
theorem ds_forR {p pos' : Pos} (hp : PassesOwn (model X.prog X.w) X.A X.env X.xe) (hc : X.calm = true) (hgl : Gl X "range") (hm : X.mg "range" = none) (ha : DA X [a] tda) (hg : DG X tg g) (hb : DSs X body t)
    (hse : starEach [a] X.env = [(false, eval a X.env)] := by rfl) (hs : ∀ x, foldedSetIterable (.Call (.Name "range" p) [a] [] pos') X.env x = pure x := by intro _; rfl) :
    DS X (.For tg (.Call (.Name "range" p) [a] [] pos') body [] pos) (dForR tda g t) :=
  PS.imp (ps_for hp hc (pi_range1 hgl hm ha hse) hg hb hs) fun E σ H ⟨G, δ, P, R, s, h, k1, k2, k3, k4⟩ => ⟨G, δ, P, _, s, h, fun ds δ1 h1 vs H1 hl s1 => by
    obtain ⟨j, e, h1, h2, I, i0, turn, fin⟩ := h1
    subst e
    match vs, hl with
    | [v], _ =>
      have q : v = .int j := by
        obtain ⟨A, x⟩ := s1
        have q := x.pnd (.int j, v) (by simp)
        simpa only [Rep] using q
      subst q
      have s2 : S X.K G δ1 P σ H1 := s1.sub fun p hp => by simp [hp]
      refine ⟨j, rfl, h1, h2, for_range (lo := 0) (n := j.toNat) (fun i σ H => ∃ δ, I i δ ∧ S X.K G δ P σ H) ⟨δ1, i0, s2⟩ (fun i σ H hi ⟨δ', ii, s'⟩ => ?_) fun σ H ⟨δ', ii, s'⟩ => k1 δ' (fin δ' ii) σ H s'⟩
      refine ⟨G, δ', P, .int (0 + i), _, s'.sc rfl, (by have q := turn i δ' hi ii; rw [Int.zero_add]; exact q), fun δ2 h2 σ2 H2 s2 => ?_⟩
      exact ⟨G, δ2, P, _, s2, h2, fun δ3 h3 σ3 H3 s3 => ⟨δ3, h3, s3⟩, k2, k1, fun δ3 h3 σ3 H3 s3 => ⟨δ3, h3, s3⟩⟩⟩
end
end DL

namespace DL
open PySem PySem.Spec PyProof.Rows L2
section
variable {K : PySem.W.Frag} {M : Addr → Prop} {H : Hp}
theorem reps1 {a : D} {x : V} (h : Reps K M H [a] [x]) : Rep K M H a x := by
  unfold Reps at h
  obtain ⟨v, r, e, q, _⟩ := h
  cases e
  exact q
theorem reps2 {a b : D} {x y : V} (h : Reps K M H [a, b] [x, y]) : Rep K M H a x ∧ Rep K M H b y := by
  unfold Reps at h
  obtain ⟨v, r, e, q, h⟩ := h
  cases e
  exact ⟨q, reps1 h⟩
theorem reps_one {a : D} {vs : List V} (h : Reps K M H [a] vs) : ∃ x, vs = [x] ∧ Rep K M H a x := by
  unfold Reps at h
  obtain ⟨v, r, e, q, h⟩ := h
  unfold Reps at h
  subst h
  exact ⟨v, e, q⟩
theorem rep_int {i : Int} {v : V} (h : Rep K M H (.int i) v) : v = .int i := by unfold Rep at h; exact h
theorem rep_bl {i : Bool} {v : V} (h : Rep K M H (.bl i) v) : v = .bl i := by unfold Rep at h; exact h
theorem rep_str {i : Str} {v : V} (h : Rep K M H (.str i) v) : v = .str i := by unfold Rep at h; exact h
end

/-! ### what the operations answer, of data -/
def fI0 (g : Int → Int → D) : List D → (D → Prop) → Prop := fun ds R => ∃ i j, ds = [.int i, .int j] ∧ R (g i j)
def fI (C : Int → Int → Prop) (g : Int → Int → D) : List D → (D → Prop) → Prop := fun ds R => ∃ i j, ds = [.int i, .int j] ∧ C i j ∧ R (g i j)
def fU (g : Int → D) : List D → (D → Prop) → Prop := fun ds R => ∃ i, ds = [.int i] ∧ R (g i)
theorem fI0_eq {g : Int → Int → D} {a b : Int} {R : D → Prop} : fI0 g [.int a, .int b] R ↔ R (g a b) := by
  unfold fI0
  constructor
  · rintro ⟨i, j, e, r⟩; cases e; exact r
  · exact fun r => ⟨a, b, rfl, r⟩
theorem fI_eq {C : Int → Int → Prop} {g : Int → Int → D} {a b : Int} {R : D → Prop} : fI C g [.int a, .int b] R ↔ C a b ∧ R (g a b) := by
  unfold fI
  constructor
  · rintro ⟨i, j, e, r⟩; cases e; exact r
  · exact fun r => ⟨a, b, rfl, r⟩
theorem fU_eq {g : Int → D} {a : Int} {R : D → Prop} : fU g [.int a] R ↔ R (g a) := by
  unfold fU
  constructor
  · rintro ⟨i, e, r⟩; cases e; exact r
  · exact fun r => ⟨a, rfl, r⟩
def CFd (_ j : Int) : Prop := j ≠ 0 ∧ j.natAbs.log2 < 9000
def CNz (_ j : Int) : Prop := j ≠ 0

section
variable {X : Cx}
theorem opI0 {f : Value → Value → Sem Value} {g' : Int → Int → V} {g : Int → Int → D} (h : OpR X f (rI0 g')) (hs : ∀ i j, sc (g i j) = some (g' i j)) : OpR X f fun x y => pureR X.K (fI0 g) [x, y] :=
  OpR.imp h fun x y H Q ⟨M, ds, R, m, rs, ⟨i, j, e, r⟩, k⟩ => by
    subst e
    obtain ⟨h1, h2⟩ := reps2 rs
    exact ⟨i, j, rep_int h1, rep_int h2, k _ r _ H (Same.refl H) (Rep.sc (hs i j))⟩
theorem opI {f : Value → Value → Sem Value} {C C' : Int → Int → Prop} {g' : Int → Int → V} {g : Int → Int → D} (h : OpR X f (rI C' g')) (hs : ∀ i j, sc (g i j) = some (g' i j)) (hc : ∀ i j, C i j → C' i j) : OpR X f fun x y => pureR X.K (fI C g) [x, y] :=
  OpR.imp h fun x y H Q ⟨M, ds, R, m, rs, ⟨i, j, e, c, r⟩, k⟩ => by
    subst e
    obtain ⟨h1, h2⟩ := reps2 rs
    exact ⟨i, j, rep_int h1, rep_int h2, hc i j c, k _ r _ H (Same.refl H) (Rep.sc (hs i j))⟩
theorem o_add : OpR X (binaryOp .Add) fun x y => pureR X.K (fI0 fun i j => .int (i + j)) [x, y] := opI0 op_add fun _ _ => rfl
theorem o_sub : OpR X (binaryOp .Sub) fun x y => pureR X.K (fI0 fun i j => .int (i - j)) [x, y] := opI0 op_sub fun _ _ => rfl
theorem op_mulB : OpR X (binaryOp .Mult) (rI IntMulOk fun i j => .int (i * j)) := L2.opI fun _ _ _ _ _ _ _ hc q => mul_int q hc
theorem o_mul : OpR X (binaryOp .Mult) fun x y => pureR X.K (fI IntMulOk fun i j => .int (i * j)) [x, y] := opI op_mulB (fun _ _ => rfl) fun _ _ h => h
theorem op_fdivB : OpR X (binaryOp .FloorDiv) (rI CFd fun i j => .int (i.fdiv j)) := L2.opI fun _ _ _ _ _ _ _ hc q => floordiv_int hc.1 q (.inl (PyProof.noPylong_of_log2 hc.2))
theorem o_fdiv : OpR X (binaryOp .FloorDiv) fun x y => pureR X.K (fI CFd fun i j => .int (i.fdiv j)) [x, y] := opI op_fdivB (fun _ _ => rfl) fun _ _ h => h
theorem o_mod : OpR X (binaryOp .Mod) fun x y => pureR X.K (fI CNz fun i j => .int (i.fmod j)) [x, y] := opI op_modN (fun _ _ => rfl) fun _ _ h => h
theorem o_pow : OpR X (binaryOp .Pow) fun x y => pureR X.K (fI CPow fun i j => .int (i ^ j.toNat)) [x, y] := opI op_pow (fun _ _ => rfl) fun _ _ h => h
theorem o_lt : OpR X (compareOp .Lt) fun x y => pureR X.K (fI0 fun i j => .bl (decide (i < j))) [x, y] := opI0 op_lt fun _ _ => rfl
theorem o_gt : OpR X (compareOp .Gt) fun x y => pureR X.K (fI0 fun i j => .bl (decide (j < i))) [x, y] := opI0 op_gt fun _ _ => rfl
theorem o_neg : UnR X (unaryOp .USub) fun x => pureR X.K (fU fun i => .int (-i)) [x] :=
  UnR.imp un_neg fun x H Q ⟨M, ds, R, m, rs, ⟨i, e, r⟩, k⟩ => by
    subst e
    exact ⟨i, rep_int (reps1 rs), k _ r _ H (Same.refl H) (Rep.sc rfl)⟩
theorem c_abs : CallR X (.builtin "abs") (pureR X.K (fU fun i => .int (if i < 0 then -i else i))) :=
  CallR.imp call_abs fun xs H Q ⟨M, ds, R, m, rs, ⟨i, e, r⟩, k⟩ => by
    subst e
    obtain ⟨x, e, q⟩ := reps_one rs
    subst e
    exact ⟨i, by rw [rep_int q], k _ r _ H (Same.refl H) (Rep.sc rfl)⟩
/-- len -/
def fLen : List D → (D → Prop) → Prop
  | [.lst xs], R => R (.int xs.length)
  | [.fz xs], R => R (.int xs.length)
  | [.tup xs], R => R (.int xs.length)
  | _, _ => False
theorem c_len : CallR X (.builtin "len") (pureR X.K fLen) :=
  CallR.imp call_len_seq fun xs H Q ⟨M, ds, R, m, rs, h, k⟩ => by
    have fin : ∀ n : Nat, R (.int n) → Q (.int n) H := fun n r => k _ r _ H (Same.refl H) (Rep.sc rfl)
    unfold fLen at h
    split at h
    · obtain ⟨x, e, q⟩ := reps_one rs
      unfold Rep at q
      obtain ⟨a, vs, e2, _, l, r⟩ := q
      subst e e2
      exact ⟨a, vs, rfl, .inl (SqL.of l), fin _ (by rw [← Reps.length _ _ r]; exact h)⟩
    · obtain ⟨x, e, q⟩ := reps_one rs
      unfold Rep at q
      obtain ⟨a, vs, e2, l, r⟩ := q
      subst e e2
      exact ⟨a, vs, rfl, .inl l.seq, fin _ (by rw [← Reps.length _ _ r]; exact h)⟩
    · obtain ⟨x, e, q⟩ := reps_one rs
      unfold Rep at q
      obtain ⟨a, vs, e2, l, r⟩ := q
      subst e e2
      exact ⟨a, vs, rfl, .inr l, fin _ (by rw [← Reps.length _ _ r]; exact h)⟩
    · exact h.elim
/-- int(..) of a truth or a whole number -/
def fInt : List D → (D → Prop) → Prop
  | [.int i], R => R (.int i)
  | [.bl b], R => R (.int (if b then 1 else 0))
  | _, _ => False
theorem c_int : CallR X (.type "int") (pureR X.K fInt) :=
  CallR.imp call_int1 fun xs H Q ⟨M, ds, R, m, rs, h, k⟩ => by
    unfold fInt at h
    split at h
    · obtain ⟨x, e, q⟩ := reps_one rs
      subst e
      exact .inl ⟨_, by rw [rep_int q], k _ h _ H (Same.refl H) (Rep.sc rfl)⟩
    · obtain ⟨x, e, q⟩ := reps_one rs
      subst e
      exact .inr ⟨_, by rw [rep_bl q], k _ h _ H (Same.refl H) (Rep.sc rfl)⟩
    · exact h.elim
/-- an item -/
def fIx : List D → (D → Prop) → Prop
  | [.tup xs, .int i], R => ∃ v, atI xs i = some v ∧ R v
  | [.lst xs, .int i], R => ∃ v, atI xs i = some v ∧ R v
  | [.fz xs, .int i], R => ∃ v, atI xs i = some v ∧ R v
  | [.str z, .int i], R => z.length ≤ 1000 ∧ ∃ c, atI z.cps.toList i = some c ∧ R (.str ⟨#[c]⟩)
  | _, _ => False
theorem atI_len {α β : Type} {xs : List α} {ys : List β} (h : xs.length = ys.length) {i : Int} {v : α} (e : atI xs i = some v) : ∃ j : Nat, xs[j]? = some v ∧ ∀ w, ys[j]? = some w → atI ys i = some w := by
  unfold atI at e ⊢
  rw [h] at e
  cases q : ixN ys.length i with
  | none => rw [q] at e; cases e
  | some j => rw [q] at e; exact ⟨j, e, fun w z => z⟩
theorem x_seq : IxR X fun x y => pureR X.K fIx [x, y] :=
  IxR.imp ix_seq fun x y H Q ⟨M, ds, R, m, rs, h, k⟩ => by
    have fin : ∀ (xs : List D) (vs : List V) (i : Int) (d : D), Reps X.K M H xs vs → atI xs i = some d → R d → ∃ v, atI vs i = some v ∧ Q v H := fun xs vs i d r e q => by
      obtain ⟨j, h1, h2⟩ := atI_len (Reps.length _ _ r) e
      obtain ⟨v, e', r'⟩ := Reps.get _ _ r j d h1
      exact ⟨v, h2 v e', k d q v H (Same.refl H) r'⟩
    unfold fIx at h
    split at h
    · obtain ⟨d, e, q⟩ := h
      obtain ⟨h1, h2⟩ := reps2 rs
      unfold Rep at h1
      obtain ⟨a, vs, e2, l, r⟩ := h1
      obtain ⟨v, e3, q3⟩ := fin _ _ _ _ r e q
      exact .inr (.inl ⟨a, vs, _, v, e2, rep_int h2, l, e3, q3⟩)
    · obtain ⟨d, e, q⟩ := h
      obtain ⟨h1, h2⟩ := reps2 rs
      unfold Rep at h1
      obtain ⟨a, vs, e2, _, l, r⟩ := h1
      obtain ⟨v, e3, q3⟩ := fin _ _ _ _ r e q
      exact .inl ⟨a, vs, _, v, e2, rep_int h2, SqL.of l, e3, q3⟩
    · obtain ⟨d, e, q⟩ := h
      obtain ⟨h1, h2⟩ := reps2 rs
      unfold Rep at h1
      obtain ⟨a, vs, e2, l, r⟩ := h1
      obtain ⟨v, e3, q3⟩ := fin _ _ _ _ r e q
      exact .inl ⟨a, vs, _, v, e2, rep_int h2, l.seq, e3, q3⟩
    · obtain ⟨hz, c, e, q⟩ := h
      obtain ⟨h1, h2⟩ := reps2 rs
      exact .inr (.inr ⟨_, _, c, rep_str h1, rep_int h2, small hz, e, k _ q _ H (Same.refl H) (Rep.sc rfl)⟩)
    · exact h.elim
/-- list + list -/
def fCat : List D → (D → Prop) → Prop
  | [.lst xs, .lst ys], R => xs.length + ys.length ≤ 1000 ∧ R (.lst (xs ++ ys))
  | _, _ => False
theorem o_cat : OpR X (binaryOp .Add) fun x y => pureR X.K fCat [x, y] :=
  OpR.imp op_cat fun x y H Q ⟨M, ds, R, m, rs, h, k⟩ => by
    unfold fCat at h
    split at h
    · obtain ⟨hz, q⟩ := h
      obtain ⟨h1, h2⟩ := reps2 rs
      unfold Rep at h1 h2
      obtain ⟨a, vs, e, _, l, r⟩ := h1
      obtain ⟨b, ws, e', _, l', r'⟩ := h2
      refine ⟨a, b, vs, ws, e, e', l, l', small (by rw [← Reps.length _ _ r, ← Reps.length _ _ r']; exact hz), fun p hp => k _ q _ _ (same_new hp _) ?_⟩
      unfold Rep
      exact ⟨p, vs ++ ws, rfl, fun z => m p z hp, upd_same, Reps.kp (Kp.of_same (same_new hp _)) _ _ (Reps.append _ _ _ _ r r')⟩
    · exact h.elim
/-! ### slices -/
def cut {α : Type} (xs : List α) (lo hi : Option Int) : List α := (xs.drop (HT.sIx xs.length 0 lo)).take (HT.sIx xs.length xs.length hi - HT.sIx xs.length 0 lo)
abbrev TDO := En → (Option Int → En → Prop) → Prop
def upO (K : PySem.W.Frag) (t : TDO) : TO := fun σ H Q => ∃ (G : Gf) (δ : En) (P : List (D × V)) (R : Option Int → En → Prop), S K G δ P σ H ∧ t δ R ∧ ∀ o δ', R o δ' → ∀ H', S K G δ' P σ H' → Q o H'
def DO (X : Cx) (e : Option Expr) (t : TDO) : Prop := PO X e (upO X.K t)
def dNoPart : TDO := fun δ R => R none δ
def dPart (t : TDE) : TDO := fun δ R => t δ (wd fun x δ1 => ∃ i, x = .int i ∧ R (some i) δ1)
theorem PO.imp {e : Option Expr} {t t' : TO} (h : PO X e t) (i : ∀ σ H Q, t' σ H Q → t σ H Q) : PO X e t' := fun pins s σ H Q I q => h pins s σ H Q I (i σ H Q q)
theorem do_none : DO X none dNoPart := PO.imp po_none fun σ H Q ⟨G, δ, P, R, s, h, k⟩ => k none δ h H s
theorem do_some {e : Expr} {te : TDE} (h : DE X e te) : DO X (some e) (dPart te) := PO.imp (po_some h) fun σ H Q ⟨G, δ, P, R, s, h, k⟩ => up.mk s h fun x δ1 h1 v H1 s1 => by
  obtain ⟨i, e, r⟩ := h1
  subst e
  obtain ⟨A, q⟩ := id s1
  exact ⟨i, rep_int (q.pnd (.int i, v) (by simp)), k _ δ1 r H1 (s1.sub fun p hp => by simp [hp])⟩
def fSl : D → Option Int → Option Int → (D → Prop) → Prop
  | .lst xs, lo, hi, R => R (.lst (cut xs lo hi))
  | .fz xs, lo, hi, R => R (.lst (cut xs lo hi))
  | .tup xs, lo, hi, R => ¬ (HT.sIx xs.length 0 lo = 0 ∧ HT.sIx xs.length xs.length hi = xs.length) ∧ R (.tup (cut xs lo hi))
  | _, _, _, _ => False
def dSl (te : TDE) (tl th : TDO) : TDE := fun δ R => te δ (wd fun x δ1 => tl δ1 fun l δ2 => th δ2 fun u δ3 => fSl x l u fun d => R (.d d) δ3)
theorem Reps.cut {K : PySem.W.Frag} {M : Addr → Prop} {H : Hp} {ds : List D} {vs : List V} (lo hi : Option Int) (r : Reps K M H ds vs) : Reps K M H (DL.cut ds lo hi) (cutV vs lo hi) := by
  unfold DL.cut cutV
  rw [Reps.length _ _ r]
  exact Reps.take _ _ _ (Reps.drop _ _ _ r)
theorem de_slL {e : Expr} {te : TDE} {lo hi : Option Expr} {tl th : TDO} {p2 pos : Pos} (he : DE X e te) (hl : DO X lo tl) (hu : DO X hi th) : DE X (.Subscript e (.Slice lo hi none p2) pos) (dSl te tl th) :=
  PE.imp (pe_slice (sl_list.or sl_tup) he hl hu) fun σ H Q ⟨G, δ, P, R, s, h, k, _⟩ => up.mk s h fun x δ1 h1 v H1 s1 => ⟨G, δ1, (x, v) :: P, _, s1, h1, fun l δ2 h2 H2 s2 => ⟨G, δ2, (x, v) :: P, _, s2, h2, fun u δ3 h3 H3 s3 => by
    obtain ⟨A, q⟩ := id s3
    have r := q.pnd (x, v) (by simp)
    cases x with
    | lst xs =>
      have h3 : R (.d (.lst (cut xs l u))) δ3 := h3
      simp only [Rep] at r
      obtain ⟨a, vs, e, _, sq, r⟩ := r
      refine .inl ⟨a, vs, e, SqL.of sq, fun p hp => ?_⟩
      have x2 := (q.same (same_new hp (.lst (cutV vs l u))))
      refine k _ δ3 h3 (.ref p) _ ⟨A, (x2.sub (P' := P) fun p hp => List.mem_cons_of_mem _ hp).push ?_⟩
      unfold Rep
      exact ⟨p, _, rfl, fun z => q.mem p z hp, upd_same, Reps.kp (Kp.of_same (same_new hp _)) _ _ (Reps.cut l u r)⟩
    | fz xs =>
      have h3 : R (.d (.lst (cut xs l u))) δ3 := h3
      simp only [Rep] at r
      obtain ⟨a, vs, e, sq, r⟩ := r
      refine .inl ⟨a, vs, e, sq.seq, fun p hp => ?_⟩
      have x2 := (q.same (same_new hp (.lst (cutV vs l u))))
      refine k _ δ3 h3 (.ref p) _ ⟨A, (x2.sub (P' := P) fun p hp => List.mem_cons_of_mem _ hp).push ?_⟩
      unfold Rep
      exact ⟨p, _, rfl, fun z => q.mem p z hp, upd_same, Reps.kp (Kp.of_same (same_new hp _)) _ _ (Reps.cut l u r)⟩
    | tup xs =>
      have h3 : ¬ (HT.sIx xs.length 0 l = 0 ∧ HT.sIx xs.length xs.length u = xs.length) ∧ R (.d (.tup (cut xs l u))) δ3 := h3
      simp only [Rep] at r
      obtain ⟨a, vs, e, sq, r⟩ := r
      obtain ⟨nf, h3⟩ := h3
      refine .inr ⟨a, vs, e, sq, by rw [← Reps.length _ _ r]; exact nf, fun p hp => ?_⟩
      have x2 := (q.same (same_new hp (.tup (cutV vs l u))))
      refine k _ δ3 h3 (.ref p) _ ⟨A, (x2.sub (P' := P) fun p hp => List.mem_cons_of_mem _ hp).push ?_⟩
      unfold Rep
      exact ⟨p, _, rfl, SqT.of upd_same, Reps.kp (Kp.of_same (same_new hp _)) _ _ (Reps.cut l u r)⟩
    | _ => exact (show False from h3).elim⟩⟩
end
end DL

namespace DL
open PySem PySem.Spec PyProof.Rows L2

def startD (N : List Str) (ds : List D) : En := ds.map Sl.dat ++ List.replicate (N.length - ds.length) Sl.no
theorem pureR_len {K : PySem.W.Frag} {f : List D → (D → Prop) → Prop} {vs : List V} {H : Hp} {Q : VK} {n : Nat} (h : pureR K f vs H Q) (len : ∀ ds R, f ds R → ds.length = n) : vs.length = n := by
  obtain ⟨M, ds, R, m, rs, hf, k⟩ := h
  rw [← Reps.length _ _ rs]
  exact len ds R hf
theorem start_S {K : PySem.W.Frag} {M : Addr → Prop} {ds : List D} {vs : List V} {H : Hp} (N : List Str) (m : ∀ b, M b → H b ≠ none) (rs : Reps K M H ds vs) : S K ⟨M, H, fun _ => False⟩ (startD N ds) [] (L2.start N vs) H := by
  have hl := Reps.length _ _ rs
  refine ⟨fun _ => False, fun b o e _ => e, fun b e => e, m, fun b h => h.elim, fun b h => h.elim, fun b h => h.elim, ?_, fun i d e => ?_, fun i a d e => ?_, fun i j a d e h1 h2 => ?_, fun p hp => (nomatch hp)⟩
  · unfold startD L2.start
    rw [List.length_append, List.length_append, List.length_map, List.length_map, List.length_replicate, List.length_replicate, hl]
  · unfold startD at e
    unfold L2.start
    by_cases hi : i < ds.length
    · rw [List.getElem?_append_left (by rw [List.length_map]; exact hi), List.getElem?_map] at e
      cases hd : ds[i]? with
      | none => rw [hd] at e; cases e
      | some d' =>
        rw [hd] at e
        cases e
        obtain ⟨v, ev, rv⟩ := Reps.get _ _ rs i d hd
        refine ⟨v, ?_, Rep.more (fun b z => .inl (z.elim id fun q => q.elim)) _ _ rv⟩
        rw [List.getElem?_append_left (by rw [List.length_map]; omega), List.getElem?_map, ev]
        rfl
    · rw [List.getElem?_append_right (by rw [List.length_map]; omega), List.getElem?_replicate] at e
      split at e <;> cases e
  all_goals
    unfold startD at *
    exfalso
  · by_cases hi : i < ds.length
    · rw [List.getElem?_append_left (by rw [List.length_map]; exact hi), List.getElem?_map] at e
      cases hd : ds[i]? with
      | none => rw [hd] at e; cases e
      | some d' => rw [hd] at e; cases e
    · rw [List.getElem?_append_right (by rw [List.length_map]; omega), List.getElem?_replicate] at e
      split at e <;> cases e
  · by_cases hi : i < ds.length
    · rw [List.getElem?_append_left (by rw [List.length_map]; exact hi), List.getElem?_map] at h1
      cases hd : ds[i]? with
      | none => rw [hd] at h1; cases h1
      | some d' => rw [hd] at h1; cases h1
    · rw [List.getElem?_append_right (by rw [List.length_map]; omega), List.getElem?_replicate] at h1
      split at h1 <;> cases h1

structure Fd (K : PySem.W.Frag) (mg : Str → Option Value) (x : Str) (st : Stmt) (ps : List Str) : Prop where
  ex : ∃ (a : Addr) (fd : FuncData), Fun K x x st a fd ∧ Binds K fd ps [] ∧ mg x = some (.ref a)
structure Cal (P : Program) (w : World) (K : PySem.W.Frag) (mg : Str → Option Value) (base : Heap) (k : Nat) (x : Str) (ps : List Str) (sp : Sp) : Prop where
  ex : ∃ (a : Addr) (fd : FuncData), FnOk P w K mg base CX0 k a fd ps sp ∧ Binds K fd ps [] ∧ PySem.W.keepIn K (.ref a) = true ∧ mg x = some (.ref a)

section
variable {P : Program} {w : World} {K : PySem.W.Frag} {mg : Str → Option Value} {base : Heap}
theorem Cal.mono {j k : Nat} {x : Str} {ps : List Str} {sp : Sp} (C : Cal P w K mg base j x ps sp) (h : j ≤ k) : Cal P w K mg base k x ps sp := by
  obtain ⟨a, fd, F, b, kp, m⟩ := C.ex
  exact ⟨a, fd, F.mono h, b, kp, m⟩
/-- THE RULE for a pure def -/
theorem fn_D' {x : Str} {st : Stmt} {N ps : List Str} {k : Nat} {a : Addr} {fd : FuncData} {f : List D → (D → Prop) → Prop} (Fu : Fun K x x st a fd) (Sc : FnScope N ps (defScope st)) (len : ∀ ds R, f ds R → ds.length = ps.length)
    (hbody : ∀ (cdv : Value) (A : Around) (outer : List Env) (s : Shared) (H : Hp) (E : XK) (ds : List D) (R : D → Prop), Room k (A.deeper (envOfC x (defScope st) s.heap.objs.size a cdv)) → f ds R →
      ∃ t, DSs (cxOf CX0 P w K mg base N x (defScope st) a cdv A outer s H E).nox (defBody st) t ∧ t { nx := fun _ => R .non, rt := fun d _ => R d, ro := R } (startD N ds)) :
    FnOk P w K mg base CX0 (k + 1) a fd ps (spD K f) := by
  refine Fu.ok Sc (fun vs H Q E h => pureR_len h len) (fun cdv A outer s H vs Q E hr h => ?_)
  obtain ⟨M, ds, R, hm, rs, hf, hk⟩ := h
  obtain ⟨t, ht, hq⟩ := hbody cdv A outer s H E ds R hr hf
  refine ⟨_, ht, ⟨M, H, fun _ => False⟩, startD N ds, [], _, start_S N hm rs, hq, fun δ' r σ' H' ⟨A', x⟩ => ?_, ⟨fun d δ' r v σ' H' ⟨A', x⟩ => ?_, fun d r a H' ⟨o1, o2, o3, o4⟩ => hk d r (.ref a) H' (fun b o e => o1 b o e id) (o4.rep o3 fun b z => .inl z)⟩, fun _ h => h.elim, fun _ h => h.elim⟩
  · exact hk .non r .non H' (fun b o e => x.old b o e id) (by unfold Rep; rfl)
  · exact hk d r v H' (fun b o e => x.old b o e id) (Rep.more (fun b z => .inl (.inl z)) _ _ (x.pnd (d, v) (by simp)))
theorem fn_D {x : Str} {st : Stmt} {N ps : List Str} {k : Nat} {f : List D → (D → Prop) → Prop} (F : Fd K mg x st ps) (Sc : FnScope N ps (defScope st)) (len : ∀ ds R, f ds R → ds.length = ps.length)
    (hbody : ∀ (a : Addr) (cdv : Value) (A : Around) (outer : List Env) (s : Shared) (H : Hp) (E : XK) (ds : List D) (R : D → Prop), Room k (A.deeper (envOfC x (defScope st) s.heap.objs.size a cdv)) → f ds R →
      ∃ t, DSs (cxOf CX0 P w K mg base N x (defScope st) a cdv A outer s H E).nox (defBody st) t ∧ t { nx := fun _ => R .non, rt := fun d _ => R d, ro := R } (startD N ds)) :
    Cal P w K mg base (k + 1) x ps (spD K f) := by
  obtain ⟨a, fd, Fu, b, m⟩ := F.ex
  exact ⟨a, fd, fn_D' Fu Sc len (hbody a), b, Fu.kp, m⟩
theorem de_cal {X : Cx} {a : Expr} {es : List Expr} {t : TDA} {f : List D → (D → Prop) → Prop} {x : Str} {k : Nat} {ps : List Str} {p pos : Pos} (C : Cal X.prog X.w X.K X.mg X.base k x ps (spD X.K f)) (hr : Room k X.A) (hg : Gl X x) (ha : DA X (a :: es) t)
    (hdb : (x == ("__debug__" : Str)) = false := by decide) (he : starEach (a :: es) X.env = (false, eval a X.env) :: starEach es X.env := by rfl) (hpl : (backTo pos (starEach es X.env)).any (·.1) = false := by rfl) :
    DE X (.Call (.Name x p) (a :: es) [] pos) (dCall f t) := by
  obtain ⟨g, fd, F, b, kp, m⟩ := C.ex
  exact de_call F hr hg m kp b ha hdb he hpl
/-- the law's own promise: True for every script of at most 63 ints of at most 2^20 bits -/
def spLaw (K : PySem.W.Frag) : Sp := fun vs H Q _ => ∃ (a : Addr) (ns : List Int), vs = [.ref a] ∧ SqL K H a (ns.map V.int) ∧ Only H ∧ ns.length ≤ 63 ∧ (∀ n ∈ ns, Builtin.Int.intBits n ≤ 1048576) ∧ ∀ H', Q (.bl true) H'
def fLaw : List D → (D → Prop) → Prop := fun ds R => ∃ ns : List Int, ds = [.fz (ns.map D.int)] ∧ ns.length ≤ 63 ∧ (∀ n ∈ ns, Builtin.Int.intBits n ≤ 1048576) ∧ R (.bl true)
theorem law_sp {k : Nat} {ps : List Str} {a : Addr} {fd : FuncData} (F : FnOk P w K mg base CX0 k a fd ps (spD K fLaw)) : FnOk P w K mg base CX0 k a fd ps (spLaw K) :=
  F.imp fun vs H Q E ⟨l, ns, e, sq, on, h63, hb, q⟩ => by
    subst e
    refine ⟨fun _ => False, [.fz (ns.map D.int)], fun d => d = .bl true, fun _ h => h.elim, Reps.one ?_, ⟨ns, rfl, h63, hb, rfl⟩, fun d e v H' _ r => ?_⟩
    · unfold Rep
      refine ⟨l, ns.map V.int, rfl, ?_, Reps.ints ns⟩
      rcases sq with (h | ⟨o, h⟩) | h
      · rcases on l with z | ⟨o, xs, z⟩
        · rw [z] at h; cases h
        · rw [z] at h; cases h
      · exact .inl ⟨o, h⟩
      · exact .inr (.inr h)
    · subst e
      rw [rep_bl r]
      exact q H'
end
end DL
/-! ### the head, with the script's sizes -/
namespace DLH
open PySem PySem.W PySem.Calls PyProof.Rows
theorem bits_of_layable {ns : List Int} (h : WData.layableAll [.list (ns.map .int)] = true) : ∀ n ∈ ns, Builtin.Int.intBits n ≤ 1048576 := fun n hn => by
  have h1 := layableW_arg h _ (List.mem_singleton.mpr rfl)
  have h2 := layableW_item h1 (.int n) (List.mem_map.mpr ⟨n, hn, rfl⟩)
  have h3 := (layableW_iff.mp h2).2.2
  simpa only [WData.weight, Builtin.Int.intBits] using h3
theorem attach_callB {l : OpenLaw} {n : Nat} {q : Program} {loose : List Str} {XP : (Str → Option Value) → Heap → Prop} {YP : World → Heap → Prop} {d : DefRec}
    (hn : l.most = some n) (hdf : d.params.defaults = [])
    (call : ∀ (w : World) (s₀ s₁ : Shared) (mg mb : Str → Option Value) (fa : Addr) (o : Obj) (pm cd doc : Value) (a : Addr) (vs : List Value) (ns : List Int),
      Ground q loose [] XP w s₀ mg mb s₁.heap → YP w s₁.heap →
      s₁.heap.get? fa = some o → o.data = .func (docDef d.name d.params d.body d.scope pm cd doc) → s₁.heap.CodeRec cd d.name → mg d.name = some (.ref fa) →
      s₁.heap.get? a = some { cls := .type "list", data := .seq vs.toArray } → IntsAre vs ns → ns.length ≤ n → (∀ i ∈ ns, Builtin.Int.intBits i ≤ 1048576) → s₁.gens = #[] →
      codeAny (model l.prog w) callerA (.call (.ref fa) ⟨[.ref a], []⟩) (fun r s' => r = .ok (.ret (.bool true)) ∧ OldK s₁.heap s'.heap ∧ s'.os = s₁.os ∧ AllBare s'.gens) s₁) :
    WalkO q loose XP YP l.row.toRowW d [] (fun f vs => PySem.call f vs) := by
  intro w s₀ s₁ mg mb G Y fa o pm cd doc dV kV ho hd hcd hD hmg hg args vals as hpre hlay hrd hwl hlo
  obtain rfl : dV = .none := Dflts.none hD hdf
  obtain rfl : kV = .none := Dflts.noKw hD
  obtain ⟨a, vs, ns, rfl, rfl, hobj, hints, hlen⟩ := Att.script_of hn hpre hwl
  refine enter_call (codeAny_mono (call w s₀ s₁ mg mb fa o pm cd doc a vs ns G Y ho (fd_plain hd) hcd hmg hobj hints hlen (bits_of_layable hlay) hg) fun r s' hq => ?_)
  obtain ⟨rfl, h2, h3, h4⟩ := hq
  exact ⟨.inl ⟨.bool true, .bool true, [], rfl, fun _ => rfl, .bool true, Att.post_true l _, fun _ => ⟨List.Pairwise.nil, fun _ hm => (nomatch hm)⟩⟩, h2, h3, h4⟩
end DLH
namespace DL
open PySem PySem.Spec PyProof.Rows L2
theorem walkB {l : PySem.W.OpenLaw} {k : Nat} {q : Program} {loose : List Str} {XP : (Str → Option Value) → Heap → Prop} {YP : World → Heap → Prop} {d : DefRec} {K : Params → PySem.W.Frag} {x : Str}
    (hn : l.most = some 63) (hdf : d.params.defaults = []) (hr : Room k PySem.callerA) (hY : ∀ (w : World) (h : Heap), YP w h → (K w.params).In h)
    (F : ∀ (w : World) (mg : Str → Option Value) (fa : Addr) (h : Heap), (K w.params).In h → h.Ns mainGlobals mg → mg d.name = some (.ref fa) →
      ∃ fd : FuncData, (∀ (s : Shared) (u : Value), BindsTo s fd ⟨[u], []⟩ [(x, u)]) ∧ ∀ base : Heap, (K w.params).In base → base.Ns mainGlobals mg → FnOk l.prog w (K w.params) mg base CX0 k fa fd [x] (spLaw (K w.params))) :
    PySem.W.WalkO q loose XP YP l.row.toRowW d [] (fun f vs => PySem.call f vs) := by
  refine DLH.attach_callB hn hdf fun w s₀ s₁ mg mb fa o pm cd doc a vs ns G Y ho hd hcd hmg hobj hints hlen hbits hg => ?_
  have KX := hY w _ Y
  obtain ⟨fd, hb, hF⟩ := F w mg fa _ KX G.T.g hmg
  exact law_call KX G.T.g G.T.b G.T.builtins G.T.nolimit hg hobj hints (Nat.le_trans hlen (by decide)) hr hF hb (fun H hO hS => ⟨a, ns, rfl, hS, hO, hlen, hbits, fun _ => rfl⟩) fun H e s' z => z
end DL

namespace DL
open PySem PySem.Spec PyProof.Rows L2

/-! ### a list comprehension with one for -/
def testsOf (ifs : List Expr) (env : Env) : Sem Bool := forIn ifs true fun c r => if r = true then do let ok ← isTrue c env (eval c env); pure (ForInStep.yield ok) else pure (ForInStep.yield r)
def PF (X : Cx) (ifs : List Expr) (t : TT) : Prop :=
  ∀ (pins : List (Addr × Obj)) (s : Shared) (σ : L2.St) (H : Hp) (Q : Bool → Hp → Prop), Inv X pins σ H s → t σ H Q → wpAny (model X.prog X.w) X.A (testsOf ifs X.env) (TP X pins σ Q) X.xe s
theorem pf_nil {X : Cx} : PF X [] (fun _ H Q => Q true H) := fun _ _ _ H _ I h => wpAny_tests_nil ⟨H, I, h⟩
theorem codeAny_compLoop_gen {prog : Program} {w : World} {A : Around} {R : Result → Shared → Prop} {s : Shared} {elt target iter : Expr} {ifs : List Expr} {scope : Scope} {pos : Pos} {it acc : Value} {env : Env} (I : Nat → Shared → Prop)
    (turn : ∀ n s, I n s → wpAny (model prog w) A (pyNext it) (fun r s₁ => match r with
      | none => R (.ok .next) s₁
      | some v => wpAny (model prog w) A (letOwnedTupleGo target it v) (fun _ s₁' => wpAny (model prog w) A (assign target env v) (fun _ s₂ =>
          wpAny (model prog w) A (testsOf ifs env) (fun ok s₃ =>
            if ok = true then wpAny (model prog w) A (eval elt env) (fun x s₄ =>
              wpAny (model prog w) A (call (.builtin "list.append") [acc, x]) (fun _ s₅ => ∃ m, m < n ∧ I m s₅) (fun _ _ => False) s₄) (fun _ _ => False) s₃
            else ∃ m, m < n ∧ I m s₃) (fun _ _ => False) s₂) (fun _ _ => False) s₁') (fun _ _ => False) s₁) (fun _ _ => False) s)
    (n : Nat) (h : I n s) :
    codeAny (model prog w) A (.compLoop (.ListComp elt [⟨target, iter, ifs, 0⟩] scope pos) 0 it acc env) R s := by
  refine codeAny_loop rfl I (fun n s hI => ?_) n h
  show wpAny _ A ((compTurn (.ListComp elt [⟨target, iter, ifs, 0⟩] scope pos) 0 it acc env).onRaise (fun x => do noteFrame x env; theTreesLotGoes x)) _ _ s
  refine wpAny_noted ?_
  rw [compTurn_list]
  refine wpAny_bind (wpAny_standAt (wpAny_bind (wpAny_mono (turn n s hI) (fun r s₁ h₁ => ?_) fun _ _ h' => h'.elim)))
  cases r with
  | none => exact wpAny_pure h₁
  | some v =>
    refine wpAny_bind (wpAny_mono h₁ (fun _ s₁' h₁' => ?_) fun _ _ h' => h'.elim)
    refine wpAny_bind (wpAny_mono h₁' (fun _ s₂ h₂ => wpAny_bind (wpAny_mono h₂ (fun ok s₃ h₃ => ?_) fun _ _ h' => h'.elim)) fun _ _ h' => h'.elim)
    cases ok with
    | false => exact wpAny_pure ⟨rfl, h₃⟩
    | true =>
      exact wpAny_bind (wpAny_bind (wpAny_mono h₃ (fun x s₄ h₄ => wpAny_bind (wpAny_mono h₄ (fun _ s₅ h₅ => wpAny_pure (wpAny_pure ⟨rfl, h₅⟩)) fun _ _ h' => h'.elim)) fun _ _ h' => h'.elim))

/-- the context of a comprehension's block -/
def compX (X : Cx) (N' : List Str) (scope : Scope) (cl : List (Str × Addr)) (s2 : Shared) (H2 : Hp) (C : Addr) (fp : List Addr) (pn : List (Addr × Obj)) : Cx where
  prog := X.prog
  w := X.w
  K := X.K
  mg := X.mg
  base := X.base
  A := X.A
  N := N'
  s₀ := s2
  H₀ := H2
  env := compEnvC scope cl C X.env
  outer := X.stack
  stack := X.stack
  ex := fp
  fn := fun _ => false
  calm := X.calm
  pn := pn
  xe := fun _ _ => False

def capS (nt : Nat) (caps : List (Nat × Str)) (σ : L2.St) : L2.St := List.replicate nt none ++ caps.map fun p => (σ[p.1]?).join
/-- W: the turn, what is left, what was gathered, the heap -/
def tComp (wi : TI) (nt : Nat) (caps : List (Nat × Str)) (g : TG) (tc : TT) (te : TE) : TE := fun σ H Q => wi σ H fun J H1 => ∀ p, H1 p = none →
  ∃ W : Nat → Nat → List V → L2.St → Hp → Prop, (∃ m, W 0 m [] (capS nt caps σ) (upd H1 p (.lst []))) ∧ ∀ i m xs σ' H', W i m xs σ' H' → (J.stop i H' ∧ Q (.ref p) H') ∨ (J.go i H' ∧ ∀ x H2, J.yld i H' x H2 →
    g x σ' H2 fun σ2 H3 => tc σ2 H3 fun b H4 => if b = true then te σ2 H4 fun y H5 => H5 p = some (.lst xs) ∧ xs.length < sizeLine ∧ ∃ m', m' < m ∧ W (i + 1) m' (xs ++ [y]) σ2 (upd H5 p (.lst (xs ++ [y]))) else ∃ m', m' < m ∧ W (i + 1) m' xs σ2 H4)

theorem pe_comp {X : Cx} {elt tgt iter : Expr} {ifs : List Expr} {scope : Scope} {pos : Pos} {wi : TI} {cl : List (Str × Addr)} (tn : List Str) (caps : List (Nat × Str)) {g : TG} {tc : TT} {te : TE}
    (hcalm : X.calm = true) (hclos : closureFor scope X.env = pure cl) (hcell : ∀ y ∈ scope.names, y.2 ≠ .cell) (hkind : scope.kind = .function) (hnames : ∀ y ∈ scope.names, y.2 = .local → scope.names.lookup y.1 = some .local)
    (hcl : ∀ x c, cl.lookup x = some c → X.env.cells.lookup x = some c) (hhas : ∀ x, ((relabel scope X.env).names.lookup x = some .cell ∨ (relabel scope X.env).names.lookup x = some .free) → ∃ c, cl.lookup x = some c)
    (hcap : ∀ p ∈ caps, X.N[p.1]? = some p.2 ∧ X.env.scope.names.lookup p.2 = some .cell ∧ ((relabel scope X.env).names.lookup p.2 = some .cell ∨ (relabel scope X.env).names.lookup p.2 = some .free))
    (hi : PI X.nox tgt iter wi)
    (hb : ∀ s2 H2 C fp pn, PG (compX X (tn ++ caps.map (·.2)) scope cl s2 H2 C fp pn) tgt g ∧ PF (compX X (tn ++ caps.map (·.2)) scope cl s2 H2 C fp pn) ifs tc ∧ PE (compX X (tn ++ caps.map (·.2)) scope cl s2 H2 C fp pn) elt te)
    (hs : ∀ x, foldedSetIterable iter X.env x = pure x := by intro _; rfl) :
    PE X.nox (.ListComp elt [⟨tgt, iter, ifs, 0⟩] scope pos) (tComp wi tn.length caps g tc te) := by
  intro pins s σ H Q I h
  rw [eval_ListComp]
  refine wpAny_comprehension_free (use := none) rfl hs hclos hkind hnames (wpAny_mono (hi pins s σ H _ I h) (fun x s₁ h₁ => wpAny_mono h₁ (fun itv s₂ h₂ => ?_) fun _ _ e => e) fun _ _ e => e)
  obtain ⟨it, fp, tnr, J, H1, rfl, I1, T, st, hfp, q⟩ := h₂
  refine wpAny_newObj_type (wpAny_newFunctionEnv hcell (by intro y hy; simp at hy) (fun h₁ hns₁ hsb₁ => ?_) hkind)
  dsimp only at hns₁ hsb₁ ⊢
  generalize hH2 : s₂.heap.push { cls := .type "list", dict := none, data := .seq ([] : List Value).toArray } = Hq at hns₁ hsb₁ ⊢
  have hC : Hq.objs.size = s₂.heap.objs.size + 1 := by rw [← hH2, Heap.size_push]
  generalize hCe : Hq.objs.size = C at hns₁ hsb₁ hC ⊢
  generalize hpe : s₂.heap.objs.size = p at hC ⊢
  obtain ⟨m1, hns₁⟩ : ∃ m, h₁.Ns C m := ⟨_, hns₁⟩
  have hpC : p ≠ C := Nat.ne_of_lt (by rw [hC]; exact Nat.lt_succ_self _)
  have hbs : ∀ b, b < s₂.heap.objs.size → b ≠ C ∧ b ≠ p := fun b hb => ⟨Nat.ne_of_lt (by rw [hC, ← hpe]; exact Nat.lt_succ_of_lt hb), Nat.ne_of_lt (by rw [← hpe]; exact hb)⟩
  have hple : s₂.heap.objs.size ≤ p := Nat.le_of_eq hpe
  have hCle : s₂.heap.objs.size ≤ C := by rw [hC, ← hpe]; exact Nat.le_succ _
  have old : ∀ b o, s₂.heap.get? b = some o → h₁.get? b = some o := fun b o e =>
    hsb₁.extBut b o (hbs b (Heap.lt_size e)).1 (Heap.get?_push_of_some _ (hH2 ▸ Heap.get?_push_of_some _ e))
  have hacc : h₁.get? p = some { cls := .type "list", data := .seq ([] : List Value).toArray 0 } := by
    refine hsb₁.extBut p _ hpC ?_
    rw [← hpe]
    exact Heap.get?_push_of_some _ (hH2 ▸ Heap.get?_push_size _ rfl)
  have hfree : H1 p = none := I1.hok.fresh hple
  have hfreeC : H1 C = none := I1.hok.fresh hCle
  obtain ⟨W, ⟨m0, w0⟩, turn⟩ := q p hfree
  have X'def : ∃ X', X' = compX X (tn ++ caps.map (·.2)) scope cl s₂ H1 C fp (X.pn ++ pins) := ⟨_, rfl⟩
  obtain ⟨X', hX'⟩ := X'def
  have hstk : ∀ b ∈ frs X.stack, b = X.env.locals ∨ b ∈ X.fs := fun b hb => List.mem_cons.mp (I1.stkSub b hb)
  have hfpl : ∀ b ∈ fp, b < s₂.heap.objs.size := fun b hb => let ⟨_, e, _⟩ := T.obj _ _ st b hb; Heap.lt_size e
  have hfps : ∀ b ∈ fp, b ∉ frs X.stack := fun b hb z => (hstk b z).elim (fun e => (hfp b hb).2.1 e) fun e => (hfp b hb).2.2.1 e
  have hcells : ∀ x c, cl.lookup x = some c → c < s₂.heap.objs.size ∧ H1 c = none := fun x c e => by
    obtain ⟨v, hv⟩ := I1.cell x c (hcl x c e)
    exact ⟨hv.lt, I1.freeC x c (hcl x c e)⟩
  have ok : X'.Ok := by
    subst hX'
    have o := I1.ok
    exact { mod := o.mod
            kind := by show (relabel scope X.env).kind = .function; exact hkind
            glob := o.glob
            blt := o.blt
            above := hCle
            inj := fun x y c h1 h2 => o.inj x y c (hcl x c h1) (hcl y c h2)
            has := fun x hx => hhas x hx
            cab := fun x c h1 _ => nomatch h1
            hd := o.hd
            frames := o.frames
            stk := .inl rfl
            exf := fun b hb => ⟨(hbs b (hfpl b hb)).1, fun x c e => fun z => (hfp b hb).2.2.2.2.1 x c (hcl x c e) z⟩
            bs := fun b ob e => I1.bs b ob e
            bsz := Nat.le_trans o.bsz I1.sz
            noex := fun b ob e hb => by
              obtain ⟨_, _, _, hh, _⟩ := hfp b hb
              rcases hh with hh | hh
              · exact o.noex b ob e hh
              · exact absurd (Heap.lt_size (I1.ok.bs b ob e).1) (Nat.not_lt.mpr hh)
            exfs := hfps
            funs := I1.stack
            frf := I1.stkFree }
  have capOk : ∀ (m : Str → Option Value) (i : Nat) (x : Str) (v : V), X'.N[i]? = some x → (capS tn.length caps σ)[i]? = some (some v) → Vis X'.env.scope x → ∃ u, RelV v u ∧ Look X'.env h₁ m x u := by
    subst hX'
    intro m i x v hN hσ hv
    have hN : (tn ++ caps.map (·.2))[i]? = some x := hN
    unfold capS at hσ
    by_cases hi : i < tn.length
    · rw [List.getElem?_append_left (by rw [List.length_replicate]; exact hi), List.getElem?_replicate, if_pos hi] at hσ
      cases hσ
    · rw [List.getElem?_append_right (by rw [List.length_replicate]; omega), List.length_replicate] at hσ
      rw [List.getElem?_append_right (by omega)] at hN
      rw [List.getElem?_map] at hσ hN
      cases hc : caps[i - tn.length]? with
      | none => rw [hc] at hN; cases hN
      | some pr =>
        rw [hc] at hN hσ
        have hN : pr.2 = x := Option.some.inj hN
        have hσ : (σ[pr.1]?).join = some v := Option.some.inj hσ
        obtain ⟨c1, c2, c3⟩ := hcap pr (List.mem_of_getElem? hc)
        subst hN
        have hσ' : σ[pr.1]? = some (some v) := by
          cases z : σ[pr.1]? with
          | none => rw [z] at hσ; cases hσ
          | some o => rw [z] at hσ; exact congrArg some hσ
        obtain ⟨m1, hm1, hl1⟩ := I1.loc
        obtain ⟨u, ru, lk⟩ := hl1 pr.1 pr.2 v c1 hσ' (.inr (.inl c2))
        refine ⟨u, ru, .inr ⟨c3, ?_⟩⟩
        rcases lk with ⟨k, _⟩ | ⟨_, c, ec, ic⟩
        · have k : X.env.scope.names.lookup pr.2 = some .local := k
          rw [c2] at k
          cases k
        · obtain ⟨c', ec'⟩ := hhas pr.2 c3
          have e1 := hcl _ _ ec'
          have ec : X.env.cells.lookup pr.2 = some c := ec
          rw [ec] at e1
          cases e1
          exact ⟨c, ec', ic.keeps old⟩
  have un0 : Un (frs X.stack) fp H1 (upd H1 p (.lst [])) s₂.heap h₁ := Un.laid old hple hfree
  have I4 : ∀ tk, Inv X' [] (capS tn.length caps σ) (upd H1 p (.lst [])) { s₂ with heap := h₁, toks := tk } := fun tk => by
    have hN : X'.N = tn ++ caps.map (·.2) := by rw [hX']; rfl
    refine ⟨ok, ?_, I1.bare, ?_, ⟨m1, ?_, fun i x v e1 e2 e3 => ?_⟩, fun x c e => ?_, ?_, fun x c e => ?_, fun pr hp => ?_, ?_, ?_⟩
    · rw [hX']; rfl
    · rw [hX']; exact un0
    · rw [hX']; exact hns₁
    · exact capOk _ i x v e1 e2 e3
    · rw [hX'] at e
      obtain ⟨v, hv⟩ := I1.cell x c (hcl x c e)
      exact ⟨v, hv.keeps old⟩
    · rw [hX']
      show upd H1 p (.lst []) C = none
      rw [upd_ne (Ne.symm hpC)]
      exact hfreeC
    · rw [hX'] at e
      have hc := hcells x c e
      show upd H1 p (.lst []) c = none
      rw [upd_ne (hbs c hc.1).2]
      exact hc.2
    · rw [hX'] at hp
      have hp : pr ∈ (X.pn ++ pins) ++ [] := hp
      rw [List.append_nil] at hp
      obtain ⟨e, n, nl, nf, d⟩ := I1.pin pr hp
      have hlt := Heap.lt_size e
      refine ⟨old _ _ e, ?_, ?_, fun z => ?_, d⟩
      · rw [upd_ne (hbs _ hlt).2]; exact n
      · rw [hX']; exact (hbs _ hlt).1
      · rw [hX'] at z
        exact (hstk _ z).elim nl nf
    · have e1 : X'.prog = X.prog := by rw [hX']; rfl
      have e2 : X'.w = X.w := by rw [hX']; rfl
      rw [e1, e2]
      exact I1.hok.laid old hple ⟨Nat.zero_le _, [], 0, .nil, hacc⟩
    · rw [hN]
      unfold capS
      rw [List.length_append, List.length_append, List.length_replicate, List.length_map, List.length_map]
  have fpk : ∀ H', (∀ b ∈ fp, H' b = none) → ∀ b ∈ fp, FpOk X' [] H' b := fun H' hn b hb => by
    rw [hX']
    refine ⟨hn b hb, (hbs b (hfpl b hb)).1, hfps b hb, .inl hb, fun x c e => fun z => (hfp b hb).2.2.2.2.1 x c (hcl x c e) z, fun pr hp => ?_⟩
    have hp : pr ∈ (X.pn ++ pins) ++ [] := hp
    rw [List.append_nil] at hp
    exact (hfp b hb).2.2.2.2.2 pr hp
  obtain ⟨hg, hf, he⟩ := hb s₂ H1 C fp (X.pn ++ pins)
  rw [← hX'] at hg hf he
  have p1 : X'.prog = X.prog := by rw [hX']; rfl
  have p2 : X'.w = X.w := by rw [hX']; rfl
  have p3 : X'.K = X.K := by rw [hX']; rfl
  have p4 : X'.calm = true := by rw [hX']; exact hcalm
  have p5 : X'.env = compEnvC scope cl C X.env := by rw [hX']; rfl
  have p6 : X'.A = X.A := by rw [hX']; rfl
  have p7 : X'.xe = fun _ _ => False := by rw [hX']; rfl
  have st1 : tnr 0 h₁ := T.keep _ _ _ st fun b hb o e => old b o e
  have loop : ∀ tk, codeAny (model X.prog X.w) X.A (.compLoop (.ListComp elt [⟨tgt, iter, ifs, 0⟩] scope pos) 0 (.ref it) (.ref p) (compEnvC scope cl C X.env))
      (compPost (model X.prog X.w) X.A (fun _ _ => False) none (EP X.nox pins σ Q) (.ref p) C) { s₂ with heap := h₁, toks := tk } := fun tk => by
    refine codeAny_compLoop_gen (fun n s' => ∃ i xs σ' H', Inv X' [] σ' H' s' ∧ tnr i s'.heap ∧ (∀ b ∈ fp, H' b = none) ∧ W i n xs σ' H') ?_ m0 ⟨0, [], _, _, I4 tk, st1, fun b hb => ?_, w0⟩
    · rintro n s3 ⟨i, xs, σ3, H3, I3, st3, fr3, w3⟩
      rcases turn i n xs σ3 H3 w3 with ⟨stop, qn⟩ | ⟨go, step⟩
      · have q1 := T.done X' p1 p2 p3 p4 i [] s3 _ H3 (fun _ _ => False) I3 (fpk H3 fr3) st3 stop
        rw [p6] at q1
        refine thn q1 fun r s4 ⟨hr, I4'⟩ => ?_
        subst hr
        obtain ⟨m4, hm4, _⟩ := I4'.loc
        rw [p5] at hm4
        refine ⟨m4, hm4, fun h' hs' => ?_⟩
        have hb4 := I4'.base
        rw [hX'] at hb4
        have hb4 : Un (frs X.stack) fp H1 H3 s₂.heap s4.heap := hb4
        have neC : ∀ b o, s₂.heap.get? b = some o → b ≠ C := fun b o e => (hbs b (Heap.lt_size e)).1
        have keepC : ∀ b o, b ≠ C → s4.heap.get? b = some o → h'.get? b = some o := fun b o nb e => hs'.extBut b o nb e
        have hfc : H3 C = none := by
          have z := I4'.free
          rw [p5] at z
          exact z
        have un4 : Un (frs X.stack) fp H1 H3 s₂.heap h' := ⟨fun b o e n hb hx => keepC b o (neC b o e) (hb4.keep b o e n hb hx), fun b o e n hb hx => let ⟨sl, z⟩ := hb4.slot b o e n hb hx; ⟨sl, keepC b _ (neC b o e) z⟩, hb4.free,
          fun b o e hx => let ⟨o', z⟩ := hb4.there b o e hx; ⟨o', keepC b _ (neC b o e) z⟩, hb4.tups, hb4.frzs, hb4.tbls⟩
        have hok4 : HOk X.prog X.w H3 h' := by
          have hk := I4'.hok
          rw [p1, p2] at hk
          intro b u e
          refine (hk b u e).stay (fun c v hc q => keepC c v ?_ q) (fun _ q => q) fun _ _ q => q
          rcases hc with z | z
          · rw [z]; intro z2; rw [z2, hfc] at e; cases e
          · intro z2; rw [z2, hfc] at z; cases z
        obtain ⟨hh, gg, dd, tt, os'⟩ := s4
        have hos : os' = s₂.os := by
          have z := I4'.os
          rw [hX'] at z
          exact z
        subst hos
        have I9 := I1.call (h' := h') (g' := gg) (d' := dd) (t' := tt) (ch := fp) un4 hok4 I4'.bare (fun b hb => by
          obtain ⟨_, f1, f2, f3, f4, f5⟩ := hfp b hb
          exact ⟨f3, f1, f4, f5⟩)
        exact ⟨.ref p, H3, I9, rfl, qn⟩
      · have q1 := T.item X' p1 p2 p3 p4 i [] s3 _ H3 (fun _ _ => False) I3 (fpk H3 fr3) st3 go
        rw [p6] at q1
        refine thn q1 fun r s4 ⟨u, hr, h4⟩ => ?_
        subst hr
        refine thn h4 fun _ s5 ⟨x, H5, I5, r5, y5, st5, fr5⟩ => ?_
        have I5' := I5.pinned (fpk H5 fr5) (T.obj _ _ st5)
        have q5 := hg _ s5 _ H5 x u _ I5' r5 (step x H5 y5)
        rw [p1, p2, p5, p6, p7] at q5
        refine thn q5 fun _ s6 ⟨σ6, H6, I6, q6⟩ => ?_
        have q6 := hf _ s6 σ6 H6 _ I6 q6
        rw [p1, p2, p5, p6, p7] at q6
        refine thn q6 fun b s7 ⟨H7, I7, q7⟩ => ?_
        have again : ∀ {s8 : Shared} {H8 : Hp}, Inv X' ([] ++ pinsAt fp s5.heap) σ6 H8 s8 → Inv X' [] σ6 H8 s8 ∧ tnr (i + 1) s8.heap ∧ (∀ b ∈ fp, H8 b = none) := fun {s8 H8} I8 => by
          refine ⟨I8.unpinned, T.keep _ _ _ st5 fun b hb o e => (I8.pin (b, o) (List.mem_append_right _ (List.mem_append_right _ (mem_pinsAt hb e)))).1, fun b hb => ?_⟩
          obtain ⟨o, e, d⟩ := T.obj _ _ st5 b hb
          exact (I8.pin (b, o) (List.mem_append_right _ (List.mem_append_right _ (mem_pinsAt hb e)))).2.1
        cases b with
        | false =>
          obtain ⟨m', hm, w7⟩ := q7
          obtain ⟨a1, a2, a3⟩ := again I7
          exact ⟨m', hm, i + 1, xs, σ6, H7, a1, a2, a3, w7⟩
        | true =>
          rw [if_pos rfl]
          have q8 := he _ s7 σ6 H7 _ I7 q7
          rw [p1, p2, p5, p6, p7] at q8
          refine thn q8 fun y s8 ⟨yv, H8, I8, ry, hac, hsz, m', hm, w8⟩ => ?_
          have q9 := mt_append (X := X') _ s8 σ6 H8 (.ref p) [yv] (.ref p) [y] (fun _ H9 => H9 = upd H8 p (.lst (xs ++ [yv]))) I8 rfl (.cons ry .nil) ⟨p, xs, yv, rfl, rfl, hac, hsz, rfl⟩
          rw [p1, p2, p6, p7] at q9
          refine thn q9 fun _ s9 ⟨_, H9, I9, _, e9⟩ => ?_
          subst e9
          obtain ⟨a1, a2, a3⟩ := again I9
          exact ⟨m', hm, i + 1, xs ++ [yv], σ6, _, a1, a2, a3, w8⟩
    · rw [upd_ne (hbs b (hfpl b hb)).2]
      exact (hfp b hb).1
  have L0 := loop (s₂.toks + ([] : List (Str × Value)).length)
  exact codeAny_compStart_list L0 (T.self _ _ _ _ _ st1 L0)
end DL

namespace DL
open PySem PySem.Spec PyProof.Rows L2
theorem b_len : bootBuiltins "len" = some (.builtin "len") := by decide +kernel
theorem b_abs : bootBuiltins "abs" = some (.builtin "abs") := by decide +kernel
theorem b_isinstance : bootBuiltins "isinstance" = some (.builtin "isinstance") := by decide +kernel
theorem b_sorted : bootBuiltins "sorted" = some (.builtin "sorted") := by decide +kernel
theorem b_int : bootBuiltins "int" = some (.type "int") := by decide +kernel
theorem b_bool : bootBuiltins "bool" = some (.type "bool") := by decide +kernel
theorem b_tuple : bootBuiltins "tuple" = some (.type "tuple") := by decide +kernel
theorem b_list : bootBuiltins "list" = some (.type "list") := by decide +kernel
theorem b_set : bootBuiltins "set" = some (.type "set") := by decide +kernel

section
variable {X : Cx}
theorem pureR.imp {K : PySem.W.Frag} {f g : List D → (D → Prop) → Prop} {vs : List V} {H : Hp} {Q : VK} (h : ∀ ds R, f ds R → g ds R) (p : pureR K f vs H Q) : pureR K g vs H Q :=
  let ⟨M, ds, R, m, rs, hf, k⟩ := p; ⟨M, ds, R, m, rs, h ds R hf, k⟩
/-- a + b: numbers, or lists -/
def fPlus : List D → (D → Prop) → Prop
  | [.int i, .int j], R => R (.int (i + j))
  | [.lst xs, .lst ys], R => xs.length + ys.length ≤ 1000 ∧ R (.lst (xs ++ ys))
  | _, _ => False
theorem o_plus : OpR X (binaryOp .Add) fun x y => pureR X.K fPlus [x, y] :=
  OpR.imp (OpR.or o_add o_cat) fun x y H Q ⟨M, ds, R, m, rs, h, k⟩ => by
    unfold fPlus at h
    split at h
    · exact .inl ⟨M, _, R, m, rs, ⟨_, _, rfl, h⟩, k⟩
    · exact .inr ⟨M, _, R, m, rs, h, k⟩
    · exact h.elim

/-! ### == -/
mutual
def D.dp : D → Nat
  | .tup xs => D.dps xs + 1
  | .lst xs => D.dps xs + 1
  | .fz xs => D.dps xs + 1
  | .dct _ _ => 0
  | .non => 0
  | .bl _ => 0
  | .int _ => 0
  | .str _ => 0
def D.dps : List D → Nat
  | [] => 0
  | x :: r => max (D.dp x) (D.dps r)
end
mutual
/-- no dict within -/
def D.nd : D → Bool
  | .tup xs => D.nds xs
  | .lst xs => D.nds xs
  | .fz xs => D.nds xs
  | .dct _ _ => false
  | .non => true
  | .bl _ => true
  | .int _ => true
  | .str _ => true
def D.nds : List D → Bool
  | [] => true
  | x :: r => D.nd x && D.nds r
end
theorem in1_units (A : Around) : A.in1.units = A.units + 1 := rfl
theorem all_true (n : Nat) : ((List.range n).all fun _ => true) = true := by simp
section
variable {pins : List (Addr × Obj)} {σ : L2.St} {H : Hp} {s : Shared} {M : Addr → Prop}
mutual
theorem eqAt_D (I : Inv X pins σ H s) : ∀ (d : D) (A : Around) (v v' : V) (u u' : Value), d.nd = true → A.units + d.dp < cLine → Rep X.K M H d v → Rep X.K M H d v' → RelV v u → RelV v' u' → SeqAt.EqAt A s u u' true
  | .non, A, v, v', u, u', _, _, r, r', q, q' => by
    unfold Rep at r r'; subst r r'
    have := eqAt_V (A := A) (s := s) q q' rfl rfl
    exact this
  | .bl b, A, v, v', u, u', _, _, r, r', q, q' => by
    unfold Rep at r r'; subst r r'
    have := eqAt_V (A := A) (s := s) q q' rfl rfl
    simpa [eqV] using this
  | .int b, A, v, v', u, u', _, _, r, r', q, q' => by
    unfold Rep at r r'; subst r r'
    have := eqAt_V (A := A) (s := s) q q' rfl rfl
    simpa [eqV] using this
  | .str b, A, v, v', u, u', _, _, r, r', q, q' => by
    unfold Rep at r r'; subst r r'
    have := eqAt_V (A := A) (s := s) q q' rfl rfl
    simpa [eqV] using this
  | .tup ds, A, v, v', u, u', hn, hd, r, r', q, q' => by
    unfold Rep at r r'
    obtain ⟨a, vs, rfl, sq, rs⟩ := r
    obtain ⟨b, ws, rfl, sq', rs'⟩ := r'
    cases q
    cases q'
    unfold D.dp at hd
    by_cases e : a = b
    · subst e; exact SeqAt.EqAt.same _
    · obtain ⟨its, r1, t1, _⟩ := I.tuple sq
      obtain ⟨its', r2, t2, _⟩ := I.tuple sq'
      have hs : its.length = its'.length := by rw [← r1.length, ← r2.length, ← Reps.length _ _ rs, ← Reps.length _ _ rs']
      have k := SeqAt.RcAt.tuples (A := A) (e := fun _ => true) t1 t2 (by omega) (eqAt_Ds I ds A.in1 vs ws its its' hn (by rw [in1_units]; omega) rs rs' r1 r2)
      have z : ((List.range (min its.toArray.size its'.toArray.size)).all (fun _ => true) && its.toArray.size == its'.toArray.size) = true := by simp [hs]
      rw [z] at k
      exact SeqAt.EqAt.of_refs e k
  | .lst ds, A, v, v', u, u', hn, hd, r, r', q, q' => by
    unfold Rep at r r'
    obtain ⟨a, vs, rfl, _, sq, rs⟩ := r
    obtain ⟨b, ws, rfl, _, sq', rs'⟩ := r'
    cases q
    cases q'
    unfold D.dp at hd
    by_cases e : a = b
    · subst e; exact SeqAt.EqAt.same _
    · obtain ⟨its, r1, t1, _⟩ := I.list (SqL.of sq)
      obtain ⟨its', r2, t2, _⟩ := I.list (SqL.of sq')
      have hs : its.length = its'.length := by rw [← r1.length, ← r2.length, ← Reps.length _ _ rs, ← Reps.length _ _ rs']
      have k := SeqAt.RcAt.lists (A := A) (e := fun _ => true) t1.isList t2.isList (by simp [hs]) (by omega) (eqAt_Ds I ds A.in1 vs ws its its' hn (by rw [in1_units]; omega) rs rs' r1 r2)
      rw [all_true] at k
      exact SeqAt.EqAt.of_refs e k
  | .fz ds, A, v, v', u, u', hn, hd, r, r', q, q' => by
    unfold Rep at r r'
    obtain ⟨a, vs, rfl, sq, rs⟩ := r
    obtain ⟨b, ws, rfl, sq', rs'⟩ := r'
    cases q
    cases q'
    unfold D.dp at hd
    by_cases e : a = b
    · subst e; exact SeqAt.EqAt.same _
    · obtain ⟨its, r1, t1, _⟩ := I.list sq.seq
      obtain ⟨its', r2, t2, _⟩ := I.list sq'.seq
      have hs : its.length = its'.length := by rw [← r1.length, ← r2.length, ← Reps.length _ _ rs, ← Reps.length _ _ rs']
      have k := SeqAt.RcAt.lists (A := A) (e := fun _ => true) t1.isList t2.isList (by simp [hs]) (by omega) (eqAt_Ds I ds A.in1 vs ws its its' hn (by rw [in1_units]; omega) rs rs' r1 r2)
      rw [all_true] at k
      exact SeqAt.EqAt.of_refs e k
  | .dct ks ds, A, v, v', u, u', hn, _, _, _, _, _ => by unfold D.nd at hn; cases hn
theorem eqAt_Ds (I : Inv X pins σ H s) : ∀ (ds : List D) (A : Around) (vs ws : List V) (us us' : List Value), D.nds ds = true → A.units + D.dps ds < cLine → Reps X.K M H ds vs → Reps X.K M H ds ws → Vals vs us → Vals ws us' →
    ∀ j (h1 : j < us.toArray.size) (h2 : j < us'.toArray.size), SeqAt.EqAt A s us.toArray[j] us'.toArray[j] true
  | [], A, vs, ws, us, us', _, _, r, r', q, q', j, h1, h2 => by
    unfold Reps at r
    subst r
    cases q
    exact absurd h1 (by simp)
  | d :: ds, A, vs, ws, us, us', hn, hd, r, r', q, q', j, h1, h2 => by
    unfold Reps at r r'
    obtain ⟨v, vr, rfl, rv, rs⟩ := r
    obtain ⟨w', wr, rfl, rw', rs'⟩ := r'
    unfold D.nds at hn
    obtain ⟨n1, n2⟩ := Bool.and_eq_true_iff.mp hn
    unfold D.dps at hd
    cases q with
    | @cons _ u0 _ ur qa qb =>
      cases q' with
      | @cons _ u1 _ ur' qa' qb' =>
        cases j with
        | zero => exact eqAt_D I d A v w' _ _ n1 (by omega) rv rw' qa qa'
        | succ j =>
          have z := eqAt_Ds I ds A vr wr ur ur' n2 (by omega) rs rs' qb qb' j (by simpa using h1) (by simpa using h2)
          simpa using z
end
end
theorem dc_int {i j : Int} : decide (V.int i = V.int j) = decide (i = j) := by rw [dec_int]; exact Bool.beq_eq_decide_eq _ _
theorem dc_bl {i j : Bool} : decide (V.bl i = V.bl j) = decide (i = j) := by rw [dec_bl]; exact Bool.beq_eq_decide_eq _ _
theorem dc_str {i j : Str} : decide (V.str i = V.str j) = decide (i = j) := by rw [dec_str]; exact Bool.beq_eq_decide_eq _ _
def fEq : List D → (D → Prop) → Prop
  | [.int i, .int j], R => R (.bl (decide (i = j)))
  | [.str x, .str y], R => R (.bl (decide (x = y)))
  | [.bl a, .bl b], R => R (.bl (decide (a = b)))
  | [.tup xs, .tup ys], R => (xs = ys ∧ D.nds xs = true ∧ D.dps xs ≤ 60) ∧ R (.bl true)
  | [.lst xs, .lst ys], R => ((xs = ys ∧ D.nds xs = true ∧ D.dps xs ≤ 60) ∧ R (.bl true)) ∨ (xs.length ≠ ys.length ∧ R (.bl false))
  | _, _ => False
theorem fEq_int {i j : Int} {R : D → Prop} : fEq [.int i, .int j] R ↔ R (.bl (decide (i = j))) := Iff.rfl
theorem fEq_str {i j : Str} {R : D → Prop} : fEq [.str i, .str j] R ↔ R (.bl (decide (i = j))) := Iff.rfl
theorem fEq_bl {i j : Bool} {R : D → Prop} : fEq [.bl i, .bl j] R ↔ R (.bl (decide (i = j))) := Iff.rfl
theorem fEq_tup {i j : List D} {R : D → Prop} : fEq [.tup i, .tup j] R ↔ (i = j ∧ D.nds i = true ∧ D.dps i ≤ 60) ∧ R (.bl true) := Iff.rfl
theorem o_eq (hu : X.A.units + 64 < cLine) : OpR X (compareOp .Eq) fun x y => pureR X.K fEq [x, y] := by
  intro pins s σ H x y v u Q I rx ry h
  obtain ⟨M, ds, R, m, rs, h, k⟩ := h
  unfold fEq at h
  split at h
  · obtain ⟨h1, h2⟩ := reps2 rs
    cases rep_int h1
    cases rep_int h2
    refine op_eq pins s σ H _ _ v u Q I rx ry ⟨rfl, ?_⟩
    rw [dc_int]
    exact k _ h _ H (Same.refl H) (Rep.sc rfl)
  · obtain ⟨h1, h2⟩ := reps2 rs
    cases rep_str h1
    cases rep_str h2
    refine op_eq pins s σ H _ _ v u Q I rx ry ⟨rfl, ?_⟩
    rw [dc_str]
    exact k _ h _ H (Same.refl H) (Rep.sc rfl)
  · obtain ⟨h1, h2⟩ := reps2 rs
    cases rep_bl h1
    cases rep_bl h2
    refine op_eq pins s σ H _ _ v u Q I rx ry ⟨rfl, ?_⟩
    rw [dc_bl]
    exact k _ h _ H (Same.refl H) (Rep.sc rfl)
  · obtain ⟨⟨e, hn, hd⟩, h⟩ := h
    subst e
    obtain ⟨h1, h2⟩ := reps2 rs
    unfold Rep at h1 h2
    obtain ⟨a, vs, rfl, sq, rs1⟩ := h1
    obtain ⟨b, ws, rfl, sq', rs2⟩ := h2
    cases rx
    cases ry
    obtain ⟨its, r1, t1, _⟩ := I.tuple sq
    obtain ⟨its', r2, t2, _⟩ := I.tuple sq'
    have hs : its.length = its'.length := by rw [← r1.length, ← r2.length, ← Reps.length _ _ rs1, ← Reps.length _ _ rs2]
    refine SeqAt.eq_tupleAt (e := fun _ => true) t1 t2 (by omega) (eqAt_Ds I _ X.A.in1 vs ws its its' hn (by rw [in1_units]; omega) rs1 rs2 r1 r2) ?_
    have z : ((List.range (min its.toArray.size its'.toArray.size)).all (fun _ => true) && its.toArray.size == its'.toArray.size) = true := by simp [hs]
    rw [z]
    exact ⟨.bl true, H, I, rfl, k _ h _ H (Same.refl H) (Rep.sc rfl)⟩
  · obtain ⟨h1, h2⟩ := reps2 rs
    unfold Rep at h1 h2
    obtain ⟨a, vs, rfl, _, sq, rs1⟩ := h1
    obtain ⟨b, ws, rfl, _, sq', rs2⟩ := h2
    cases rx
    cases ry
    obtain ⟨its, r1, t1, _⟩ := I.list (SqL.of sq)
    obtain ⟨its', r2, t2, _⟩ := I.list (SqL.of sq')
    rcases h with ⟨⟨e, hn, hd⟩, h⟩ | ⟨ne, h⟩
    · subst e
      have hs : its.length = its'.length := by rw [← r1.length, ← r2.length, ← Reps.length _ _ rs1, ← Reps.length _ _ rs2]
      refine SeqAt.eq_listAt (e := fun _ => true) t1.isList t2.isList (by simp [hs]) (by omega) (eqAt_Ds I _ X.A.in1 vs ws its its' hn (by rw [in1_units]; omega) rs1 rs2 r1 r2) ?_
      rw [all_true]
      exact ⟨.bl true, H, I, rfl, k _ h _ H (Same.refl H) (Rep.sc rfl)⟩
    · refine SeqAt.eq_list_lengthsAt t1.isList t2.isList ?_ (by omega) ⟨.bl false, H, I, rfl, k _ h _ H (Same.refl H) (Rep.sc rfl)⟩
      have l1 := r1.length
      have l2 := r2.length
      have l3 := Reps.length _ _ rs1
      have l4 := Reps.length _ _ rs2
      simp only [List.size_toArray, bne_iff_ne, ne_eq]
      omega
  · exact h.elim
def fNe : List D → (D → Prop) → Prop
  | [.int i, .int j], R => R (.bl (!decide (i = j)))
  | [.str x, .str y], R => R (.bl (!decide (x = y)))
  | [.bl a, .bl b], R => R (.bl (!decide (a = b)))
  | _, _ => False
theorem o_ne (_ : X.A.units + 64 < cLine) : OpR X (compareOp .NotEq) fun x y => pureR X.K fNe [x, y] := by
  intro pins s σ H x y v u Q I rx ry h
  obtain ⟨M, ds, R, m, rs, h, k⟩ := h
  unfold fNe at h
  split at h
  · obtain ⟨h1, h2⟩ := reps2 rs
    cases rep_int h1
    cases rep_int h2
    refine op_ne pins s σ H _ _ v u Q I rx ry ⟨rfl, ?_⟩
    rw [dc_int]
    exact k _ h _ H (Same.refl H) (Rep.sc rfl)
  · obtain ⟨h1, h2⟩ := reps2 rs
    cases rep_str h1
    cases rep_str h2
    refine op_ne pins s σ H _ _ v u Q I rx ry ⟨rfl, ?_⟩
    rw [dc_str]
    exact k _ h _ H (Same.refl H) (Rep.sc rfl)
  · obtain ⟨h1, h2⟩ := reps2 rs
    cases rep_bl h1
    cases rep_bl h2
    refine op_ne pins s σ H _ _ v u Q I rx ry ⟨rfl, ?_⟩
    rw [dc_bl]
    exact k _ h _ H (Same.refl H) (Rep.sc rfl)
  · exact h.elim

/-! ### is -/
def fIs : List D → (D → Prop) → Prop
  | [.bl a, .bl b], R => R (.bl (decide (a = b)))
  | [.non, .non], R => R (.bl true)
  | [.tup _, .non], R => R (.bl false)
  | [.lst _, .non], R => R (.bl false)
  | [.int _, .non], R => R (.bl false)
  | [.str _, .non], R => R (.bl false)
  | [.bl _, .non], R => R (.bl false)
  | _, _ => False
theorem fIs_bl {i j : Bool} {R : D → Prop} : fIs [.bl i, .bl j] R ↔ R (.bl (decide (i = j))) := Iff.rfl
def fIsN : List D → (D → Prop) → Prop
  | [.bl a, .bl b], R => R (.bl (!decide (a = b)))
  | _, _ => False
theorem fIsN_bl {i j : Bool} {R : D → Prop} : fIsN [.bl i, .bl j] R ↔ R (.bl (!decide (i = j))) := Iff.rfl
/-! ### isinstance of a built-in type -/
def tyN : D → String
  | .non => "NoneType"
  | .bl _ => "bool"
  | .int _ => "int"
  | .str _ => "str"
  | .tup _ => "tuple"
  | .lst _ => "list"
  | .fz _ => "list"
  | .dct _ _ => "dict"
def isT (T n : String) : Bool := n == T || (n == "bool" && T == "int")
/-- what the model's table says of the built-in types that are asked here -/
def tyTab (T : String) : Prop := ∀ (K : PySem.W.Frag) (n : String), n ∈ ["NoneType", "bool", "int", "str", "tuple", "list", "dict"] → PySem.W.kitOne K (.type n) (.type T) = some (isT T n)
theorem tyN_mem (d : D) : tyN d ∈ ["NoneType", "bool", "int", "str", "tuple", "list", "dict"] := by cases d <;> simp [tyN]
/-- isinstance(x, T) by the object's own kind, whatever the kind's road -/
theorem isi_D {pins : List (Addr × Obj)} {σ : L2.St} {H : Hp} {s : Shared} {A : Around} {E : Value → Shared → Prop} {M : Addr → Prop} {d : D} {v : V} {u : Value} {T : String} {Q : Value → Shared → Prop} (I : L2.Inv X pins σ H s) (r : Rep X.K M H d v) (ru : RelV v u) (ht : tyTab T)
    (h : ∀ tk, Q (.bool (isT T (tyN d))) { s with toks := tk }) : wpAny (model X.prog X.w) A (call (.builtin "isinstance") [u, .type T]) Q E s := by
  have e := ht X.K (tyN d) (tyN_mem d)
  cases d with
  | non => unfold Rep at r; subst r; exact isinst_ok I ru (.non) e h
  | bl b => unfold Rep at r; subst r; exact isinst_ok I ru (.bl b) e h
  | int b => unfold Rep at r; subst r; exact isinst_ok I ru (.int b) e h
  | str b => unfold Rep at r; subst r; exact isinst_ok I ru (.str b) e h
  | tup xs =>
    unfold Rep at r
    obtain ⟨a, vs, rfl, sq, _⟩ := r
    cases ru
    obtain ⟨its, _, ⟨o, h1, h2, _⟩, _⟩ := I.tuple sq
    exact PySem.W.kia_one PySem.W.kitx_tuple I.kIn ⟨o, h1, h2⟩ e (fun z => nomatch z) h
  | lst xs => unfold Rep at r; obtain ⟨a, vs, rfl, _, sq, _⟩ := r; exact isinst_ok I ru (.lst sq) e h
  | fz xs =>
    unfold Rep at r
    obtain ⟨a, vs, rfl, sq, _⟩ := r
    cases ru
    obtain ⟨its, _, ⟨o, n, h1, h2, _⟩, _⟩ := I.list sq.seq
    exact PySem.W.kia_one PySem.W.kitx_list I.kIn ⟨o, h1, h2⟩ e (fun z => nomatch z) h
  | dct ks xs => unfold Rep at r; obtain ⟨a, vs, rfl, _, sq, _⟩ := r; exact isinst_ok I ru (.dK sq) e h
def dIsi (T : String) (t : TDE) : TDE := fun δ R => t δ (wd fun x δ1 => R (.d (.bl (isT T (tyN x)))) δ1)
def rIsi (K : PySem.W.Frag) (T : String) : List V → Hp → VK → Prop := fun xs H Q => ∃ x M d, xs = [x, .ty T] ∧ Rep K M H d x ∧ Q (.bl (isT T (tyN d))) H
theorem call_isi {T : String} (ht : tyTab T) : CallR X (.builtin "isinstance") (rIsi X.K T) := by
  intro pins s σ H xs us Q I r h
  obtain ⟨x, M, d, rfl, rx, q⟩ := h
  obtain ⟨u, w', rfl, ru, rw'⟩ := vals2 r
  cases rw'
  exact isi_D I rx ru ht fun tk => ⟨.bl _, H, I.tok _, rfl, q⟩
theorem de_isi {T : Str} {n : String} {a : Expr} {ta : TDE} {p p2 pos : Pos} (ht : tyTab n) (hg : Gl X "isinstance") (hm : X.mg "isinstance" = none) (hgT : Gl X T) (hmT : X.mg T = none) (hvT : bootBuiltins T = some (.type n)) (ha : DE X a ta)
    (hnT : T ≠ "__name__" := by decide) (hdT : (T == ("__debug__" : Str)) = false := by decide)
    (he : starEach [a, .Name T p2] X.env = (false, eval a X.env) :: starEach [.Name T p2] X.env := by rfl) (he2 : starEach [.Name T p2] X.env = (false, eval (.Name T p2) X.env) :: starEach [] X.env := by rfl) (hpl : (backTo pos (starEach [.Name T p2] X.env)).any (·.1) = false := by rfl) :
    DE X (.Call (.Name "isinstance" p) [a, .Name T p2] [] pos) (dIsi n ta) :=
  PE.imp (pe_callB (call_isi ht) hg hm b_isinstance (pa_cons ha (pa_cons (pe_bltn (v := .ty n) hgT hmT hvT rfl hnT hdT) pa_nil he2) he) (by decide) (by decide) he hpl) fun σ H Q ⟨G, δ, P, R, s, h, k, _⟩ => up.mk s h fun d δ1 h1 v H1 s1 => by
    obtain ⟨A, q⟩ := id s1
    exact ⟨v, _, d, rfl, q.pnd (d, v) (by simp), k _ δ1 h1 _ H1 ((s1.sub (P' := P) fun p hp => List.mem_cons_of_mem _ hp).sc rfl)⟩
theorem ty_int : tyTab "int" := fun K n hn => by
  simp only [List.mem_cons, List.not_mem_nil, or_false] at hn
  rcases hn with rfl | rfl | rfl | rfl | rfl | rfl | rfl <;> with_unfolding_all rfl
theorem ty_bool : tyTab "bool" := fun K n hn => by
  simp only [List.mem_cons, List.not_mem_nil, or_false] at hn
  rcases hn with rfl | rfl | rfl | rfl | rfl | rfl | rfl <;> with_unfolding_all rfl
theorem ty_list : tyTab "list" := fun K n hn => by
  simp only [List.mem_cons, List.not_mem_nil, or_false] at hn
  rcases hn with rfl | rfl | rfl | rfl | rfl | rfl | rfl <;> with_unfolding_all rfl
end
end DL

namespace DL
open PySem PySem.Spec PyProof.Rows L2
section
variable {K : PySem.W.Frag} {G : Gf} {A A' : Addr → Prop} {δ : List Sl} {P P' : List (D × V)} {σ : L2.St} {H H' : Hp}
theorem Sx.addA {p : Addr} (s : Sx K G A δ P σ H) (hn : H p = none) (hs : Same H H') (hp : H' p ≠ none) : Sx K G (fun b => A b ∨ b = p) δ P σ H' := by
  have x := s.same hs
  have hM : ∀ b, (G.M0 b ∨ (A b ∨ b = p)) → (G.M0 b ∨ A b) ∨ H b = none := fun b h => by
    rcases h with h | h | h
    · exact .inl (.inl h)
    · exact .inl (.inr h)
    · subst h; exact .inr hn
  have up : ∀ d v, Rep K (fun b => G.M0 b ∨ A b) H d v → Rep K (fun b => G.M0 b ∨ (A b ∨ b = p)) H' d v := fun d v r => Rep.kp (Kp.of_same hs) _ _ (Rep.more hM _ _ r)
  have h0 : G.H0 p = none := by
    cases q : G.H0 p with
    | none => rfl
    | some o => exact absurd hn (s.stay p (by rw [q]; exact fun z => nomatch z))
  refine ⟨x.old, x.stay, x.m0, x.pm, fun b h => h.elim (s.new b) fun e => .inl (by rw [e]; exact h0), fun b h => h.elim (x.thr b) fun e => by rw [e]; exact hp, s.len, fun j d' e => ?_, fun j b d' e => ?_, s.inj, fun q hq => up _ _ (s.pnd q hq)⟩
  · obtain ⟨v, q, r⟩ := s.dat j d' e
    exact ⟨v, q, up _ _ r⟩
  · obtain ⟨q, r, o⟩ := s.own j b d' e
    refine ⟨q, .inl r, OwnAt.kp (Kp.of_same hs) ?_ (OwnAt.more hM o)⟩
    cases z : H b with
    | none => exact absurd z (s.thr b r)
    | some o' => exact hs b o' z
/-- fewer are owned: what no slot holds -/
theorem Sx.subA (s : Sx K G A δ P σ H) (hA : ∀ b, A' b → A b) (ho : ∀ (i : Nat) a d, δ[i]? = some (.own a d) → A' a) : Sx K G A' δ P σ H := by
  have hM : ∀ b, (G.M0 b ∨ A' b) → (G.M0 b ∨ A b) ∨ H b = none := fun b h => .inl (h.elim .inl fun z => .inr (hA b z))
  exact ⟨s.old, s.stay, s.m0, s.pm, fun b h => s.new b (hA b h), fun b h => s.thr b (hA b h), s.len, fun i d e => let ⟨v, q, r⟩ := s.dat i d e; ⟨v, q, Rep.more hM _ _ r⟩, fun i a d e => let ⟨q, _, o⟩ := s.own i a d e; ⟨q, ho i a d e, OwnAt.more hM o⟩, s.inj,
    fun p hp => Rep.more hM _ _ (s.pnd p hp)⟩
/-- an owned list that no slot holds is changed -/
theorem Sx.poke {p : Addr} {vs ws : List V} (s : Sx K G A δ P σ H) (hp : A p) (hv : H p = some (.lst vs)) (hno : ∀ (i : Nat) d, δ[i]? ≠ some (.own p d)) : Sx K G A δ P σ (upd H p (.lst ws)) := by
  have hk : ∀ b o, b ≠ p → H b = some o → upd H p (.lst ws) b = some o := fun b o n e => by rw [upd_ne n]; exact e
  have kp : Kp (fun b => G.M0 b ∨ A b) H (upd H p (.lst ws)) := ⟨fun b o e n => hk b o (fun z => n (.inr (by rw [z]; exact hp))) e, fun b xs e => hk b _ (fun z => by rw [z, hv] at e; cases e) e, fun b o u e => hk b _ (fun z => by rw [z, hv] at e; cases e) e⟩
  have stay : ∀ b, H b ≠ none → upd H p (.lst ws) b ≠ none := fun b e => by
    by_cases z : b = p
    · rw [z, upd_same]; exact fun z => nomatch z
    · rw [upd_ne z]; exact e
  have na : ∀ b o, G.H0 b = some o → ¬ G.Pm b → b ≠ p := fun b o e n z => (s.new p hp).elim (fun q => by rw [z] at e; rw [e] at q; cases q) fun q => n (by rw [z]; exact q)
  refine ⟨fun b o e n => hk b o (na b o e n) (s.old b o e n), fun b e => stay b (s.stay b e), s.m0, s.pm, s.new, fun b e => stay b (s.thr b e), s.len, fun i d e => let ⟨v, q, r⟩ := s.dat i d e; ⟨v, q, Rep.kp kp _ _ r⟩, fun i a d e => ?_, s.inj, fun q hq => Rep.kp kp _ _ (s.pnd q hq)⟩
  obtain ⟨q, r, o⟩ := s.own i a d e
  have ne : a ≠ p := fun z => by subst z; exact hno i d e
  exact ⟨q, r, OwnAt.kp kp (by rw [upd_ne ne]) o⟩
end

def capO : Option Sl → Sl
  | some (.dat d) => .dat d
  | _ => .no
def capL (caps : List (Nat × Str)) (δ : En) : En := caps.map fun p => capO δ[p.1]?
def oS : Option D → Sl
  | none => .no
  | some d => .dat d
/-- whatever the block's own names stand for -/
def allT : Nat → (List Sl → Prop) → Prop
  | 0, p => p []
  | n + 1, p => ∀ t : Option D, allT n fun ts => p (oS t :: ts)
/-- the own names have got something, the others are as they were -/
def okT : Nat → En → En → Prop
  | 0, δ, c => δ = c
  | n + 1, .dat _ :: r, c => okT n r c
  | _ + 1, _, _ => False
abbrev TDC := En → (List D → En → Prop) → Prop
def dComp (src : TDC) (nt : Nat) (caps : List (Nat × Str)) (g : TDG) (tc : TDT) (te : TDE) : TDE := fun δ R => src δ fun xs δ1 => xs.length ≤ 1000 ∧ ∃ f : D → Option D,
  (∀ x ∈ xs, allT nt fun ts => g x (ts ++ capL caps δ1) fun δ2 => tc δ2 fun b δ3 => if b = true then te δ3 (wd fun y δ4 => okT nt δ4 (capL caps δ1) ∧ f x = some y) else okT nt δ3 (capL caps δ1) ∧ f x = none) ∧ R (.d (.lst (xs.filterMap f))) δ1
theorem allT_get : ∀ {n : Nat} {p : List Sl → Prop}, allT n p → ∀ ts : List (Option D), ts.length = n → p (ts.map oS)
  | 0, p, h, ts, e => by rw [List.length_eq_zero_iff.mp e]; exact h
  | n + 1, p, h, [], e => by cases e
  | n + 1, p, h, t :: ts, e => allT_get (h t) ts (Nat.succ.inj e)
theorem okT_get : ∀ {n : Nat} {δ c : En}, okT n δ c → ∃ ts : List (Option D), ts.length = n ∧ δ = ts.map oS ++ c
  | 0, δ, c, h => ⟨[], rfl, h⟩
  | n + 1, [], c, h => h.elim
  | n + 1, .dat d :: r, c, h => by
    obtain ⟨ts, e, q⟩ := okT_get (n := n) (δ := r) h
    exact ⟨some d :: ts, by rw [List.length_cons, e], by rw [q]; rfl⟩
  | n + 1, .no :: r, c, h => h.elim
  | n + 1, .own _ _ :: r, c, h => h.elim
section
variable {K : PySem.W.Frag} {G : Gf} {δ : List Sl} {P : List (D × V)} {σ : L2.St}
theorem capL_dat {caps : List (Nat × Str)} {i : Nat} {d : D} (e : (capL caps δ)[i]? = some (.dat d)) : ∃ p, caps[i]? = some p ∧ δ[p.1]? = some (.dat d) := by
  unfold capL at e
  rw [List.getElem?_map] at e
  cases hc : caps[i]? with
  | none => rw [hc] at e; cases e
  | some p =>
    rw [hc] at e
    refine ⟨p, rfl, ?_⟩
    have e := Option.some.inj e
    cases q : δ[p.1]? with
    | none => simp [q, capO] at e
    | some z =>
      cases z with
      | dat d' => simp only [q, capO] at e; cases e; rfl
      | no => simp [q, capO] at e
      | own _ _ => simp [q, capO] at e
theorem capL_own {caps : List (Nat × Str)} {i : Nat} {a : Addr} {d : D} (e : (capL caps δ)[i]? = some (.own a d)) : False := by
  unfold capL at e
  rw [List.getElem?_map] at e
  cases hc : caps[i]? with
  | none => rw [hc] at e; cases e
  | some p =>
    rw [hc] at e
    have e := Option.some.inj e
    cases q : δ[p.1]? with
    | none => simp [q, capO] at e
    | some z => cases z <;> simp [q, capO] at e
/-- the block's frame at its start -/
theorem cap_S {A : Addr → Prop} {nt : Nat} {caps : List (Nat × Str)} {H : Hp} (s : Sx K G A δ P σ H) : Sx K ⟨fun b => G.M0 b ∨ A b, H, fun _ => False⟩ (fun _ => False) ((List.replicate nt none).map oS ++ capL caps δ) [] (capS nt caps σ) H := by
  have hM : ∀ b, ((G.M0 b ∨ A b) ∨ False) → (G.M0 b ∨ A b) ∨ H b = none := fun b h => h.elim .inl fun z => z.elim
  have hr : (List.replicate nt none).map oS = List.replicate nt Sl.no := by rw [List.map_replicate]; rfl
  rw [hr]
  refine ⟨fun b o e _ => e, fun b e => e, s.mem, fun b h => h.elim, fun b h => h.elim, fun b h => h.elim, ?_, fun i d e => ?_, fun i a d e => ?_, fun i j a d e h1 _ => ?_, fun p hp => (nomatch hp)⟩
  · unfold capL capS
    rw [List.length_append, List.length_append, List.length_replicate, List.length_replicate, List.length_map, List.length_map]
  · by_cases hi : i < nt
    · rw [List.getElem?_append_left (by rw [List.length_replicate]; exact hi), List.getElem?_replicate, if_pos hi] at e
      cases e
    · rw [List.getElem?_append_right (by rw [List.length_replicate]; omega), List.length_replicate] at e
      obtain ⟨p, hp, hd⟩ := capL_dat e
      obtain ⟨v, q, r⟩ := s.dat _ _ hd
      refine ⟨v, ?_, Rep.more hM _ _ r⟩
      unfold capS
      rw [List.getElem?_append_right (by rw [List.length_replicate]; omega), List.length_replicate, List.getElem?_map, hp]
      show some ((σ[p.1]?).join) = _
      rw [q]
      rfl
  all_goals
    exfalso
  · by_cases hi : i < nt
    · rw [List.getElem?_append_left (by rw [List.length_replicate]; exact hi), List.getElem?_replicate, if_pos hi] at e
      cases e
    · rw [List.getElem?_append_right (by rw [List.length_replicate]; omega)] at e
      exact capL_own e
  · by_cases hi : i < nt
    · rw [List.getElem?_append_left (by rw [List.length_replicate]; exact hi), List.getElem?_replicate, if_pos hi] at h1
      cases h1
    · rw [List.getElem?_append_right (by rw [List.length_replicate]; omega)] at h1
      exact capL_own h1
theorem oS_own {ts : List (Option D)} {caps : List (Nat × Str)} {i : Nat} {a : Addr} {d : D} (e : (ts.map oS ++ capL caps δ)[i]? = some (.own a d)) : False := by
  by_cases hi : i < ts.length
  · rw [List.getElem?_append_left (by rw [List.length_map]; exact hi), List.getElem?_map] at e
    cases hc : ts[i]? with
    | none => rw [hc] at e; cases e
    | some o =>
      rw [hc] at e
      cases o <;> cases e
  · rw [List.getElem?_append_right (by rw [List.length_map]; omega)] at e
    exact capL_own e
/-- the block's frame behind a turn, over the heap as it stands then -/
theorem re_S {M : Addr → Prop} {A2 : Addr → Prop} {ts : List (Option D)} {caps : List (Nat × Str)} {H H5 H6 : Hp} {P2 : List (D × V)} {σ2 : L2.St} (s : Sx K ⟨M, H, fun _ => False⟩ A2 (ts.map oS ++ capL caps δ) P2 σ2 H5) (k : Kp M H5 H6) (hm : ∀ b, M b → H6 b ≠ none) :
    Sx K ⟨M, H6, fun _ => False⟩ (fun _ => False) (ts.map oS ++ capL caps δ) [] σ2 H6 := by
  have hM : ∀ b, (M b ∨ False) → (M b ∨ A2 b) ∨ H5 b = none := fun b h => .inl (h.elim .inl fun z => z.elim)
  have k' : Kp (fun b => M b ∨ False) H5 H6 := ⟨fun b o e n => k.un b o e fun z => n (.inl z), k.tu, k.fr⟩
  exact ⟨fun b o e _ => e, fun b e => e, hm, fun b h => h.elim, fun b h => h.elim, fun b h => h.elim, s.len, fun i d e => let ⟨v, q, r⟩ := s.dat i d e; ⟨v, q, Rep.kp k' _ _ (Rep.more hM _ _ r)⟩, fun i a d e => (oS_own e).elim,
    fun i j a d e h1 _ => (oS_own h1).elim, fun p hp => (nomatch hp)⟩
theorem filterMap_snoc {xs : List D} {f : D → Option D} {i : Nat} {x : D} (h : xs[i]? = some x) : (xs.take (i + 1)).filterMap f = (xs.take i).filterMap f ++ (match f x with | some y => [y] | none => []) := by
  rw [List.take_add_one, h, List.filterMap_append]
  cases e : f x <;> simp [e]
/-- the heart: what a comprehension gathers -/
theorem comp_core {J : It} {xs : List D} {f : D → Option D} {nt : Nat} {caps : List (Nat × Str)} {g : TDG} {tc : TDT} {te : TDE} {H1 : Hp} {Q : VK} (s : S K G δ P σ H1) (hz : xs.length ≤ 1000)
    (hgo : ∀ A i H, Sx K G A δ P σ H → i < xs.length → J.go i H) (hst : ∀ A H, Sx K G A δ P σ H → J.stop xs.length H)
    (hyl : ∀ A i x H H2, Sx K G A δ P σ H → i < xs.length → J.yld i H x H2 → Same H H2 ∧ ∃ d, xs[i]? = some d ∧ Rep K (fun b => G.M0 b ∨ A b) H2 d x)
    (hf : ∀ x ∈ xs, allT nt fun ts => g x (ts ++ capL caps δ) fun δ2 => tc δ2 fun b δ3 => if b = true then te δ3 (wd fun y δ4 => okT nt δ4 (capL caps δ) ∧ f x = some y) else okT nt δ3 (capL caps δ) ∧ f x = none)
    (k : ∀ v H', S K G δ ((.lst (xs.filterMap f), v) :: P) σ H' → Q v H') (p : Addr) (hp : H1 p = none) :
    ∃ W : Nat → Nat → List V → L2.St → Hp → Prop, (∃ m, W 0 m [] (capS nt caps σ) (upd H1 p (.lst []))) ∧ ∀ i m acc σ' H', W i m acc σ' H' → (J.stop i H' ∧ Q (.ref p) H') ∨ (J.go i H' ∧ ∀ x H2, J.yld i H' x H2 →
      upG K g x σ' H2 fun σ2 H3 => upT K tc σ2 H3 fun b H4 => if b = true then up K te σ2 H4 fun y H5 => H5 p = some (.lst acc) ∧ acc.length < sizeLine ∧ ∃ m', m' < m ∧ W (i + 1) m' (acc ++ [y]) σ2 (upd H5 p (.lst (acc ++ [y]))) else ∃ m', m' < m ∧ W (i + 1) m' acc σ2 H4) := by
  obtain ⟨A0, x0⟩ := s
  have hA0 : ¬ (G.M0 p ∨ A0 p) := fun z => x0.mem p z hp
  have hno : ∀ (i : Nat) d, δ[i]? ≠ some (.own p d) := fun i d e => hA0 (.inr (x0.own i p d e).2.1)
  have x1 := x0.addA hp (same_new hp (.lst [])) (by rw [upd_same]; exact fun z => nomatch z)
  refine ⟨fun i m acc σ' H' => i ≤ xs.length ∧ m = xs.length - i ∧ acc.length ≤ i ∧ H' p = some (.lst acc) ∧ Sx K G (fun b => A0 b ∨ b = p) δ P σ H' ∧ Reps K (fun b => G.M0 b ∨ (A0 b ∨ b = p)) H' ((xs.take i).filterMap f) acc ∧
    ∃ ts : List (Option D), ts.length = nt ∧ Sx K ⟨fun b => G.M0 b ∨ (A0 b ∨ b = p), H', fun _ => False⟩ (fun _ => False) (ts.map oS ++ capL caps δ) [] σ' H', ⟨xs.length, Nat.zero_le _, rfl, Nat.le_refl _, upd_same, x1, by rw [List.take_zero]; exact Reps.nil, List.replicate nt none, List.length_replicate, cap_S x1⟩, ?_⟩
  rintro i m acc σ' H' ⟨hi, rfl, hal, hac, x, rs, ts, hts, sx⟩
  by_cases hlt : i < xs.length
  · refine .inr ⟨hgo _ i H' x hlt, fun v H2 hy => ?_⟩
    obtain ⟨sm0, d, hd, rd⟩ := hyl _ i v H' H2 x hlt hy
    replace sx := re_S sx (Kp.of_same sm0) (x.same sm0).mem
    replace x := x.same sm0
    replace hac := sm0 _ _ hac
    replace rs := Reps.kp (Kp.of_same sm0) _ _ rs
    clear sm0 hy
    have hmem : d ∈ xs := List.mem_of_getElem? hd
    refine ⟨_, ts.map oS ++ capL caps δ, [], d, _, ⟨_, sx.push (Rep.more (fun b z => .inl (z.elim id fun q => q.elim)) _ _ rd)⟩, allT_get (hf d hmem) ts hts, fun δ2 h2 σ2 H3 s2 => ?_⟩
    refine ⟨_, _, [], _, s2, h2, fun b δ3 h3 H4 s3 => ?_⟩
    have fmS := filterMap_snoc (f := f) hd
    have hM1 : ∀ b, (G.M0 b ∨ (A0 b ∨ b = p)) → H2 b ≠ none := x.mem
    cases b with
    | false =>
      obtain ⟨ok3, hn⟩ := h3
      rw [hn, List.append_nil] at fmS
      obtain ⟨ts3, hts3, e3⟩ := okT_get ok3
      subst e3
      obtain ⟨A3, y3⟩ := s3
      have sm : Same H2 H4 := fun b o e => y3.old b o e id
      have x4 := x.same sm
      exact ⟨xs.length - (i + 1), by omega, hlt, rfl, by omega, sm _ _ hac, x4, by rw [fmS]; exact Reps.kp (Kp.of_same sm) _ _ rs, ts3, hts3, re_S y3 Kp.refl x4.mem⟩
    | true =>
      refine up.mk (P := []) s3 h3 fun y δ4 h4 yv H5 s4 => ?_
      obtain ⟨ok4, hy⟩ := h4
      rw [hy] at fmS
      obtain ⟨ts4, hts4, e4⟩ := okT_get ok4
      subst e4
      obtain ⟨A4, y4⟩ := s4
      have sm : Same H2 H5 := fun b o e => y4.old b o e id
      have x5 := x.same sm
      have hac5 := sm _ _ hac
      have ry : Rep K (fun b => G.M0 b ∨ (A0 b ∨ b = p)) H5 y yv := Rep.more (fun b z => .inl (.inl z)) _ _ (y4.pnd (y, yv) (by simp))
      have x6 := x5.poke (p := p) (ws := acc ++ [yv]) (.inr rfl) hac5 hno
      have kp : Kp (fun b => G.M0 b ∨ (A0 b ∨ b = p)) H5 (upd H5 p (.lst (acc ++ [yv]))) := by
        have hk : ∀ b o, b ≠ p → H5 b = some o → upd H5 p (.lst (acc ++ [yv])) b = some o := fun b o n e => by rw [upd_ne n]; exact e
        exact ⟨fun b o e n => hk b o (fun z => n (.inr (.inr z))) e, fun b xs e => hk b _ (fun z => by rw [z, hac5] at e; cases e) e, fun b o u e => hk b _ (fun z => by rw [z, hac5] at e; cases e) e⟩
      refine ⟨hac5, Nat.lt_of_le_of_lt (Nat.le_trans hal hi) (small1000 hz), xs.length - (i + 1), by omega, hlt, rfl, by rw [List.length_append, List.length_singleton]; omega, upd_same, x6, ?_, ts4, hts4, re_S y4 kp x6.mem⟩
      rw [fmS]
      exact Reps.kp kp _ _ (Reps.append _ _ _ _ (Reps.kp (Kp.of_same sm) _ _ rs) (Reps.one ry))
  · have e : i = xs.length := by omega
    subst e
    refine .inl ⟨hst _ H' x, k (.ref p) H' ⟨A0, (x.subA (fun b z => .inl z) fun i a d e => (x0.own i a d e).2.1).push ?_⟩⟩
    rw [List.take_length] at rs
    unfold Rep
    exact ⟨p, acc, rfl, hA0, hac, Reps.more (fun b z => .inl (z.elim .inl fun q => .inr (.inl q))) _ _ rs⟩
end
/-! ### the sources of a comprehension, and the rule -/
def dcLst (t : TDE) : TDC := fun δ R => t δ (wd fun d δ1 => ∃ xs, d = .lst xs ∧ R xs δ1)
def dcTup (t : TDE) : TDC := fun δ R => t δ (wd fun d δ1 => ∃ xs, d = .tup xs ∧ R xs δ1)
def dcRng (t : TDA) : TDC := fun δ R => t δ fun ds δ1 => ∃ j : Int, ds = [.int j] ∧ -(2 ^ 62) ≤ j ∧ j < 2 ^ 62 ∧ R ((List.range j.toNat).map fun (i : Nat) => D.int (i : Int)) δ1
/-- a source: whatever is done with its iterator, from the data -/
def CI (X : Cx) (tg it : Expr) (src : TDC) : Prop := ∃ wi, PI X tg it wi ∧ ∀ (G : Gf) (δ : En) (P : List (D × V)) (σ : L2.St) (H : Hp) (R : List D → En → Prop) (Q : It → Hp → Prop), S X.K G δ P σ H → src δ R →
  (∀ xs δ1, R xs δ1 → ∀ (J : It) (P1 : List (D × V)) (H1 : Hp), (∀ q ∈ P, q ∈ P1) → S X.K G δ1 P1 σ H1 → (∀ A δ σ i H, Sx X.K G A δ P1 σ H → i < xs.length → J.go i H) → (∀ A δ σ H, Sx X.K G A δ P1 σ H → J.stop xs.length H) →
    (∀ A δ σ i x H H2, Sx X.K G A δ P1 σ H → i < xs.length → J.yld i H x H2 → Same H H2 ∧ ∃ d, xs[i]? = some d ∧ Rep X.K (fun b => G.M0 b ∨ A b) H2 d x) → Q J H1) → wi σ H Q
section
variable {X : Cx} {tg e : Expr} {te : TDE} {ta : TDA}
theorem ci_tup (h : DE X e te) : CI X tg e (dcTup te) := ⟨_, pi_tup h, fun G δ P σ H R Q s hs k => up.mk s hs fun d δ1 h1 v H1 s1 => by
  obtain ⟨xs, e, r⟩ := h1
  subst e
  have hat : ∀ A δ σ H, Sx X.K G A δ ((.tup xs, v) :: P) σ H → ∃ a vs, v = .ref a ∧ SqT X.K H a vs ∧ Reps X.K (fun b => G.M0 b ∨ A b) H xs vs := fun A δ σ H x => by
    have q := x.pnd (.tup xs, v) (by simp)
    unfold Rep at q
    exact q
  obtain ⟨A1, x1⟩ := id s1
  obtain ⟨a, vs0, rfl, l0, _⟩ := hat _ _ _ _ x1
  refine ⟨a, rfl, ⟨vs0, l0⟩, k xs δ1 r _ _ H1 (fun q hq => by simp [hq]) s1 (fun A δ σ i H x hi => ?_) (fun A δ σ H x => ?_) fun A δ σ i y H H2 x hi hy => ?_⟩
  · obtain ⟨b, vs, e, l, r⟩ := hat _ _ _ _ x
    cases e
    obtain ⟨w', hw, _⟩ := Reps.get _ _ r i xs[i] (by simp [hi])
    exact ⟨vs, w', l, hw⟩
  · obtain ⟨b, vs, e, l, r⟩ := hat _ _ _ _ x
    cases e
    exact ⟨vs, l, by rw [Reps.length _ _ r]; exact Nat.le_refl _⟩
  · obtain ⟨b, vs, e, l, r⟩ := hat _ _ _ _ x
    cases e
    obtain ⟨e, hy⟩ := hy
    obtain ⟨w', hw, rw'⟩ := Reps.get _ _ r i xs[i] (by simp [hi])
    have z := hy vs l
    rw [hw] at z
    cases z
    subst e
    exact ⟨Same.refl _, xs[i], by simp [hi], rw'⟩⟩
theorem ci_range {a : Expr} {p pos : Pos} (hg : Gl X "range") (hm : X.mg "range" = none) (ha : DA X [a] ta) (hs : starEach [a] X.env = [(false, eval a X.env)] := by rfl) : CI X tg (.Call (.Name "range" p) [a] [] pos) (dcRng ta) :=
  ⟨_, pi_range1 hg hm ha hs, fun G δ P σ H R Q s hs k => ⟨G, δ, P, _, s, hs, fun ds δ1 h1 vs H1 hl s1 => by
    obtain ⟨j, e, h1, h2, r⟩ := h1
    subst e
    match vs, hl with
    | [v], _ =>
      have q : v = .int j := by
        obtain ⟨A, x⟩ := s1
        exact rep_int (x.pnd (.int j, v) (by simp))
      subst q
      refine ⟨j, rfl, h1, h2, k _ δ1 r _ P H1 (fun q hq => hq) (s1.sub fun p hp => by simp [hp]) (fun A δ σ i H x hi => ?_) (fun A δ σ H x => ?_) fun A δ σ i y H H2 x hi hy => ?_⟩
      · rw [List.length_map, List.length_range] at hi
        exact hi
      · rw [List.length_map, List.length_range]
        exact Nat.le_refl _
      · rw [List.length_map, List.length_range] at hi
        obtain ⟨e, hy⟩ := hy
        subst e
        refine ⟨Same.refl _, .int i, by rw [List.getElem?_map, List.getElem?_range hi]; rfl, ?_⟩
        unfold Rep
        rw [hy, Int.zero_add]⟩⟩
/-- the tests -/
def DF (X : Cx) (ifs : List Expr) (t : TDT) : Prop := PF X ifs (upT X.K t)
theorem cf_nil : DF X [] (fun δ R => R true δ) := fun pins s σ H Q I ⟨G, δ, P, R, s', h, k⟩ => pf_nil pins s σ H Q I (k true δ h H s')
theorem de_comp {elt tgt iter : Expr} {ifs : List Expr} {scope : Scope} {pos : Pos} {src : TDC} {cl : List (Str × Addr)} (tn : List Str) (caps : List (Nat × Str)) {g : TDG} {tc : TDT}
    (hcalm : X.calm = true) (hclos : closureFor scope X.env = pure cl) (hcell : ∀ y ∈ scope.names, y.2 ≠ .cell) (hkind : scope.kind = .function) (hnames : ∀ y ∈ scope.names, y.2 = .local → scope.names.lookup y.1 = some .local)
    (hcl : ∀ x c, cl.lookup x = some c → X.env.cells.lookup x = some c) (hhas : ∀ x, ((relabel scope X.env).names.lookup x = some .cell ∨ (relabel scope X.env).names.lookup x = some .free) → ∃ c, cl.lookup x = some c)
    (hcap : ∀ p ∈ caps, X.N[p.1]? = some p.2 ∧ X.env.scope.names.lookup p.2 = some .cell ∧ ((relabel scope X.env).names.lookup p.2 = some .cell ∨ (relabel scope X.env).names.lookup p.2 = some .free))
    (hi : CI X.nox tgt iter src)
    (hb : ∀ s2 H2 C fp pn, DG (compX X (tn ++ caps.map (·.2)) scope cl s2 H2 C fp pn) tgt g ∧ DF (compX X (tn ++ caps.map (·.2)) scope cl s2 H2 C fp pn) ifs tc ∧ DE (compX X (tn ++ caps.map (·.2)) scope cl s2 H2 C fp pn) elt te)
    (hs : ∀ x, foldedSetIterable iter X.env x = pure x := by intro _; rfl) : DE X.nox (.ListComp elt [⟨tgt, iter, ifs, 0⟩] scope pos) (dComp src tn.length caps g tc te) := by
  obtain ⟨wi, hi, hw⟩ := hi
  refine PE.imp (pe_comp (g := upG X.K g) (tc := upT X.K tc) (te := up X.K te) tn caps hcalm hclos hcell hkind hnames hcl hhas hcap hi hb hs) fun σ H Q ⟨G, δ, P, R, s, h, k, _⟩ => ?_
  refine hw G δ P σ H _ _ s h fun xs δ1 ⟨hz, f, hf, r⟩ J P1 H1 hP s1 hgo hst hyl p hp => ?_
  exact comp_core s1 hz (fun A i H x hi => hgo A _ _ i H x hi) (fun A H x => hst A _ _ H x) (fun A i x H H2 s hi hy => hyl A _ _ i x H H2 s hi hy) hf (fun v H' s' => k _ δ1 r v H' (s'.sub fun q hq => by
    rcases List.mem_cons.mp hq with rfl | hq
    · simp
    · exact List.mem_cons_of_mem _ (hP q hq))) p hp
end
/-! ### the closure of a comprehension's block -/
def allCl (cells : List (Str × Addr)) : List (Str × Addr) → Prop
  | [] => True
  | y :: r => cells.lookup y.1 = some y.2 ∧ allCl cells r
theorem cl_sub {cells : List (Str × Addr)} : ∀ {cl : List (Str × Addr)}, allCl cells cl → ∀ x c, cl.lookup x = some c → cells.lookup x = some c
  | [], _, x, c, h => by cases h
  | y :: r, ⟨h1, h2⟩, x, c, h => by
    rw [List.lookup_cons] at h
    cases e : x == y.1 with
    | true =>
      rw [e] at h
      have e := eq_of_beq e
      cases h
      rw [e]
      exact h1
    | false =>
      rw [e] at h
      exact cl_sub h2 x c h
theorem cl_has {names : List (Str × NameKind)} {cl : List (Str × Addr)} (h : (names.all fun y => !(y.2 == .cell || y.2 == .free) || (cl.lookup y.1).isSome) = true) : ∀ x, (names.lookup x = some .cell ∨ names.lookup x = some .free) → ∃ c, cl.lookup x = some c := fun x hx => by
  have key : ∀ (ns : List (Str × NameKind)) k, ns.lookup x = some k → (x, k) ∈ ns := fun ns => by
    induction ns with
    | nil => intro k h; cases h
    | cons y r ih =>
      intro k h
      rw [List.lookup_cons] at h
      cases e : x == y.1 with
      | true =>
        rw [e] at h
        have e := eq_of_beq e
        cases h
        rw [e]
        exact List.mem_cons_self ..
      | false =>
        rw [e] at h
        exact List.mem_cons_of_mem _ (ih k h)
  have go : ∀ k, (k = .cell ∨ k = .free) → names.lookup x = some k → ∃ c, cl.lookup x = some c := fun k hk e => by
    have m := key _ _ e
    have q := List.all_eq_true.mp h _ m
    have hb : ((k == NameKind.cell || k == .free)) = true := by rcases hk with rfl | rfl <;> rfl
    simp only [hb, Bool.not_true, Bool.false_or] at q
    exact Option.isSome_iff_exists.mp q
  rcases hx with e | e
  · exact go _ (.inl rfl) e
  · exact go _ (.inr rfl) e
def allCap (p : Nat × Str → Prop) : List (Nat × Str) → Prop
  | [] => True
  | y :: r => p y ∧ allCap p r
theorem cap_all {p : Nat × Str → Prop} : ∀ {l : List (Nat × Str)}, allCap p l → ∀ y ∈ l, p y
  | [], _, y, h => by cases h
  | z :: r, ⟨h1, h2⟩, y, h => by
    rcases List.mem_cons.mp h with rfl | h
    · exact h1
    · exact cap_all h2 y h
end DL

namespace DL
open PySem PySem.Spec PyProof.Rows L2

/-! ### a def that hands back a new thing, and one that changes what it is handed first -/
def spN (K : PySem.W.Frag) (f : List D → (D → Prop) → Prop) : Sp := fun vs H Q _ => ∃ (M : Addr → Prop) (ds : List D) (R : D → Prop), (∀ b, M b → H b ≠ none) ∧ Reps K M H ds vs ∧ f ds R ∧
  ∀ d, R d → ∀ a H', Same H H' → H a = none → OwnAt K (fun b => M b ∨ b = a) H' a d → Q (.ref a) H'
abbrev FO := D → List D → (D → D → Prop) → Prop
def spO (K : PySem.W.Frag) (f : FO) : Sp := fun vs H Q _ => ∃ (M : Addr → Prop) (a : Addr) (d0 : D) (vs' : List V) (ds : List D) (R : D → D → Prop), vs = .ref a :: vs' ∧ (∀ b, M b → H b ≠ none) ∧ ¬ M a ∧ OwnAt K (fun b => M b ∨ b = a) H a d0 ∧ Reps K (fun b => M b ∨ b = a) H ds vs' ∧ f d0 ds R ∧
  ∀ r d1, R r d1 → ∀ v H', (∀ b o, b ≠ a → H b = some o → H' b = some o) → OwnAt K (fun b => M b ∨ b = a) H' a d1 → Rep K (fun b => M b ∨ b = a) H' r v → Q v H'
/-- the same with the changed thing in the second place -/
def spO1 (K : PySem.W.Frag) (f : FO) : Sp := fun vs H Q E => ∃ v0 v1, vs = [v0, v1] ∧ spO K f [v1, v0] H Q E

theorem spN_spD {K : PySem.W.Frag} {f : List D → (D → Prop) → Prop} {vs : List V} {H : Hp} {Q : VK} {E : XK} (h : spD K f vs H Q E) : spN K f vs H Q E := by
  obtain ⟨M, ds, R, m, rs, hf, k⟩ := h
  exact ⟨M, ds, R, m, rs, hf, fun d r a H' sm fr ow => k d r (.ref a) H' sm (ow.rep (fun z => m a z fr) fun b z => .inl z)⟩
section
variable {P : Program} {w : World} {K : PySem.W.Frag} {mg : Str → Option Value} {base : Heap}
theorem Cal.imp {k : Nat} {x : Str} {ps : List Str} {sp sp' : Sp} (C : Cal P w K mg base k x ps sp) (h : ∀ vs H Q E, sp' vs H Q E → sp vs H Q E) : Cal P w K mg base k x ps sp' := by
  obtain ⟨a, fd, F, b, kp, m⟩ := C.ex
  exact ⟨a, fd, F.imp h, b, kp, m⟩
theorem Cal.pure {k : Nat} {x : Str} {ps : List Str} {f : List D → (D → Prop) → Prop} (C : Cal P w K mg base k x ps (spN K f)) : Cal P w K mg base k x ps (spD K f) := C.imp fun _ _ _ _ h => spN_spD h
/-- nothing is promised -/
theorem cal_none {x : Str} {st : Stmt} {ps : List Str} {f : List D → (D → Prop) → Prop} (F : Fd K mg x st ps) (k : Nat) (h : ∀ ds R, ¬ f ds R) : Cal P w K mg base k x ps (spD K f) := by
  obtain ⟨a, fd, Fu, b, m⟩ := F.ex
  have no : ∀ vs H Q E, ¬ spD K f vs H Q E := fun vs H Q E ⟨_, ds, R, _, _, hf, _⟩ => h ds R hf
  exact ⟨a, fd, ⟨fun vs H Q E h => absurd h (no vs H Q E), fun A outer s H args us vs Q E _ _ _ _ h => absurd h (no vs H Q E)⟩, b, Fu.kp, m⟩
theorem cal_noneO {x : Str} {st : Stmt} {ps : List Str} {f : FO} (F : Fd K mg x st ps) (k : Nat) (h : ∀ d ds R, ¬ f d ds R) : Cal P w K mg base k x ps (spO1 K f) := by
  obtain ⟨a, fd, Fu, b, m⟩ := F.ex
  have no : ∀ vs H Q E, ¬ spO1 K f vs H Q E := fun vs H Q E ⟨_, _, _, _, _, d0, _, ds, R, _, _, _, _, _, hf, _⟩ => h d0 ds R hf
  exact ⟨a, fd, ⟨fun vs H Q E h => absurd h (no vs H Q E), fun A outer s H args us vs Q E _ _ _ _ h => absurd h (no vs H Q E)⟩, b, Fu.kp, m⟩
theorem fn_N {x : Str} {st : Stmt} {N ps : List Str} {k : Nat} {f : List D → (D → Prop) → Prop} (F : Fd K mg x st ps) (Sc : FnScope N ps (defScope st)) (len : ∀ ds R, f ds R → ds.length = ps.length)
    (hbody : ∀ (a : Addr) (cdv : Value) (A : Around) (outer : List Env) (s : Shared) (H : Hp) (E : XK) (ds : List D) (R : D → Prop), Room k (A.deeper (envOfC x (defScope st) s.heap.objs.size a cdv)) → f ds R →
      ∃ t, DSs (cxOf CX0 P w K mg base N x (defScope st) a cdv A outer s H E).nox (defBody st) t ∧ t { nx := fun _ => False, rt := fun _ _ => False, ro := R } (startD N ds)) :
    Cal P w K mg base (k + 1) x ps (spN K f) := by
  obtain ⟨a, fd, Fu, b, m⟩ := F.ex
  refine ⟨a, fd, Fu.ok Sc (fun vs H Q E h => ?_) (fun cdv A outer s H vs Q E hr h => ?_), b, Fu.kp, m⟩
  · obtain ⟨M, ds, R, hm, rs, hf, hk⟩ := h
    rw [← Reps.length _ _ rs]
    exact len ds R hf
  · obtain ⟨M, ds, R, hm, rs, hf, hk⟩ := h
    obtain ⟨t, ht, hq⟩ := hbody a cdv A outer s H E ds R hr hf
    refine ⟨_, ht, ⟨M, H, fun _ => False⟩, startD N ds, [], _, start_S N hm rs, hq, fun _ h => h.elim, ⟨fun _ _ h => h.elim, fun d r a' H' ⟨o1, o2, o3, o4⟩ => hk d r a' H' (fun b o e => o1 b o e id) (o2.elim id fun z => z.elim) o4⟩, fun _ h => h.elim, fun _ h => h.elim⟩
/-- the start of a def whose i-th parameter is its own to change -/
theorem startO_S {M : Addr → Prop} {a : Addr} {d0 : D} {ds1 ds2 : List D} {vs1 vs2 : List V} {H : Hp} (N : List Str) (m : ∀ b, M b → H b ≠ none) (na : ¬ M a) (ow : OwnAt K (fun b => M b ∨ b = a) H a d0) (r1 : Reps K (fun b => M b ∨ b = a) H ds1 vs1) (r2 : Reps K (fun b => M b ∨ b = a) H ds2 vs2) :
    S K ⟨M, H, fun b => b = a⟩ (ds1.map Sl.dat ++ Sl.own a d0 :: (ds2.map Sl.dat ++ List.replicate (N.length - (ds1.length + 1 + ds2.length)) Sl.no)) [] (L2.start N (vs1 ++ .ref a :: vs2)) H := by
  have hl1 := Reps.length _ _ r1
  have hl2 := Reps.length _ _ r2
  have hHa : H a ≠ none := by
    cases d0 with
    | lst ds => obtain ⟨vs, q, _⟩ := ow; rw [q]; exact fun z => nomatch z
    | dct ks ds => obtain ⟨vs, q, _⟩ := ow; rw [q]; exact fun z => nomatch z
    | _ => exact ow.elim
  -- a slot by its place
  have place : ∀ (i : Nat) z, (ds1.map Sl.dat ++ Sl.own a d0 :: (ds2.map Sl.dat ++ List.replicate (N.length - (ds1.length + 1 + ds2.length)) Sl.no))[i]? = some z →
      (∃ d, ds1[i]? = some d ∧ z = .dat d) ∨ (i = ds1.length ∧ z = .own a d0) ∨ (∃ d, ds1.length + 1 ≤ i ∧ ds2[i - (ds1.length + 1)]? = some d ∧ z = .dat d) ∨ z = .no := fun i z e => by
    by_cases h1 : i < ds1.length
    · rw [List.getElem?_append_left (by rw [List.length_map]; exact h1), List.getElem?_map] at e
      cases hd : ds1[i]? with
      | none => rw [hd] at e; cases e
      | some d => rw [hd] at e; exact .inl ⟨d, rfl, (Option.some.inj e).symm⟩
    · rw [List.getElem?_append_right (by rw [List.length_map]; omega), List.length_map] at e
      by_cases h2 : i = ds1.length
      · subst h2
        rw [Nat.sub_self, List.getElem?_cons_zero] at e
        exact .inr (.inl ⟨rfl, (Option.some.inj e).symm⟩)
      · have e3 : i - ds1.length = (i - (ds1.length + 1)) + 1 := by omega
        rw [e3, List.getElem?_cons_succ] at e
        by_cases h3 : i - (ds1.length + 1) < ds2.length
        · rw [List.getElem?_append_left (by rw [List.length_map]; exact h3), List.getElem?_map] at e
          cases hd : ds2[i - (ds1.length + 1)]? with
          | none => rw [hd] at e; cases e
          | some d => rw [hd] at e; exact .inr (.inr (.inl ⟨d, by omega, rfl, (Option.some.inj e).symm⟩))
        · rw [List.getElem?_append_right (by rw [List.length_map]; omega), List.getElem?_replicate] at e
          split at e
          · exact .inr (.inr (.inr (Option.some.inj e).symm))
          · cases e
  have st : ∀ i, i < (vs1 ++ V.ref a :: vs2).length → (L2.start N (vs1 ++ .ref a :: vs2))[i]? = (vs1 ++ V.ref a :: vs2)[i]?.map some := fun i hi => by
    unfold L2.start
    rw [List.getElem?_append_left (by rw [List.length_map]; exact hi), List.getElem?_map]
  have hM : ∀ b, (M b ∨ b = a) → (M b ∨ b = a) ∨ H b = none := fun b h => .inl h
  refine ⟨fun b => b = a, fun b o e _ => e, fun b e => e, m, fun b h => ⟨by rw [h]; exact hHa, by rw [h]; exact na⟩, fun b h => .inr h, fun b h => by rw [h]; exact hHa, ?_, fun i d e => ?_, fun i a' d e => ?_, fun i j a' d e h1 h2 => ?_, fun p hp => (nomatch hp)⟩
  · unfold L2.start
    simp only [List.length_append, List.length_map, List.length_cons, List.length_replicate]
    omega
  · rcases place i _ e with ⟨d', hd, z⟩ | ⟨_, z⟩ | ⟨d', hi, hd, z⟩ | z
    · cases z
      obtain ⟨v, ev, rv⟩ := Reps.get _ _ r1 i d hd
      have hi : i < vs1.length := (List.getElem?_eq_some_iff.mp ev).1
      exact ⟨v, by rw [st i (by rw [List.length_append]; omega), List.getElem?_append_left hi, ev]; rfl, rv⟩
    · cases z
    · cases z
      obtain ⟨v, ev, rv⟩ := Reps.get _ _ r2 _ d hd
      have hi2 : i - (ds1.length + 1) < vs2.length := (List.getElem?_eq_some_iff.mp ev).1
      refine ⟨v, ?_, rv⟩
      rw [st i (by rw [List.length_append, List.length_cons]; omega), List.getElem?_append_right (by omega), ← hl1]
      have e3 : i - ds1.length = (i - (ds1.length + 1)) + 1 := by omega
      rw [e3, List.getElem?_cons_succ, ev]
      rfl
    · cases z
  · rcases place i _ e with ⟨d', hd, z⟩ | ⟨hi, z⟩ | ⟨d', hi, hd, z⟩ | z
    · cases z
    · cases z
      subst hi
      refine ⟨?_, rfl, ow⟩
      rw [st _ (by rw [List.length_append, List.length_cons]; omega), List.getElem?_append_right (by omega), hl1, Nat.sub_self]
      rfl
    · cases z
    · cases z
  · have u : ∀ i a' d, (ds1.map Sl.dat ++ Sl.own a d0 :: (ds2.map Sl.dat ++ List.replicate (N.length - (ds1.length + 1 + ds2.length)) Sl.no))[i]? = some (.own a' d) → i = ds1.length := fun i a' d e => by
      rcases place i _ e with ⟨d', hd, z⟩ | ⟨hi, z⟩ | ⟨d', hi, hd, z⟩ | z
      · cases z
      · exact hi
      · cases z
      · cases z
    rw [u i _ _ h1, u j _ _ h2]
theorem ow_down {M A' : Addr → Prop} {a : Addr} {d : D} {H' : Hp} (ha : A' a) (o : OwnAt K (fun b => M b ∨ A' b) H' a d) : OwnAt K (fun b => M b ∨ b = a) H' a d := OwnAt.more (fun b z => .inl (z.elim .inl fun e => .inr (by rw [e]; exact ha))) o
/-- own parameter first -/
theorem fn_O {x : Str} {st : Stmt} {N ps : List Str} {k : Nat} {f : FO} (F : Fd K mg x st ps) (Sc : FnScope N ps (defScope st)) (len : ∀ d ds R, f d ds R → ds.length + 1 = ps.length)
    (hbody : ∀ (fa : Addr) (cdv : Value) (A : Around) (outer : List Env) (s : Shared) (H : Hp) (E : XK) (a : Addr) (d0 : D) (ds : List D) (R : D → D → Prop), Room k (A.deeper (envOfC x (defScope st) s.heap.objs.size fa cdv)) → f d0 ds R →
      ∃ t, DSs (cxOf CX0 P w K mg base N x (defScope st) fa cdv A outer s H E).nox (defBody st) t ∧
        t { nx := fun δ => ∃ d1, δ[0]? = some (.own a d1) ∧ R .non d1, rt := fun d δ => ∃ d1, δ[0]? = some (.own a d1) ∧ R d d1 } (Sl.own a d0 :: (ds.map Sl.dat ++ List.replicate (N.length - (1 + ds.length)) Sl.no))) :
    Cal P w K mg base (k + 1) x ps (spO K f) := by
  obtain ⟨fa, fd, Fu, b, mm⟩ := F.ex
  refine ⟨fa, fd, Fu.ok Sc (fun vs H Q E h => ?_) (fun cdv A outer s H vs Q E hr h => ?_), b, Fu.kp, mm⟩
  · obtain ⟨M, a, d0, vs', ds, R, rfl, m, na, ow, rs, hf, hk⟩ := h
    rw [List.length_cons, ← Reps.length _ _ rs]
    exact len _ _ _ hf
  · obtain ⟨M, a, d0, vs', ds, R, rfl, m, na, ow, rs, hf, hk⟩ := h
    obtain ⟨t, ht, hq⟩ := hbody fa cdv A outer s H E a d0 ds R hr hf
    have ss := startO_S (ds1 := []) (vs1 := []) N m na ow Reps.nil rs
    rw [show ([] : List D).length + 1 + ds.length = 1 + ds.length by simp] at ss
    refine ⟨_, ht, _, _, [], _, ss, hq, fun δ' ⟨d1, e, r⟩ σ' H' ⟨A', x⟩ => ?_, ⟨fun d δ' ⟨d1, e, r⟩ v σ' H' ⟨A', x⟩ => ?_, fun _ h => h.elim⟩, fun _ h => h.elim, fun _ h => h.elim⟩
    · obtain ⟨_, aa, oo⟩ := x.own 0 a d1 e
      exact hk _ _ r .non H' (fun b o n e => x.old b o e n) (ow_down aa oo) (by unfold Rep; rfl)
    · obtain ⟨_, aa, oo⟩ := x.own 0 a d1 e
      exact hk _ _ r v H' (fun b o n e => x.old b o e n) (ow_down aa oo) (Rep.more (fun b z => .inl (z.elim .inl fun e => .inr (by rw [e]; exact aa))) _ _ (x.pnd (d, v) (by simp)))
/-- own parameter second, of two -/
theorem fn_O1 {x : Str} {st : Stmt} {N ps : List Str} {k : Nat} {f : FO} (F : Fd K mg x st ps) (Sc : FnScope N ps (defScope st)) (hp : ps.length = 2) (len : ∀ d ds R, f d ds R → ds.length = 1)
    (hbody : ∀ (fa : Addr) (cdv : Value) (A : Around) (outer : List Env) (s : Shared) (H : Hp) (E : XK) (a : Addr) (d0 d : D) (R : D → D → Prop), Room k (A.deeper (envOfC x (defScope st) s.heap.objs.size fa cdv)) → f d0 [d] R →
      ∃ t, DSs (cxOf CX0 P w K mg base N x (defScope st) fa cdv A outer s H E).nox (defBody st) t ∧
        t { nx := fun δ => ∃ d1, δ[1]? = some (.own a d1) ∧ R .non d1, rt := fun d δ => ∃ d1, δ[1]? = some (.own a d1) ∧ R d d1 } (Sl.dat d :: Sl.own a d0 :: List.replicate (N.length - 2) Sl.no)) :
    Cal P w K mg base (k + 1) x ps (spO1 K f) := by
  obtain ⟨fa, fd, Fu, b, mm⟩ := F.ex
  refine ⟨fa, fd, Fu.ok Sc (fun vs H Q E h => ?_) (fun cdv A outer s H vs Q E hr h => ?_), b, Fu.kp, mm⟩
  · obtain ⟨v0, v1, rfl, _⟩ := h
    exact hp.symm
  · obtain ⟨v0, v1, rfl, M, a, d0, vs', ds, R, e, m, na, ow, rs, hf, hk⟩ := h
    cases e
    have hl := len _ _ _ hf
    match ds, hl with
    | [d], _ =>
      obtain ⟨t, ht, hq⟩ := hbody fa cdv A outer s H E a d0 d R hr hf
      have ss := startO_S (ds2 := []) (vs2 := []) N m na ow rs Reps.nil
      refine ⟨_, ht, _, _, [], _, ss, hq, fun δ' ⟨d1, e, r⟩ σ' H' ⟨A', x⟩ => ?_, ⟨fun d δ' ⟨d1, e, r⟩ v σ' H' ⟨A', x⟩ => ?_, fun _ h => h.elim⟩, fun _ h => h.elim, fun _ h => h.elim⟩
      · obtain ⟨_, aa, oo⟩ := x.own 1 a d1 e
        exact hk _ _ r .non H' (fun b o n e => x.old b o e n) (ow_down aa oo) (by unfold Rep; rfl)
      · obtain ⟨_, aa, oo⟩ := x.own 1 a d1 e
        exact hk _ _ r v H' (fun b o n e => x.old b o e n) (ow_down aa oo) (Rep.more (fun b z => .inl (z.elim .inl fun e => .inr (by rw [e]; exact aa))) _ _ (x.pnd (d, v) (by simp)))
end

/-! ### statements and expressions over own things -/
def dSetN (i : Nat) (f : List D → (D → Prop) → Prop) (t : TDA) : TDS := fun R δ => t δ fun ds δ1 => f ds fun d => ∀ a, R.nx (δ1.set i (.own a d))
def dNewL (i : Nat) (t : TDA) : TDS := fun R δ => t δ fun ds δ1 => ds.length ≤ 1000 ∧ ∀ a, R.nx (δ1.set i (.own a (.lst ds)))
def dNewD (i : Nat) : TDS := fun R δ => ∀ a, R.nx (δ.set i (.own a (.dct [] [])))
def dRetO (i : Nat) : TDS := fun R δ => ∃ a d, δ[i]? = some (.own a d) ∧ R.ro d
def dRetL (t : TDA) : TDS := fun R δ => t δ fun ds _ => ds.length ≤ 1000 ∧ R.ro (.lst ds)
def dCallO (i : Nat) (f : FO) (t : TDA) : TDE := fun δ R => ∃ a d, δ[i]? = some (.own a d) ∧ t δ fun ds δ1 => ∃ d0, δ1[i]? = some (.own a d0) ∧ f d0 ds fun r d1 => R (.d r) (δ1.set i (.own a d1))
def dLenO (i : Nat) : TDE := fun δ R => ∃ a ds, δ[i]? = some (.own a (.lst ds)) ∧ R (.d (.int ds.length)) δ
def dTupleO (i : Nat) : TDE := fun δ R => ∃ a ds, δ[i]? = some (.own a (.lst ds)) ∧ R (.d (.tup ds)) δ
def dFreeze (i : Nat) (t : TDS) : TDS := fun R δ => ∃ a d, δ[i]? = some (.own a d) ∧ t R (δ.set i (.dat d))

section
variable {X : Cx} {pos : Pos} {a b e : Expr} {es : List Expr} {ta tb : TDE} {t : TDA} {f : List D → (D → Prop) → Prop}
theorem S.ret {K : PySem.W.Frag} {G : Gf} {δ : En} {P : List (D × V)} {σ : L2.St} {H : Hp} {i : Nat} {a : Addr} {d : D} (s : S K G δ P σ H) (e : δ[i]? = some (.own a d)) : OwnRet K G H a d := by
  obtain ⟨A, x⟩ := s
  obtain ⟨_, aa, oo⟩ := x.own i a d e
  exact ⟨x.old, x.new a aa, fun z => (x.new a aa).elim (fun q => x.m0 a z q) fun q => (x.pm a q).2 z, ow_down aa oo⟩
theorem ds_retL {p : Pos} (h : DA X es t) : DS X (.Return (some (.List es p)) pos) (dRetL t) :=
  PS.imp (ps_ret (pe_lst h)) fun E σ H ⟨G, δ, P, R, s, h, _, k, _⟩ => ⟨G, δ, P, _, s, h, fun ds δ1 ⟨hz, r⟩ vs H1 hl ⟨A, x⟩ => ⟨by rw [← hl]; exact small hz, fun p hp => k.2 _ r p _ (by
    have rs := x.reps ds vs hl (fun q hq => List.mem_append_left _ hq)
    have sm := same_new hp (.lst vs)
    have nm : ¬ (G.M0 p ∨ A p) := fun z => x.mem p z hp
    refine ⟨fun b o e n => sm b o (x.old b o e n), .inl ?_, fun z => nm (.inl z), vs, upd_same, Reps.kp (Kp.of_same sm) _ _ (Reps.more (fun b z => ?_) _ _ rs)⟩
    · cases q : G.H0 p with
      | none => rfl
      | some o => exact absurd hp (x.stay p (by rw [q]; exact fun z => nomatch z))
    · rcases z with z | z
      · exact .inl (.inl z)
      · exact .inr (by rw [z]; exact hp))⟩⟩
theorem ds_newL (i : Nat) {x : Str} {p pos' : Pos} (hN : X.N.Nodup) (h : DA X es t) (hi : X.N[i]? = some x := by rfl) (hx : Loc X.env.scope x := by first | exact Or.inl rfl | exact Or.inr rfl) (hs : swapsWith (.List es p) (some (.Name x pos')) pos.line X.env = pure false := by rfl)
    (hf : X.fn x = true ∨ X.env.scope.names.lookup x = some .local := by first | exact .inl rfl | exact .inr rfl | assumption) : DS X (.Assign [.Name x pos'] (.List es p) pos) (dNewL i t) :=
  PS.imp (ps_set hN hi hx (pe_lst h) hs hf) fun E σ H ⟨G, δ, P, R, s, h, k, _⟩ => ⟨G, δ, P, _, s, h, fun ds δ1 ⟨hz, r⟩ vs H1 hl ⟨A, x⟩ => ⟨by rw [← hl]; exact small hz, fun p hp => by
    have rs := x.reps ds vs hl (fun q hq => List.mem_append_left _ hq)
    have sm := same_new hp (.lst vs)
    refine k _ (r p) _ _ ⟨_, x.claim (P' := P) hp sm ⟨vs, upd_same, Reps.kp (Kp.of_same sm) _ _ (Reps.more (fun b z => ?_) _ _ rs)⟩ fun q hq => List.mem_append_right _ hq⟩
    rcases z with z | z
    · exact .inl z
    · exact .inr (by rw [z]; exact hp)⟩⟩
theorem ds_newD (i : Nat) {x : Str} {p pos' : Pos} (hN : X.N.Nodup) (hi : X.N[i]? = some x := by rfl) (hx : Loc X.env.scope x := by first | exact Or.inl rfl | exact Or.inr rfl) (hs : swapsWith (.Dict [] [] p) (some (.Name x pos')) pos.line X.env = pure false := by rfl)
    (hf : X.fn x = true ∨ X.env.scope.names.lookup x = some .local := by first | exact .inl rfl | exact .inr rfl | assumption) : DS X (.Assign [.Name x pos'] (.Dict [] [] p) pos) (dNewD i) :=
  PS.imp (ps_set hN hi hx pe_dnewK hs hf) fun E σ H ⟨G, δ, P, R, ⟨A, x⟩, h, k, _⟩ => fun p hp => by
    have sm := same_new hp (.dK [])
    exact k _ (h p) _ _ ⟨_, x.claim (P' := P) hp sm ⟨[], by rw [upd_same]; rfl, rfl, Reps.nil⟩ fun q hq => hq⟩
theorem ds_setN (i : Nat) {x y : Str} {k : Nat} {ps : List Str} {p pos' pos2 : Pos} (hN : X.N.Nodup) (C : Cal X.prog X.w X.K X.mg X.base k x ps (spN X.K f)) (hr : Room k X.A) (hg : Gl X x) (ha : DA X (a :: es) t) (hi : X.N[i]? = some y := by rfl) (hx : Loc X.env.scope y := by first | exact Or.inl rfl | exact Or.inr rfl)
    (hdb : (x == ("__debug__" : Str)) = false := by decide) (he : starEach (a :: es) X.env = (false, eval a X.env) :: starEach es X.env := by rfl) (hpl : (backTo pos2 (starEach es X.env)).any (·.1) = false := by rfl)
    (hs : swapsWith (.Call (.Name x p) (a :: es) [] pos2) (some (.Name y pos')) pos.line X.env = pure false := by rfl) (hf : X.fn y = true ∨ X.env.scope.names.lookup y = some .local := by first | exact .inl rfl | exact .inr rfl | assumption) :
    DS X (.Assign [.Name y pos'] (.Call (.Name x p) (a :: es) [] pos2) pos) (dSetN i f t) := by
  obtain ⟨g, fd, F, b, kp, m⟩ := C.ex
  refine PS.imp (ps_set hN hi hx (pe_call F hr hg m kp b .nil pass0 ha hdb he hpl) hs hf) fun E σ H ⟨G, δ, P, R, s, h, k, _⟩ => ⟨G, δ, P, _, s, h, fun ds δ1 h1 vs H1 hl ⟨A, x⟩ => ?_⟩
  show spN X.K f (vs ++ []) H1 _ _
  rw [List.append_nil]
  exact ⟨_, ds, _, x.mem, x.reps ds vs hl (fun q hq => List.mem_append_left _ hq), h1, fun d r a H' sm fr ow => k _ (r a) _ _ ⟨_, x.claim (P' := P) fr sm ow fun q hq => List.mem_append_right _ hq⟩⟩
/-- the own thing's place for a callee -/
theorem own_arg {K : PySem.W.Frag} {G : Gf} {A : Addr → Prop} {δ : En} {P P' : List (D × V)} {σ : L2.St} {H : Hp} {i : Nat} {a : Addr} {d0 : D} {ds : List D} {vs : List V} {f : FO} {R : D → D → Prop} {Q : VK} {E : XK} (x : Sx K G A δ P σ H) (hi : δ[i]? = some (.own a d0)) (hl : ds.length = vs.length) (hp : ∀ p ∈ ds.zip vs, p ∈ P)
    (hP : ∀ p ∈ P', p ∈ P) (hf : f d0 ds R) (k : ∀ r d1, R r d1 → ∀ v H', S K G (δ.set i (.own a d1)) ((r, v) :: P') σ H' → Q v H') : spO K f (.ref a :: vs) H Q E := by
  obtain ⟨_, aa, oo⟩ := x.own i a d0 hi
  have e1 : ∀ b, (((G.M0 b ∨ A b) ∧ b ≠ a) ∨ b = a) → (G.M0 b ∨ A b) := fun b h => h.elim (fun z => z.1) fun z => .inr (by rw [z]; exact aa)
  have e2 : ∀ b, (G.M0 b ∨ A b) → (((G.M0 b ∨ A b) ∧ b ≠ a) ∨ b = a) := fun b h => by
    by_cases z : b = a
    · exact .inr z
    · exact .inl ⟨h, z⟩
  refine ⟨fun b => (G.M0 b ∨ A b) ∧ b ≠ a, a, d0, vs, ds, R, rfl, fun b z => x.mem b z.1, fun z => z.2 rfl, OwnAt.more (fun b z => .inl (e1 b z)) oo, Reps.more (fun b z => .inl (e1 b z)) _ _ (x.reps ds vs hl hp), hf, fun r d1 hr v H' hk ow rp => k r d1 hr v H' ⟨A, ?_⟩⟩
  exact ((x.change hi hk (OwnAt.more (fun b z => .inl (e2 b z)) ow)).sub hP).push (Rep.more (fun b z => .inl (e2 b z)) _ _ rp)
theorem de_callO (i : Nat) {f : FO} {x y : Str} {k : Nat} {ps : List Str} {p p2 pos : Pos} (C : Cal X.prog X.w X.K X.mg X.base k x ps (spO X.K f)) (hr : Room k X.A) (hg : Gl X x) (ha : DA X es t) (hN : X.N[i]? = some y := by rfl)
    (hv : Vis X.env.scope y := by first | exact Or.inl rfl | exact Or.inr (Or.inl rfl) | exact Or.inr (Or.inr rfl)) (hd : (y == ("__debug__" : Str)) = false := by decide) (hcd : (y == ("__classdict__" : Str)) = false := by decide) (hdb : (x == ("__debug__" : Str)) = false := by decide)
    (he : starEach (.Name y p2 :: es) X.env = (false, eval (.Name y p2) X.env) :: starEach es X.env := by rfl) (hpl : (backTo pos (starEach es X.env)).any (·.1) = false := by rfl) :
    DE X (.Call (.Name x p) (.Name y p2 :: es) [] pos) (dCallO i f t) := by
  obtain ⟨g, fd, F, b, kp, m⟩ := C.ex
  refine PE.imp (pe_call F hr hg m kp b .nil pass0 (pa_cons (pe_var hN hv hd hcd) ha he) hdb he hpl) fun σ H Q ⟨G, δ, P, R, s, ⟨a, d, e, h⟩, k, _⟩ => ⟨.ref a, s.own e, G, δ, P, _, s, h, fun ds δ1 ⟨d0, hi, hf⟩ vs H1 hl ⟨A, x⟩ => ?_⟩
  show spO X.K f ((V.ref a :: vs) ++ []) H1 Q _
  rw [List.append_nil]
  exact own_arg x hi hl (fun q hq => List.mem_append_left _ hq) (P' := P) (fun q hq => List.mem_append_right _ hq) hf fun r d1 hr v H' s' => k r _ hr v H' s'
/-- the own thing in the second place of two -/
theorem de_callO1 (i : Nat) {f : FO} {x y : Str} {k : Nat} {ps : List Str} {p p2 pos : Pos} (C : Cal X.prog X.w X.K X.mg X.base k x ps (spO1 X.K f)) (hr : Room k X.A) (hg : Gl X x) (ha : DE X a ta) (hN : X.N[i]? = some y := by rfl)
    (hv : Vis X.env.scope y := by first | exact Or.inl rfl | exact Or.inr (Or.inl rfl) | exact Or.inr (Or.inr rfl)) (hd : (y == ("__debug__" : Str)) = false := by decide) (hcd : (y == ("__classdict__" : Str)) = false := by decide) (hdb : (x == ("__debug__" : Str)) = false := by decide)
    (he : starEach [a, .Name y p2] X.env = (false, eval a X.env) :: starEach [.Name y p2] X.env := by rfl) (he2 : starEach [.Name y p2] X.env = (false, eval (.Name y p2) X.env) :: starEach [] X.env := by rfl) (hpl : (backTo pos (starEach [.Name y p2] X.env)).any (·.1) = false := by rfl) :
    DE X (.Call (.Name x p) [a, .Name y p2] [] pos) (fun δ R => ta δ (wd fun z δ1 => ∃ a d0, δ1[i]? = some (.own a d0) ∧ f d0 [z] fun r d1 => R (.d r) (δ1.set i (.own a d1)))) := by
  obtain ⟨g, fd, F, b, kp, m⟩ := C.ex
  refine PE.imp (pe_call F hr hg m kp b .nil pass0 (pa_cons ha (pa_cons (pe_var hN hv hd hcd) pa_nil he2) he) hdb he hpl) fun σ H Q ⟨G, δ, P, R, s, h, k, _⟩ => up.mk s h fun z δ1 ⟨a, d0, hi, hf⟩ v H1 s1 => ⟨.ref a, s1.own hi, ?_⟩
  show spO1 X.K f [v, .ref a] H1 Q _
  obtain ⟨A, x⟩ := s1
  exact ⟨v, .ref a, rfl, own_arg (ds := [z]) x hi rfl (by simp) (P' := P) (fun q hq => List.mem_cons_of_mem _ hq) hf fun r d1 hr v H' s' => k r _ hr v H' s'⟩
theorem own_lst {K : PySem.W.Frag} {G : Gf} {A : Addr → Prop} {δ : En} {P : List (D × V)} {σ : L2.St} {H : Hp} {i : Nat} {a : Addr} {ds : List D} (x : Sx K G A δ P σ H) (hi : δ[i]? = some (.own a (.lst ds))) : σ[i]? = some (some (.ref a)) ∧ A a ∧ ∃ vs, H a = some (.lst vs) ∧ Reps K (fun b => G.M0 b ∨ A b) H ds vs := by
  obtain ⟨h1, h2, vs, h3, h4⟩ := x.own i a _ hi
  exact ⟨h1, h2, vs, h3, h4⟩
theorem de_ixO (i : Nat) {y : Str} {p pos : Pos} (hb : DE X b tb) (hs : PlainIx b) (hN : X.N[i]? = some y := by rfl) (hv : Vis X.env.scope y := by first | exact Or.inl rfl | exact Or.inr (Or.inl rfl) | exact Or.inr (Or.inr rfl))
    (hd : (y == ("__debug__" : Str)) = false := by decide) (hcd : (y == ("__classdict__" : Str)) = false := by decide) : DE X (.Subscript (.Name y p) b pos) (fun δ R => ∃ a ds, δ[i]? = some (.own a (.lst ds)) ∧ tb δ (wd fun z δ1 => ∃ ds k v, δ1[i]? = some (.own a (.lst ds)) ∧ z = .int k ∧ atI ds k = some v ∧ R (.d v) δ1)) :=
  PE.imp (pe_ix ix_list (pe_var hN hv hd hcd) hb hs) fun σ H Q ⟨G, δ, P, R, s, ⟨a, ds0, e, h⟩, k, _⟩ => ⟨.ref a, s.own e, up.mk s h fun z δ1 ⟨ds, j, w, hi, ez, ew, r⟩ v H1 s1 => by
    subst ez
    obtain ⟨A, x⟩ := id s1
    obtain ⟨_, aa, vs, hvs, rs⟩ := own_lst x hi
    obtain ⟨n, h1, h2⟩ := atI_len (Reps.length _ _ rs) ew
    obtain ⟨u, hu, ru⟩ := Reps.get _ _ rs n w h1
    exact ⟨a, vs, j, u, rfl, rep_int (x.pnd (.int j, v) (by simp)), SqL.of hvs, h2 u hu, k w δ1 r u H1 ⟨A, (x.sub (P' := P) fun q hq => List.mem_cons_of_mem _ hq).push ru⟩⟩⟩
theorem de_tupleO (i : Nat) {y : Str} {p p2 pos : Pos} (hg : Gl X "tuple") (hm : X.mg "tuple" = none) (hv' : bootBuiltins "tuple" = some (.type "tuple")) (hN : X.N[i]? = some y := by rfl) (hv : Vis X.env.scope y := by first | exact Or.inl rfl | exact Or.inr (Or.inl rfl) | exact Or.inr (Or.inr rfl))
    (hd : (y == ("__debug__" : Str)) = false := by decide) (hcd : (y == ("__classdict__" : Str)) = false := by decide) (he : starEach [.Name y p2] X.env = (false, eval (.Name y p2) X.env) :: starEach [] X.env := by rfl) (hpl : (backTo pos (starEach [] X.env)).any (·.1) = false := by rfl) :
    DE X (.Call (.Name "tuple" p) [.Name y p2] [] pos) (dTupleO i) :=
  PE.imp (pe_callTy call_tuple_of hg hm hv' (pa_cons (pe_var hN hv hd hcd) pa_nil he) (by decide) (by decide) he hpl) fun σ H Q ⟨G, δ, P, R, s, ⟨a, ds, e, h⟩, k, _⟩ => by
    obtain ⟨A, x⟩ := id s
    obtain ⟨h1, aa, vs, hvs, rs⟩ := own_lst x e
    refine ⟨.ref a, h1, a, vs, rfl, .inl ⟨SqL.of hvs, fun l hl => k _ δ h _ _ ⟨A, (x.same (same_new hl _)).push ?_⟩⟩⟩
    unfold Rep
    exact ⟨l, vs, rfl, SqT.of upd_same, Reps.kp (Kp.of_same (same_new hl _)) _ _ rs⟩
theorem ds_putO (i : Nat) {y : Str} {p pos' : Pos} (he : DE X e ta) (hb : DE X b tb) (hN : X.N[i]? = some y := by rfl) (hv : Vis X.env.scope y := by first | exact Or.inl rfl | exact Or.inr (Or.inl rfl) | exact Or.inr (Or.inr rfl))
    (hd : (y == ("__debug__" : Str)) = false := by decide) (hcd : (y == ("__classdict__" : Str)) = false := by decide) (hs : swapsWithSole [.Subscript (.Name y p) b pos'] e pos.line X.env = pure false := by rfl) (hw : swappedStores [.Subscript (.Name y p) b pos'] e X.env = pure none := by rfl)
    (h1 : (assignEach [.Subscript (.Name y p) b pos'] X.env).map (·.2) = [assign (.Subscript (.Name y p) b pos') X.env] := by rfl)
    (ha : ∀ v, assign (.Subscript (.Name y p) b pos') X.env v = (do
      let ov ← holding [v] (eval (.Name y p) X.env)
      let iv ← holding [v, ov] (eval b X.env)
      standAt pos'
      holding [v, ov, iv] (setItem ov iv v)
      release [v, ov, iv] []) := by intro _; rfl) :
    DS X (.Assign [.Subscript (.Name y p) b pos'] e pos) (fun R δ => ta δ (wd fun x δ1 => ∃ a ds, δ1[i]? = some (.own a (.lst ds)) ∧ tb δ1 (wd fun z δ2 => ∃ ds k j, δ2[i]? = some (.own a (.lst ds)) ∧ z = .int k ∧ ixN ds.length k = some j ∧ R.nx (δ2.set i (.own a (.lst (ds.set j x))))))) :=
  PS.imp (ps_asg he (pg_sub (pe_var hN hv hd hcd) hb set_list ha) hs hw h1) fun E σ H ⟨G, δ, P, R, s, h, k, _⟩ => up.mk s h fun x δ1 ⟨a, ds0, hi0, h1⟩ v H1 s1 => ⟨.ref a, s1.own hi0, up.mk s1 h1 fun z δ2 ⟨ds, n, j, hi, ez, hj, r⟩ u H2 ⟨A, q⟩ => by
    subst ez
    obtain ⟨_, aa, vs, hvs, rs⟩ := own_lst q hi
    refine ⟨a, vs, n, j, rfl, rep_int (q.pnd (.int n, u) (by simp)), hvs, by rw [← Reps.length _ _ rs]; exact hj, k _ r _ _ ⟨A, (q.change (d' := .lst (ds.set j x)) hi (fun b o n e => by rw [upd_ne n]; exact e) ⟨vs.set j v, upd_same, ?_⟩).sub (P' := P) fun q hq => List.mem_cons_of_mem _ (List.mem_cons_of_mem _ hq)⟩⟩
    have kp : Kp (fun b => G.M0 b ∨ A b) H2 (upd H2 a (.lst (vs.set j v))) := by
      have hk : ∀ b o, b ≠ a → H2 b = some o → upd H2 a (.lst (vs.set j v)) b = some o := fun b o n e => by rw [upd_ne n]; exact e
      exact ⟨fun b o e n => hk b o (fun z => n (.inr (by rw [z]; exact aa))) e, fun b xs e => hk b _ (fun z => by rw [z, hvs] at e; cases e) e, fun b o u e => hk b _ (fun z => by rw [z, hvs] at e; cases e) e⟩
    exact Reps.kp kp _ _ (Reps.set (q.pnd (x, v) (by simp)) j _ _ rs)⟩
theorem ds_appendO (i : Nat) {y : Str} {p apos cpos : Pos} (he : DE X e ta) (hN : X.N[i]? = some y := by rfl) (hv : Vis X.env.scope y := by first | exact Or.inl rfl | exact Or.inr (Or.inl rfl) | exact Or.inr (Or.inr rfl))
    (hd : (y == ("__debug__" : Str)) = false := by decide) (hcd : (y == ("__classdict__" : Str)) = false := by decide)
    (hbase : attributeBase (.Name y p) "append" X.env (eval (.Name y p) X.env) = eval (.Name y p) X.env := by rfl)
    (hfew : ((backTo cpos (starEach [e] X.env)).all (fun x => !x.1) && (backToKw cpos (keywordEach [] X.env)).all (fun x => x.1.isSome) && decide ([e].length + ([] : List Keyword).length + (if ([] : List Keyword).isEmpty then 0 else 1) < 30)) = true := by rfl)
    (hline : (apos.endLine == cpos.line) = true := by rfl) (hs : starEach [e] X.env = (false, eval e X.env) :: starEach [] X.env := by rfl) (hplain : (backTo cpos (starEach [] X.env)).any (·.1) = false := by rfl)
    (hsw : swapsWith (.Call (.Attribute (.Name y p) "append" apos) [e] [] cpos) none pos.line X.env = pure false := by rfl) :
    DS X (.Expr (.Call (.Attribute (.Name y p) "append" apos) [e] [] cpos) pos) (fun R δ => ∃ a ds, δ[i]? = some (.own a (.lst ds)) ∧ ta δ (wd fun x δ1 => ∃ ds, δ1[i]? = some (.own a (.lst ds)) ∧ ds.length < 1000 ∧ R.nx (δ1.set i (.own a (.lst (ds ++ [x])))))) :=
  PS.imp (ps_expr (pe_bm PySem.F.plainAttrs_list PySem.F.slot_list_append PySem.F.type_list_append mt_append (pe_var hN hv hd hcd) (pa_cons he pa_nil hs) hbase hfew hline hs hplain) hsw) fun E σ H ⟨G, δ, P, R, s, ⟨a, ds0, hi0, h⟩, k, _⟩ => by
    obtain ⟨A0, x0⟩ := id s
    obtain ⟨h0, _, vs0, hvs0, _⟩ := own_lst x0 hi0
    refine ⟨.ref a, h0, .inl ⟨rfl, vs0, SqL.of hvs0⟩, up.mk s h fun x δ1 ⟨ds, hi, hz, r⟩ v H1 ⟨A, q⟩ => ?_⟩
    obtain ⟨_, aa, vs, hvs, rs⟩ := own_lst q hi
    refine ⟨a, vs, v, rfl, rfl, hvs, by rw [← Reps.length _ _ rs]; exact small1000 (Nat.le_of_lt hz), k _ r _ _ ⟨A, (q.change (d' := .lst (ds ++ [x])) hi (fun b o n e => by rw [upd_ne n]; exact e) ⟨vs ++ [v], upd_same, ?_⟩).sub (P' := P) fun q hq => List.mem_cons_of_mem _ hq⟩⟩
    have kp : Kp (fun b => G.M0 b ∨ A b) H1 (upd H1 a (.lst (vs ++ [v]))) := by
      have hk : ∀ b o, b ≠ a → H1 b = some o → upd H1 a (.lst (vs ++ [v])) b = some o := fun b o n e => by rw [upd_ne n]; exact e
      exact ⟨fun b o e n => hk b o (fun z => n (.inr (by rw [z]; exact aa))) e, fun b xs e => hk b _ (fun z => by rw [z, hvs] at e; cases e) e, fun b o u e => hk b _ (fun z => by rw [z, hvs] at e; cases e) e⟩
    exact Reps.kp kp _ _ (Reps.append _ _ _ _ rs (Reps.one (q.pnd (x, v) (by simp))))
theorem dss_freeze (i : Nat) {st : List Stmt} {u : TDS} (h : DSs X st u) : DSs X st (dFreeze i u) :=
  PSs.imp h fun E σ H ⟨G, δ, P, R, ⟨A, x⟩, ⟨a, d, e, h⟩, k⟩ => ⟨G, _, P, R, ⟨_, x.freeze e fun z => (x.new a (x.own i a d e).2.1).elim (fun q => x.m0 a z q) fun q => (x.pm a q).2 z⟩, h, k⟩
end
end DL

namespace DL
open PySem PySem.Spec PyProof.Rows L2
/-! ### dicts with texts as keys -/
def dAt {α : Type} : List Str → List α → Str → Option α
  | k :: ks, d :: ds, x => if k = x then some d else dAt ks ds x
  | _, _, _ => none
def vRep {α : Type} : List Str → List α → Str → α → List α
  | k :: ks, d :: ds, x, y => (if k = x then y else d) :: vRep ks ds x y
  | _, ds, _, _ => ds
def kPut (ks : List Str) (x : Str) : List Str := if x ∈ ks then ks else ks ++ [x]
def vPut {α : Type} (ks : List Str) (ds : List α) (x : Str) (y : α) : List α := if x ∈ ks then vRep ks ds x y else ds ++ [y]
theorem vRep_len {α : Type} : ∀ (ks : List Str) (ds : List α) (x : Str) (y : α), (vRep ks ds x y).length = ds.length
  | [], ds, _, _ => by cases ds <;> rfl
  | k :: ks, [], _, _ => rfl
  | k :: ks, d :: ds, x, y => by unfold vRep; rw [List.length_cons, List.length_cons, vRep_len ks ds x y]
theorem put_len {α : Type} {ks : List Str} {ds : List α} {x : Str} {y : α} (h : ks.length = ds.length) : (kPut ks x).length = (vPut ks ds x y).length := by
  unfold kPut vPut
  by_cases e : x ∈ ks
  · rw [if_pos e, if_pos e, vRep_len]; exact h
  · rw [if_neg e, if_neg e, List.length_append, List.length_append, h]; rfl
theorem any_keys {ks : List Str} {vs : List V} (x : Str) (h : ks.length = vs.length) : ((kvsOf ks vs).any fun kv => decide (kv.1 = Sum.inr x)) = decide (x ∈ ks) := by
  induction ks generalizing vs with
  | nil => rfl
  | cons k ks ih =>
    cases vs with
    | nil => cases h
    | cons v vs =>
      show ((Sum.inr k, v) :: kvsOf ks vs).any _ = _
      rw [List.any_cons, ih (Nat.succ.inj h)]
      by_cases e : k = x
      · subst e; simp
      · have e2 : ¬ x = k := fun z => e z.symm
        simp [e, e2]
theorem map_keys {ks : List Str} {vs : List V} (x : Str) (y : V) : (kvsOf ks vs).map (fun kv => if kv.1 = Sum.inr x then (kv.1, y) else kv) = kvsOf ks (vRep ks vs x y) := by
  induction ks generalizing vs with
  | nil => rfl
  | cons k ks ih =>
    cases vs with
    | nil => rfl
    | cons v vs =>
      show ((Sum.inr k, v) :: kvsOf ks vs).map _ = (Sum.inr k, if k = x then y else v) :: kvsOf ks (vRep ks vs x y)
      rw [List.map_cons, ih]
      by_cases e : k = x
      · subst e; simp
      · have : ¬ (Sum.inr k : Key) = Sum.inr x := fun z => e (Sum.inr.inj z)
        simp [e]
theorem kvs_put {ks : List Str} {vs : List V} (x : Str) (y : V) (h : ks.length = vs.length) : putK (kvsOf ks vs) (Sum.inr x) y = kvsOf (kPut ks x) (vPut ks vs x y) := by
  unfold putK
  rw [any_keys x h]
  unfold kPut vPut
  by_cases e : x ∈ ks
  · rw [decide_eq_true e, if_pos rfl, if_pos e, if_pos e, map_keys]
  · rw [decide_eq_false e, if_neg Bool.false_ne_true, if_neg e, if_neg e]
    unfold kvsOf
    rw [List.map_append, List.zip_append (by rw [List.length_map]; exact h)]
    rfl
section
variable {K : PySem.W.Frag} {M : Addr → Prop} {H : Hp}
theorem Reps.rep {d : D} {v : V} (r : Rep K M H d v) (x : Str) : ∀ (ks : List Str) (ds : List D) (vs : List V), Reps K M H ds vs → Reps K M H (vRep ks ds x d) (vRep ks vs x v)
  | [], ds, vs, h => by
    have e1 : vRep [] ds x d = ds := by cases ds <;> rfl
    have e2 : vRep [] vs x v = vs := by cases vs <;> rfl
    rw [e1, e2]; exact h
  | k :: ks, [], vs, h => by unfold Reps at h; subst h; exact Reps.nil
  | k :: ks, e :: ds, vs, h => by
    unfold Reps at h
    obtain ⟨w, rs, rfl, q, s⟩ := h
    show Reps K M H ((if k = x then d else e) :: vRep ks ds x d) ((if k = x then v else w) :: vRep ks rs x v)
    refine Reps.cons ?_ (Reps.rep r x ks ds rs s)
    by_cases z : k = x
    · rw [if_pos z, if_pos z]; exact r
    · rw [if_neg z, if_neg z]; exact q
theorem Reps.put {ks : List Str} {ds : List D} {vs : List V} {d : D} {v : V} (x : Str) (h : Reps K M H ds vs) (r : Rep K M H d v) : Reps K M H (vPut ks ds x d) (vPut ks vs x v) := by
  unfold vPut
  by_cases e : x ∈ ks
  · rw [if_pos e, if_pos e]; exact Reps.rep r x ks ds vs h
  · rw [if_neg e, if_neg e]; exact Reps.append _ _ _ _ h (Reps.one r)
theorem Reps.dAt (x : Str) : ∀ (ks : List Str) (ds : List D) (vs : List V), Reps K M H ds vs → (∀ d, DL.dAt ks ds x = some d → ∃ v, DL.dAt ks vs x = some v ∧ Rep K M H d v) ∧ (DL.dAt ks ds x = none → DL.dAt ks vs x = none)
  | [], ds, vs, h => ⟨fun d e => (nomatch e), fun _ => rfl⟩
  | k :: ks, [], vs, h => by unfold Reps at h; subst h; exact ⟨fun d e => (nomatch e), fun _ => rfl⟩
  | k :: ks, e :: ds, vs, h => by
    unfold Reps at h
    obtain ⟨w, rs, rfl, q, s⟩ := h
    obtain ⟨h1, h2⟩ := Reps.dAt x ks ds rs s
    show (∀ d, (if k = x then some e else DL.dAt ks ds x) = some d → ∃ v, (if k = x then some w else DL.dAt ks rs x) = some v ∧ _) ∧ ((if k = x then some e else DL.dAt ks ds x) = none → (if k = x then some w else DL.dAt ks rs x) = none)
    by_cases z : k = x
    · simp only [if_pos z]
      exact ⟨fun d e => by cases e; exact ⟨w, rfl, q⟩, fun e => (nomatch e)⟩
    · simp only [if_neg z]
      exact ⟨h1, h2⟩
end
def fDget : List D → (D → Prop) → Prop
  | [.dct ks ds, .str x], R => ∃ d, dAt ks ds x = some d ∧ R d
  | _, _ => False
theorem fDget_eq {ks : List Str} {ds : List D} {x : Str} {R : D → Prop} : fDget [.dct ks ds, .str x] R ↔ ∃ d, dAt ks ds x = some d ∧ R d := Iff.rfl
/-- x in d, x in xs -/
def fIn (g : Bool → Bool) : List D → (D → Prop) → Prop
  | [.str x, .dct ks _], R => R (.bl (g (decide (x ∈ ks))))
  | [.str x, .lst ds], R => ∃ ss : List Str, ds = ss.map D.str ∧ R (.bl (g (decide (x ∈ ss))))
  | _, _ => False
theorem fIn_dct {g : Bool → Bool} {ks : List Str} {ds : List D} {x : Str} {R : D → Prop} : fIn g [.str x, .dct ks ds] R ↔ R (.bl (g (decide (x ∈ ks)))) := Iff.rfl
theorem fIn_lst {g : Bool → Bool} {ds : List D} {x : Str} {R : D → Prop} : fIn g [.str x, .lst ds] R ↔ ∃ ss : List Str, ds = ss.map D.str ∧ R (.bl (g (decide (x ∈ ss)))) := Iff.rfl
theorem reps_strs {K : PySem.W.Frag} {M : Addr → Prop} {H : Hp} : ∀ {ss : List Str} {vs : List V}, Reps K M H (ss.map D.str) vs → vs = ss.map V.str
  | [], vs, h => by unfold Reps at h; exact h
  | s :: ss, vs, h => by
    rw [List.map_cons] at h
    unfold Reps at h
    obtain ⟨v, r, rfl, q, t⟩ := h
    rw [rep_str q, reps_strs t]; rfl
theorem reps_of_strs {K : PySem.W.Frag} {M : Addr → Prop} {H : Hp} : ∀ (ss : List Str), Reps K M H (ss.map D.str) (ss.map V.str)
  | [] => Reps.nil
  | s :: ss => Reps.cons (by unfold Rep; rfl) (reps_of_strs ss)
theorem strsAre_of : ∀ {ss : List Str} {us : List Value}, Vals (ss.map V.str) us → StrsAre us ss
  | [], _, r => by rw [List.map_nil] at r; cases r; exact .nil
  | s :: ss, _, r => by
    rw [List.map_cons] at r
    cases r with
    | @cons _ u _ us h t =>
      obtain ⟨t', e⟩ := (show ∃ t, u = Value.str s t from h)
      subst e
      exact .cons _ _ (strsAre_of t)
theorem vals_of_strs : ∀ {ss : List Str} {us : List Value}, StrsAre us ss → Vals (ss.map V.str) us
  | _, _, .nil => .nil
  | _, _, .cons _ _ h => .cons ⟨_, rfl⟩ (vals_of_strs h)
section
variable {X : Cx}
/-! ### != -/
def fNeq : List D → (D → Prop) → Prop
  | [.int i, .int j], R => R (.bl (!decide (i = j)))
  | [.str x, .str y], R => R (.bl (!decide (x = y)))
  | [.bl a, .bl b], R => R (.bl (!decide (a = b)))
  | [.tup xs, .tup ys], R => (xs = ys ∧ D.nds xs = true ∧ D.dps xs ≤ 60) ∧ R (.bl false)
  | [.lst xs, .lst ys], R => (xs = ys ∧ D.nds xs = true ∧ D.dps xs ≤ 60) ∧ R (.bl false)
  | [.dct ks ds, .dct ks' ds'], R => (ks = ks' ∧ ds = ds' ∧ ks.Nodup ∧ D.nds ds = true ∧ D.dps ds ≤ 60) ∧ R (.bl false)
  | _, _ => False
theorem fNeq_int {i j : Int} {R : D → Prop} : fNeq [.int i, .int j] R ↔ R (.bl (!decide (i = j))) := Iff.rfl
theorem fNeq_str {i j : Str} {R : D → Prop} : fNeq [.str i, .str j] R ↔ R (.bl (!decide (i = j))) := Iff.rfl
theorem fNeq_bl {i j : Bool} {R : D → Prop} : fNeq [.bl i, .bl j] R ↔ R (.bl (!decide (i = j))) := Iff.rfl
theorem fNeq_tup {xs ys : List D} {R : D → Prop} : fNeq [.tup xs, .tup ys] R ↔ (xs = ys ∧ D.nds xs = true ∧ D.dps xs ≤ 60) ∧ R (.bl false) := Iff.rfl
theorem fNeq_lst {xs ys : List D} {R : D → Prop} : fNeq [.lst xs, .lst ys] R ↔ (xs = ys ∧ D.nds xs = true ∧ D.dps xs ≤ 60) ∧ R (.bl false) := Iff.rfl
theorem fNeq_dct {ks ks' : List Str} {ds ds' : List D} {R : D → Prop} : fNeq [.dct ks ds, .dct ks' ds'] R ↔ (ks = ks' ∧ ds = ds' ∧ ks.Nodup ∧ D.nds ds = true ∧ D.dps ds ≤ 60) ∧ R (.bl false) := Iff.rfl
/-- two dicts that are the same row by row -/
theorem hits_of {A : Around} {s : Shared} : ∀ (kb : List (Key × Value)) (ka : List (Key × Value)), (∀ (j : Nat) k v, ka[j]? = some (k, v) → ∃ y, valueAt kb k = some y ∧ SeqAt.EqAt A s v y true) → PySem.W.KeqHits A s kb ka true
  | kb, [], _ => .nil
  | kb, (k, v) :: r, h => by
    obtain ⟨y, hy, he⟩ := h 0 k v rfl
    have q := PySem.W.KeqHits.hit hy he (hits_of kb r fun j k' v' e => h (j + 1) k' v' (by simpa using e))
    exact q
theorem valueAt_of {kb : List (Key × Value)} (hn : (kb.map (·.1)).Nodup) {j : Nat} {k : Key} {y : Value} (e : kb[j]? = some (k, y)) : valueAt kb k = some y := by
  induction kb generalizing j with
  | nil => simp at e
  | cons p r ih =>
    rw [List.map_cons, List.nodup_cons] at hn
    cases j with
    | zero => simp at e; subst e; simp [valueAt]
    | succ j =>
      have e' : r[j]? = some (k, y) := by simpa using e
      have ne : ¬ p.1 = k := fun z => hn.1 (by rw [z]; exact List.mem_map.mpr ⟨(k, y), List.mem_of_getElem? e', rfl⟩)
      have q := ih hn.2 e'
      unfold valueAt at q ⊢
      rw [List.find?_cons]
      simp only [ne, decide_false]
      exact q
theorem pairedR {α β : Type} {F : α → β → Prop} : ∀ {l₁ : List α} {l₂ : List β} {j : Nat} {b : β}, Paired F l₁ l₂ → l₂[j]? = some b → ∃ a, l₁[j]? = some a ∧ F a b
  | _, _, _, _, .nil, e => by simp at e
  | _, _, 0, _, .cons h t, e => by simp at e; subst e; exact ⟨_, rfl, h⟩
  | _, _, j + 1, _, .cons h t, e => by
    obtain ⟨a, q, f⟩ := pairedR (j := j) t (by simpa using e)
    exact ⟨a, by simpa using q, f⟩
theorem pairedL {α β : Type} {F : α → β → Prop} : ∀ {l₁ : List α} {l₂ : List β} {j : Nat} {a : α}, Paired F l₁ l₂ → l₁[j]? = some a → ∃ b, l₂[j]? = some b ∧ F a b
  | _, _, _, _, .nil, e => by simp at e
  | _, _, 0, _, .cons h t, e => by simp at e; subst e; exact ⟨_, rfl, h⟩
  | _, _, j + 1, _, .cons h t, e => by
    obtain ⟨a, q, f⟩ := pairedL (j := j) t (by simpa using e)
    exact ⟨a, by simpa using q, f⟩
theorem nds_get : ∀ {ds : List D} {j : Nat} {d : D}, D.nds ds = true → ds[j]? = some d → d.nd = true
  | [], _, _, _, e => by simp at e
  | x :: r, 0, d, h, e => by
    simp at e; subst e
    unfold D.nds at h
    exact (Bool.and_eq_true_iff.mp h).1
  | x :: r, j + 1, d, h, e => by
    unfold D.nds at h
    exact nds_get (j := j) (Bool.and_eq_true_iff.mp h).2 (by simpa using e)
theorem dps_get : ∀ {ds : List D} {j : Nat} {d : D}, ds[j]? = some d → d.dp ≤ D.dps ds
  | [], _, _, e => by simp at e
  | x :: r, 0, d, e => by
    simp at e; subst e
    unfold D.dps
    exact Nat.le_max_left _ _
  | x :: r, j + 1, d, e => by
    unfold D.dps
    exact Nat.le_trans (dps_get (j := j) (by simpa using e)) (Nat.le_max_right _ _)
theorem kvs_get {ks : List Str} {vs : List V} {j : Nat} {k : Key} {v : V} (e : (kvsOf ks vs)[j]? = some (k, v)) : ∃ x, k = Sum.inr x ∧ ks[j]? = some x ∧ vs[j]? = some v := by
  unfold kvsOf at e
  rw [List.getElem?_zip_eq_some] at e
  obtain ⟨e1, e2⟩ := e
  rw [List.getElem?_map] at e1
  cases h : ks[j]? with
  | none => rw [h] at e1; cases e1
  | some x => rw [h] at e1; exact ⟨x, (Option.some.inj e1).symm, rfl, e2⟩
theorem kvs_at {ks : List Str} {vs : List V} {j : Nat} {x : Str} {v : V} (e1 : ks[j]? = some x) (e2 : vs[j]? = some v) : (kvsOf ks vs)[j]? = some (Sum.inr x, v) := by
  unfold kvsOf
  rw [List.getElem?_zip_eq_some]
  exact ⟨by rw [List.getElem?_map, e1]; rfl, e2⟩
theorem dct_hits {pins : List (Addr × Obj)} {σ : L2.St} {H : Hp} {s : Shared} {M : Addr → Prop} {A : Around} {ks : List Str} {ds : List D} {vs ws : List V} {va vb : List (Key × Value)} (I : L2.Inv X pins σ H s) (nd : ks.Nodup) (hn : D.nds ds = true) (hd : A.units + D.dps ds < cLine) (l1 : ks.length = ds.length)
    (rs1 : Reps X.K M H ds vs) (rs2 : Reps X.K M H ds ws) (ra : KV (kvsOf ks vs) va) (rb : KV (kvsOf ks ws) vb) : PySem.W.KeqHits A s vb va true := by
  have lw := Reps.length _ _ rs2
  have hkb : (vb.map (·.1)).Nodup := by
    rw [← rb.keys]
    have : (kvsOf ks ws).map (·.1) = ks.map Sum.inr := by unfold kvsOf; rw [List.map_fst_zip (by rw [List.length_map]; omega)]
    rw [this]
    exact List.Pairwise.map _ (fun a b ne z => ne (Sum.inr.inj z)) nd
  refine hits_of vb va fun j k1 v1 e1 => ?_
  obtain ⟨⟨k2, v2⟩, q1, z1, z2⟩ := pairedR ra e1
  obtain ⟨x, rfl, kx, vx⟩ := kvs_get q1
  simp only at z1 z2
  subst z1
  have hj : j < ds.length := by rw [← l1]; exact (List.getElem?_eq_some_iff.mp kx).1
  have ed : ds[j]? = some ds[j] := by simp [hj]
  obtain ⟨v', ev, rv⟩ := Reps.get _ _ rs1 j _ ed
  rw [vx] at ev
  cases ev
  obtain ⟨w', ew, rw'⟩ := Reps.get _ _ rs2 j _ ed
  obtain ⟨⟨k3, y⟩, qy, y1, y2⟩ := pairedL rb (kvs_at kx ew)
  simp only at y1 y2
  subst y1
  exact ⟨y, valueAt_of hkb qy, eqAt_D I ds[j] A v2 w' v1 y (nds_get hn ed) (by have := dps_get ed; omega) rv rw' z2 y2⟩
theorem o_neq (hu : X.A.units + 64 < cLine) : OpR X (compareOp .NotEq) fun x y => pureR X.K fNeq [x, y] := by
  intro pins s σ H x y v u Q I rx ry h
  obtain ⟨M, ds, R, m, rs, h, k⟩ := h
  have fin : ∀ b, R (.bl b) → EP X pins σ Q (.bool b) s := fun b r => ⟨.bl b, H, I, rfl, k _ r _ H (Same.refl H) (Rep.sc rfl)⟩
  unfold fNeq at h
  split at h
  · exact o_ne hu pins s σ H x y v u Q I rx ry ⟨M, _, R, m, rs, h, k⟩
  · exact o_ne hu pins s σ H x y v u Q I rx ry ⟨M, _, R, m, rs, h, k⟩
  · exact o_ne hu pins s σ H x y v u Q I rx ry ⟨M, _, R, m, rs, h, k⟩
  · obtain ⟨⟨e, hn, hd⟩, h⟩ := h
    subst e
    obtain ⟨h1, h2⟩ := reps2 rs
    unfold Rep at h1 h2
    obtain ⟨a, vs, rfl, sq, rs1⟩ := h1
    obtain ⟨b, ws, rfl, sq', rs2⟩ := h2
    cases rx
    cases ry
    obtain ⟨its, r1, t1, _⟩ := I.tuple sq
    obtain ⟨its', r2, t2, _⟩ := I.tuple sq'
    have hs : its.length = its'.length := by rw [← r1.length, ← r2.length, ← Reps.length _ _ rs1, ← Reps.length _ _ rs2]
    refine SeqAt.RcNeAt.tuples (e := fun _ => true) t1 t2 (by omega) (eqAt_Ds I _ X.A.in1 vs ws its its' hn (by rw [in1_units]; omega) rs1 rs2 r1 r2) _ _ _ _ ?_
    have z : ((List.range (min its.toArray.size its'.toArray.size)).all (fun _ => true) && its.toArray.size == its'.toArray.size) = true := by simp [hs]
    rw [z]
    exact fin _ h
  · obtain ⟨⟨e, hn, hd⟩, h⟩ := h
    subst e
    obtain ⟨h1, h2⟩ := reps2 rs
    unfold Rep at h1 h2
    obtain ⟨a, vs, rfl, _, sq, rs1⟩ := h1
    obtain ⟨b, ws, rfl, _, sq', rs2⟩ := h2
    cases rx
    cases ry
    obtain ⟨its, r1, t1, _⟩ := I.list (SqL.of sq)
    obtain ⟨its', r2, t2, _⟩ := I.list (SqL.of sq')
    have hs : its.length = its'.length := by rw [← r1.length, ← r2.length, ← Reps.length _ _ rs1, ← Reps.length _ _ rs2]
    refine SeqAt.RcNeAt.lists (e := fun _ => true) t1.isList t2.isList (by simp [hs]) (by omega) (eqAt_Ds I _ X.A.in1 vs ws its its' hn (by rw [in1_units]; omega) rs1 rs2 r1 r2) _ _ _ _ ?_
    rw [all_true]
    exact fin _ h
  · obtain ⟨⟨e, e2, nd, hn, hd⟩, h⟩ := h
    subst e e2
    obtain ⟨h1, h2⟩ := reps2 rs
    unfold Rep at h1 h2
    obtain ⟨a, vs, rfl, _, sq, l1, rs1⟩ := h1
    obtain ⟨b, ws, rfl, _, sq', l2, rs2⟩ := h2
    cases rx
    cases ry
    obtain ⟨_, lo, va, ra, da⟩ := dk_of I.hok sq
    obtain ⟨_, lo', vb, rb, db⟩ := dk_of I.hok sq'
    have lv := Reps.length _ _ rs1
    have lw := Reps.length _ _ rs2
    have la := ra.length
    have lb := rb.length
    refine PySem.W.keq_ne (r := true) lo lo' da db (by omega) (fun _ => dct_hits I nd hn (by rw [in1_units]; omega) l1 rs1 rs2 ra rb) ?_
    have e3 : va.length = vb.length := by
      rw [← la, ← lb]
      unfold kvsOf
      rw [List.length_zip, List.length_zip, ← lv, ← lw]
    have : (va.length == vb.length) = true := by rw [e3]; simp
    rw [this]
    exact fin _ h
  · exact h.elim
end
end DL

namespace DL
open PySem PySem.Spec PyProof.Rows L2
section
variable {prog : Program} {w : World} {A : Around} {E : Value → Shared → Prop} {s : Shared}
theorem lsort_strs {a : Addr} {vs : List Value} {ss : List Str} {n : Nat} {Q : Value → Shared → Prop} (ho : s.heap.get? a = some (seqObj "list" vs.toArray n)) (hS : StrsAre vs ss) (h64 : vs.length < 64)
    (h : ∀ (out : Array Value) (ss' : List Str), StrsAre out.toList ss' → ss'.Perm ss → sortedS ss' = true → Q .none { s with heap := sortedHeap s.heap a vs out }) :
    wpAny (model prog w) A (call (.builtin "list.sort") [.ref a]) Q E s := by
  refine wpAny_call_entry slot_list_sort ⟨_, ho, rfl⟩ entry_list_sort (list_sort_treeK strKind_oneLt ho hS.keysOf (fun v₁ v₂ rest e => keyKind_strs (by rw [← e]; exact hS)) h64 fun st' hp hs => ?_) (args_list_sort _)
  obtain ⟨ss', h1, h2, h3⟩ := sorted_out_str hS hp hs
  exact ⟨_, rfl, h _ ss' h1 h2 h3⟩
end
abbrev Srt (ss : List Str) : Prop := sortedS ss = true
/-- sorted(..) of a list of texts, and of a dict -/
def fSorted : List D → (D → Prop) → Prop
  | [.lst ds], R => ∃ ss : List Str, ds = ss.map D.str ∧ ss.length < 64 ∧ ∀ ss', ss'.Perm ss → Srt ss' → R (.lst (ss'.map D.str))
  | [.dct ks _], R => ks.length < 64 ∧ ∀ ss', ss'.Perm ks → Srt ss' → R (.lst (ss'.map D.str))
  | _, _ => False
theorem fSorted_lst {ds : List D} {R : D → Prop} : fSorted [.lst ds] R ↔ ∃ ss : List Str, ds = ss.map D.str ∧ ss.length < 64 ∧ ∀ ss', ss'.Perm ss → Srt ss' → R (.lst (ss'.map D.str)) := Iff.rfl
theorem fSorted_dct {ks : List Str} {ds : List D} {R : D → Prop} : fSorted [.dct ks ds] R ↔ ks.length < 64 ∧ ∀ ss', ss'.Perm ks → Srt ss' → R (.lst (ss'.map D.str)) := Iff.rfl
def fDict : List D → (D → Prop) → Prop
  | [.dct ks ds], R => R (.dct ks ds)
  | _, _ => False
theorem fDict_dct {ks : List Str} {ds : List D} {R : D → Prop} : fDict [.dct ks ds] R ↔ R (.dct ks ds) := Iff.rfl
theorem strs_keys {P : Program} {w : World} : ∀ {ks : List Str} {us : List Value}, ks.length = us.length → (∀ (j : Nat) v k, us[j]? = some v → ks[j]? = some k → (mixKind P w).is (Sum.inr k) v = true) → StrsAre us ks
  | [], [], _, _ => .nil
  | [], _ :: _, l, _ => by cases l
  | _ :: _, [], l, _ => by cases l
  | k :: ks, u :: us, l, h => by
    have h0 := h 0 u k rfl rfl
    obtain ⟨t, rfl⟩ : ∃ t, u = Value.str k t := by
      have : keyIs (Sum.inr k) u = true := h0
      rcases keyIs_shape this with ⟨i, t, e, _⟩ | ⟨x, t, e, e2⟩
      · cases e
      · cases e; exact ⟨t, e2⟩
    exact .cons _ _ (strs_keys (Nat.succ.inj l) fun j v k' e1 e2 => h (j + 1) v k' (by simpa using e1) (by simpa using e2))
section
variable {X : Cx}
theorem c_sorted (hc : X.calm = true) : CallR X (.builtin "sorted") (pureR X.K fSorted) := by
  intro pins s σ H xs us Q I rv h
  obtain ⟨M, ds, R, m, rs, h, k⟩ := h
  unfold fSorted at h
  split at h
  · obtain ⟨ss, rfl, h64, h⟩ := h
    obtain ⟨x, rfl, q⟩ := reps_one rs
    unfold Rep at q
    obtain ⟨a, vs, rfl, _, e, r⟩ := q
    obtain ⟨u, rfl, ru⟩ := vals1 rv
    cases ru
    cases reps_strs r
    obtain ⟨its, rv2, pl, _⟩ := I.list (SqL.of e)
    have hs := strsAre_of rv2
    have hl : its.length = ss.length := by rw [← rv2.length, List.length_map]
    refine sorted_strs pl.isList hs (by omega) fun out ss' h1 h2 h3 => ?_
    obtain ⟨ep, he⟩ := sortedAll_at s.heap its out
    have hz : (ss'.map V.str).length ≤ sizeLine := by rw [List.length_map, h2.length_eq]; exact small (by omega)
    have I2 : L2.Inv X pins σ (upd H (s.heap.objs.size + 1) (.lst (ss'.map V.str))) { s with heap := sortedAll s.heap its out } :=
      I.laid (t' := s.toks) (fun b o => sortedAll_old) (Nat.le_succ _) (show ObjOk X.prog X.w _ _ _ (.lst (ss'.map V.str)) from ⟨hz, out.toList, ep, vals_of_strs h1, he⟩)
    have fr : H (s.heap.objs.size + 1) = none := I.hok.fresh (Nat.le_succ _)
    refine ⟨.ref _, _, I2, rfl, k _ (h ss' h2 h3) _ _ (same_new fr _) ?_⟩
    unfold Rep
    exact ⟨_, _, rfl, fun z => m _ z fr, upd_same, reps_of_strs ss'⟩
  · obtain ⟨h64, h⟩ := h
    rename_i ks ds
    obtain ⟨x, rfl, q⟩ := reps_one rs
    unfold Rep at q
    obtain ⟨a, vs, rfl, _, e, l, r⟩ := q
    obtain ⟨u, rfl, ru⟩ := vals1 rv
    cases ru
    obtain ⟨hz, lo, va, ra, da⟩ := dk_of I.hok e
    obtain ⟨ep, hat⟩ := da.dictAt
    have lv := Reps.length _ _ r
    have hlen : va.length = ks.length := by
      rw [← ra.length]
      unfold kvsOf
      rw [List.length_zip, List.length_map]; omega
    refine Calls.call_function_entry kind_sorted plain_sorted entry_sorted (args_sorted1 _) ?_
    unfold Builtin.«sorted»
    refine wpAny_bind (m := checkCount "sorted" 1 1 _) (wpAny_pure ?_)
    refine wpAny_bind (PySem.W.kdu_collect (A := X.A.in1) (PySem.W.kdl_dict (knd := mixKind X.prog X.w) (kvs := va) (ep := ep) lo) (I.ok.hd hc) hat (by rw [hlen]; exact small (by omega)) fun h' tk acc hk hacc => ?_)
    have hl : acc.toList.length = ks.length := by rw [Array.length_toList, ← hlen]; exact hacc.1
    have hS : StrsAre acc.toList ks := strs_keys hl.symm fun j v k' e1 e2 => by
      obtain ⟨k2, x2, h1, h2⟩ := hacc.2 j v (by rw [← Array.getElem?_toList]; exact e1)
      obtain ⟨⟨k3, v3⟩, q1, z1, _⟩ := pairedR ra h1
      obtain ⟨x, rfl, kx, _⟩ := kvs_get q1
      simp only at z1
      rw [kx] at e2
      cases e2
      rw [z1]
      exact h2
    refine wpAny_bind (wpAny_newList ?_ (by rw [hl]; exact small (by omega)))
    have hoL : (h'.push { cls := .type "list", data := .seq acc.toList.toArray }).get? h'.objs.size = some (seqObj "list" acc.toList.toArray 0) := Heap.get?_push_size _ rfl
    refine wpAny_bind (wpAny_holding (lsort_strs hoL hS (by omega) fun out ss' h1 h2 h3 => ?_))
    refine wpAny_pure ⟨_, rfl, ?_⟩
    obtain ⟨ep2, he⟩ := sortedHeap_at (out := out) hoL
    have I1 : L2.Inv X pins σ H { s with heap := h', toks := tk } := I.kept (t' := tk) hk
    have kp : ∀ b o, h'.get? b = some o → (sortedHeap (h'.push { cls := .type "list", data := .seq acc.toList.toArray }) h'.objs.size acc.toList out).get? b = some o := fun b o e => by
      have hb := Heap.lt_size e
      rw [sortedHeap_old (Nat.ne_of_lt hb) (by rw [Heap.size_push]; exact Nat.lt_succ_of_lt hb)]
      exact Heap.get?_push_of_some _ e
    have hz2 : (ss'.map V.str).length ≤ sizeLine := by rw [List.length_map, h2.length_eq]; exact small (by omega)
    have I2 : L2.Inv X pins σ (upd H h'.objs.size (.lst (ss'.map V.str))) { s with heap := sortedHeap (h'.push { cls := .type "list", data := .seq acc.toList.toArray }) h'.objs.size acc.toList out, toks := tk } :=
      I1.laid (t' := tk) kp (Nat.le_refl _) (show ObjOk X.prog X.w _ _ _ (.lst (ss'.map V.str)) from ⟨hz2, out.toList, ep2, vals_of_strs h1, he⟩)
    have fr : H h'.objs.size = none := I1.hok.fresh (Nat.le_refl _)
    refine ⟨.ref _, _, I2, rfl, k _ (h ss' h2 h3) _ _ (same_new fr _) ?_⟩
    unfold Rep
    exact ⟨_, _, rfl, fun z => m _ z fr, upd_same, reps_of_strs ss'⟩
  · exact h.elim
def fTuple : List D → (D → Prop) → Prop
  | [.lst xs], R => R (.tup xs)
  | [.fz xs], R => R (.tup xs)
  | [.tup xs], R => R (.tup xs)
  | _, _ => False
theorem fTuple_lst {xs : List D} {R : D → Prop} : fTuple [.lst xs] R ↔ R (.tup xs) := Iff.rfl
theorem fTuple_tup {xs : List D} {R : D → Prop} : fTuple [.tup xs] R ↔ R (.tup xs) := Iff.rfl
def fList : List D → (D → Prop) → Prop
  | [.lst xs], R => R (.lst xs)
  | [.fz xs], R => R (.lst xs)
  | [.tup xs], R => R (.lst xs)
  | _, _ => False
theorem fList_lst {xs : List D} {R : D → Prop} : fList [.lst xs] R ↔ R (.lst xs) := Iff.rfl
theorem fList_tup {xs : List D} {R : D → Prop} : fList [.tup xs] R ↔ R (.lst xs) := Iff.rfl
/-! ### d[k], d[k] = v -/
variable {a b e : Expr} {ta tb : TDE} {pos : Pos}
def dPutD (i : Nat) (tv tk : TDE) : TDS := fun R δ => tv δ (wd fun x δ1 => ∃ a ks ds, δ1[i]? = some (.own a (.dct ks ds)) ∧ tk δ1 (wd fun z δ2 => ∃ ks ds y, δ2[i]? = some (.own a (.dct ks ds)) ∧ z = .str y ∧ ks.length < 1000 ∧ R.nx (δ2.set i (.own a (.dct (kPut ks y) (vPut ks ds y x))))))
theorem ds_putD (i : Nat) {y : Str} {p pos' : Pos} (hu : X.A.units + 64 < cLine) (he : DE X e ta) (hb : DE X b tb) (hN : X.N[i]? = some y := by rfl) (hv : Vis X.env.scope y := by first | exact Or.inl rfl | exact Or.inr (Or.inl rfl) | exact Or.inr (Or.inr rfl))
    (hd : (y == ("__debug__" : Str)) = false := by decide) (hcd : (y == ("__classdict__" : Str)) = false := by decide) (hs : swapsWith e (some (.Subscript (.Name y p) b pos')) pos.line X.env = pure false := by rfl) :
    DS X (.Assign [.Subscript (.Name y p) b pos'] e pos) (dPutD i ta tb) :=
  PS.imp (ps_dput (by omega) (pe_var hN hv hd hcd) hb he hs) fun E σ H ⟨G, δ, P, R, s, h, k, _⟩ => up.mk s h fun x δ1 ⟨a, ks0, ds0, hi0, h1⟩ v H1 s1 => ⟨.ref a, s1.own hi0, up.mk s1 h1 fun z δ2 ⟨ks, ds, y, hi, ez, hz, r⟩ u H2 ⟨A, q⟩ => by
    subst ez
    obtain ⟨_, aa, vs, hvs, l, rs⟩ := q.own i a _ hi
    have lv := Reps.length _ _ rs
    have p2 : u = .str y := rep_str (q.pnd (.str y, u) (by simp))
    have hlen : (kvsOf ks vs).length < sizeLine := by
      unfold kvsOf
      rw [List.length_zip, List.length_map]
      exact small1000 (by omega)
    have g := DPut.k (k := Sum.inr y) (v := v) hvs hlen
    rw [kvs_put y v (by omega)] at g
    refine ⟨a, _, rfl, by rw [p2]; exact g, k _ r _ _ ⟨A, (q.change (d' := .dct (kPut ks y) (vPut ks ds y x)) hi (fun b o n e => by rw [upd_ne n]; exact e) ⟨vPut ks vs y v, upd_same, put_len l, ?_⟩).sub (P' := P) fun q hq => List.mem_cons_of_mem _ (List.mem_cons_of_mem _ hq)⟩⟩
    have kp : Kp (fun b => G.M0 b ∨ A b) H2 (upd H2 a (.dK (kvsOf (kPut ks y) (vPut ks vs y v)))) := by
      have hk : ∀ b o, b ≠ a → H2 b = some o → upd H2 a (.dK (kvsOf (kPut ks y) (vPut ks vs y v))) b = some o := fun b o n e => by rw [upd_ne n]; exact e
      exact ⟨fun b o e n => hk b o (fun z => n (.inr (by rw [z]; exact aa))) e, fun b xs e => hk b _ (fun z => by rw [z, hvs] at e; cases e) e, fun b o u e => hk b _ (fun z => by rw [z, hvs] at e; cases e) e⟩
    exact Reps.kp kp _ _ (Reps.put y rs (q.pnd (x, v) (by simp)))⟩
def dRetN : TDS := fun R δ => R.rt .non δ
theorem ds_retN {pos : Pos} : DS X (.Return none pos) dRetN := PS.imp ps_retN fun E σ H ⟨G, δ, P, R, s, h, _, k, _⟩ => k.1 .non δ h .non σ H (s.sc rfl)
/-! ### a text walked -/
def signs (x : Str) : List D := x.cps.toList.map fun c => D.str ⟨#[c]⟩
def dcStr (t : TDE) : TDC := fun δ R => t δ (wd fun d δ1 => ∃ x, d = .str x ∧ R (signs x) δ1)
/-! ### xs.pop() -/
def dPop (i j : Nat) : TDS := fun R δ => ∃ a ds y, δ[i]? = some (.own a (.lst (ds ++ [y]))) ∧ R.nx ((δ.set i (.own a (.lst ds))).set j (.dat y))
end
end DL

namespace DL
open PySem PySem.Spec PyProof.Rows L2
section
variable {prog : Program} {w : World} {A : Around} {E : Value → Shared → Prop}
end
section
variable {X : Cx} {pos : Pos}
def dgLst (n : Nat) (t : TDGs) : TDG := fun d δ R => ∃ xs, d = .lst xs ∧ xs.length = n ∧ t xs δ R
end
end DL

namespace DL
open PySem PySem.Spec PyProof.Rows L2
section
variable {X : Cx} {b : Expr} {tb : TDE} {pos p : Pos}
def dGtab (D : List (Str × Str)) (t : TDE) : TDE := fun δ R => t δ (wd fun z δ1 => ∃ k v, z = .str k ∧ KTD.datumAt k D = some v ∧ R (.d (.str v)) δ1)
end
end DL

namespace DL
open PySem PySem.Spec PyProof.Rows L2
/-- max(a, b), max([..]) of whole numbers -/
def fMax : List D → (D → Prop) → Prop
  | [.int i, .int j], R => R (.int (max i j))
  | [.lst ds], R => ∃ ns : List Int, ds = ns.map D.int ∧ 0 < ns.length ∧ ∀ M ∈ ns, (∀ a ∈ ns, a ≤ M) → R (.int M)
  | _, _ => False
theorem fMax_two {i j : Int} {R : D → Prop} : fMax [.int i, .int j] R ↔ R (.int (max i j)) := Iff.rfl
theorem fMax_lst {ds : List D} {R : D → Prop} : fMax [.lst ds] R ↔ ∃ ns : List Int, ds = ns.map D.int ∧ 0 < ns.length ∧ ∀ M ∈ ns, (∀ a ∈ ns, a ≤ M) → R (.int M) := Iff.rfl
end DL

namespace DL
open PySem PySem.Spec PyProof.Rows L2
/-! ### two sequences walked together -/
/-- k: a list, else a tuple -/
def ItA (k : Bool) (h : Heap) (it a : Addr) (i : Nat) : Prop := match k with | true => h.IsListIter it a i | false => h.IsTupleIter it a i
def SqA (k : Bool) (h : Heap) (a : Addr) (xs : Array Value) : Prop := match k with | true => h.IsList a xs | false => h.IsTuple a xs
theorem ItA.keep {k : Bool} {h h' : Heap} {it a : Addr} {i : Nat} (x : ItA k h it a i) (f : ∀ o, h.get? it = some o → h'.get? it = some o) : ItA k h' it a i := by
  cases k
  · exact Heap.IsTupleIter.at x f
  · exact Heap.IsListIter.at x f
theorem SqA.keep {k : Bool} {h h' : Heap} {a : Addr} {xs : Array Value} (x : SqA k h a xs) (f : ∀ o, h.get? a = some o → h'.get? a = some o) : SqA k h' a xs := by
  cases k
  · exact Heap.IsTuple.at x f
  · exact Heap.IsList.at x f
theorem ItA.obj {k : Bool} {h : Heap} {it a : Addr} {i : Nat} (x : ItA k h it a i) : ∃ o, h.get? it = some o ∧ o.cls = .type (if k then "list_iterator" else "tuple_iterator") ∧ o.data = .fields #[.ref a, .int i 0] := by
  cases k
  · exact x
  · exact x
theorem SqA.there {k : Bool} {h : Heap} {a : Addr} {xs : Array Value} (x : SqA k h a xs) : ∃ o, h.get? a = some o ∧ ∃ n, o.data = .seq xs n := by
  cases k
  · obtain ⟨o, e, _, d⟩ := x; exact ⟨o, e, d⟩
  · obtain ⟨o, e, _, d⟩ := x; exact ⟨o, e, d⟩
section
variable {prog : Program} {w : World} {A : Around} {E : Value → Shared → Prop} {s : Shared}
/-- the five objects of a zip, and the two that it walks -/
structure ZAp (z p o i j a b : Addr) : Prop where
  zp : p ≠ z
  zo : o ≠ z
  zi : i ≠ z
  zj : j ≠ z
  po : p ≠ o
  pi : p ≠ i
  pj : p ≠ j
  oi : o ≠ i
  oj : o ≠ j
  ij : i ≠ j
  az : a ≠ z
  ao : a ≠ o
  ai : a ≠ i
  aj : a ≠ j
  bz : b ≠ z
  bo : b ≠ o
  bi : b ≠ i
  bj : b ≠ j
structure ZAt (k l : Bool) (h : Heap) (z p o i j a b : Addr) (m : Nat) (xs ys : Array Value) : Prop where
  hz : IsZip h z p o .none
  hp : IsPair h p (.ref i) (.ref j)
  ho : ∃ u v, IsPair h o u v
  hi : ItA k h i a m
  hj : ItA l h j b m
  ha : SqA k h a xs
  hb : SqA l h b ys

/-! ### a zip object made -/
theorem ZAp.new {n a b : Nat} (h1 : a < n) (h2 : b < n) : ZAp (n + 4) (n + 2) (n + 3) n (n + 1) a b := by
  constructor <;> (intro e; have e : (_ : Nat) = _ := e; omega)
end

def SqV (k : Bool) (K : PySem.W.Frag) (H : Hp) (a : Addr) (xs : List V) : Prop := match k with | true => SqL K H a xs | false => SqT K H a xs
theorem SqV.at {k : Bool} {X : Cx} {pins : List (Addr × Obj)} {σ : L2.St} {H : Hp} {s : Shared} {a : Addr} {xs : List V} (I : Inv X pins σ H s) (h : SqV k X.K H a xs) : ∃ its : List Value, Vals xs its ∧ SqA k s.heap a its.toArray := by
  cases k
  · obtain ⟨its, r, p, _⟩ := I.tuple h
    exact ⟨its, r, p⟩
  · obtain ⟨its, r, p, _⟩ := I.list h
    exact ⟨its, r, p.isList⟩
theorem SqV.inj {k : Bool} {X : Cx} {pins : List (Addr × Obj)} {σ : L2.St} {H : Hp} {s : Shared} {a : Addr} {xs ys : List V} (I : Inv X pins σ H s) (h : SqV k X.K H a xs) (h' : SqV k X.K H a ys) : xs = ys := by
  cases k
  · exact I.tuple_inj h h'
  · exact I.list_inj h h'
structure ZI (k l : Bool) (h : Heap) (z p o i j a b : Addr) (m : Nat) : Prop where
  hz : IsZip h z p o .none
  hp : IsPair h p (.ref i) (.ref j)
  ho : ∃ u v, IsPair h o u v
  hi : ItA k h i a m
  hj : ItA l h j b m
theorem ZAt.zi {k l : Bool} {h : Heap} {z p o i j a b : Addr} {m : Nat} {xs ys : Array Value} (Z : ZAt k l h z p o i j a b m xs ys) : ZI k l h z p o i j a b m := ⟨Z.hz, Z.hp, Z.ho, Z.hi, Z.hj⟩
section
variable {X : Cx}
end
/-! ### the data of it -/
def sq (k : Bool) (xs : List D) : D := match k with | true => .lst xs | false => .tup xs
def zipD (xs ys : List D) : List D := List.zipWith (fun x y => D.tup [x, y]) xs ys
def dcZip (k l : Bool) (t : TDA) : TDC := fun δ R => t δ fun ds δ1 => ∃ xs ys, ds = [sq k xs, sq l ys] ∧ R (zipD xs ys) δ1
section
variable {X : Cx} {ta : TDA}
end
/-! ### for, over any source of a comprehension -/
def dFor (src : TDC) (g : TDG) (tb : TDS) : TDS := fun R δ => src δ fun xs δ1 => ∃ I : Nat → En → Prop, I 0 δ1 ∧
  (∀ i x δ', xs[i]? = some x → I i δ' → g x δ' fun δ2 => tb { R with nx := I (i + 1), ct := I (i + 1), bk := R.nx } δ2) ∧ ∀ δ', I xs.length δ' → R.nx δ'
end DL

namespace DL
open PySem PySem.Spec PyProof.Rows L2
section
variable {X : Cx}
/-! ### sum of whole numbers, min of two -/
def fSum : List D → (D → Prop) → Prop
  | [.lst ds], R => ∃ ns : List Int, ds = ns.map D.int ∧ R (.int ns.sum)
  | _, _ => False
theorem fSum_lst {ds : List D} {R : D → Prop} : fSum [.lst ds] R ↔ ∃ ns : List Int, ds = ns.map D.int ∧ R (.int ns.sum) := Iff.rfl
def fMin : List D → (D → Prop) → Prop
  | [.int i, .int j], R => R (.int (min i j))
  | _, _ => False
theorem fMin_two {i j : Int} {R : D → Prop} : fMin [.int i, .int j] R ↔ R (.int (min i j)) := Iff.rfl
/-! ### d.get(k, x), the dict being the frame's own -/
def dGetO (i : Nat) (tk tx : TDE) : TDE := fun δ R => ∃ a ks ds, δ[i]? = some (.own a (.dct ks ds)) ∧ tk δ (wd fun z δ1 => tx δ1 (wd fun x δ2 => ∃ ks ds y, δ2[i]? = some (.own a (.dct ks ds)) ∧ z = .str y ∧ R (.d ((dAt ks ds y).getD x)) δ2))
variable {e f : Expr} {ta tb : TDE} {pos : Pos}
end
end DL
namespace DL
open PySem PyProof.Rows
end DL
namespace DL
open PySem PySem.Spec PyProof.Rows L2
/-- x += e, whole numbers -/
def dAug (i : Nat) (te : TDE) : TDS := fun R δ => ∃ n : Int, δ[i]? = some (.dat (.int n)) ∧ te δ (wd fun d δ1 => ∃ k : Int, d = .int k ∧ R.nx (δ1.set i (.dat (.int (n + k)))))
theorem ds_aug {X : Cx} {pos : Pos} {e : Expr} {te : TDE} (i : Nat) {x : Str} {pos' : Pos} (hN : X.N.Nodup) (he : DE X e te) (hi : X.N[i]? = some x := by rfl) (hx : Loc X.env.scope x := by first | exact Or.inl rfl | exact Or.inr rfl)
    (hf : X.fn x = true ∨ X.env.scope.names.lookup x = some .local := by first | exact .inl rfl | exact .inr rfl | assumption) : DS X (.AugAssign (.Name x pos') .Add e pos) (dAug i te) :=
  PS.imp (ps_aug hN hi hx he ip_add hf) fun E σ H ⟨G, δ, P, R, s, ⟨n, hn, h⟩, k, _⟩ => by
    obtain ⟨v, q, s'⟩ := s.dat hn
    obtain ⟨A, y⟩ := id s'
    have e1 : v = .int n := rep_int (y.pnd (.int n, v) (by simp))
    subst e1
    refine ⟨.int n, q, up.mk s h fun d δ1 ⟨j, ed, r⟩ u H1 s1 => ?_⟩
    subst ed
    obtain ⟨A1, y1⟩ := id s1
    have e2 : u = .int j := rep_int (y1.pnd (.int j, u) (by simp))
    subst e2
    exact ⟨n, j, rfl, rfl, k _ r _ H1 (((s1.sub (P' := P) fun p hp => by simp [hp]).sc (d := .int (n + j)) rfl).set (by simp) fun p hp => by simp [hp])⟩
end DL

namespace DL
open PySem PySem.Spec PyProof.Rows L2
/-! ### the order of texts: a sorted list without doubles is the only one of its members -/
theorem lt_cons {x y : Nat} {r t : List Nat} : ltCps (x :: r) (y :: t) = if x < y then true else if y < x then false else ltCps r t := by
  show (decide (x < y) || (x == y && ltCps r t)) = _
  rcases Nat.lt_trichotomy x y with h | h | h
  · rw [if_pos h, decide_eq_true h]; rfl
  · subst h
    rw [if_neg (Nat.lt_irrefl x), if_neg (Nat.lt_irrefl x)]
    simp
  · rw [if_neg (Nat.lt_asymm h), if_pos h, decide_eq_false (Nat.lt_asymm h)]
    have : (x == y) = false := by simp; omega
    rw [this]; rfl
theorem ltCps_eq : ∀ {a b : List Nat}, ltCps a b = false → ltCps b a = false → a = b
  | [], [], _, _ => rfl
  | [], y :: s, h, _ => by simp [ltCps] at h
  | x :: r, [], _, h => by simp [ltCps] at h
  | x :: r, y :: s, h1, h2 => by
    rw [lt_cons] at h1 h2
    rcases Nat.lt_trichotomy x y with h | h | h
    · rw [if_pos h] at h1; cases h1
    · subst h
      rw [if_neg (Nat.lt_irrefl x), if_neg (Nat.lt_irrefl x)] at h1 h2
      rw [ltCps_eq h1 h2]
    · rw [if_pos h] at h2; cases h2
theorem leCps_trans : ∀ {a b c : List Nat}, ltCps b a = false → ltCps c b = false → ltCps c a = false
  | [], b, c, _, _ => by cases c <;> rfl
  | x :: r, [], c, h, _ => by simp [ltCps] at h
  | x :: r, y :: s, [], _, h => by simp [ltCps] at h
  | x :: r, y :: s, z :: t, h1, h2 => by
    rw [lt_cons] at h1 h2 ⊢
    rcases Nat.lt_trichotomy y x with h | h | h
    · rw [if_pos h] at h1; cases h1
    · subst h
      rw [if_neg (Nat.lt_irrefl y), if_neg (Nat.lt_irrefl y)] at h1
      rcases Nat.lt_trichotomy z y with g | g | g
      · rw [if_pos g] at h2; cases h2
      · subst g
        rw [if_neg (Nat.lt_irrefl z), if_neg (Nat.lt_irrefl z)] at h2 ⊢
        exact leCps_trans h1 h2
      · rw [if_neg (Nat.lt_asymm g), if_pos g]
    · rcases Nat.lt_trichotomy z y with g | g | g
      · rw [if_pos g] at h2; cases h2
      · subst g
        rw [if_neg (Nat.lt_asymm h), if_pos h]
      · have : x < z := Nat.lt_trans h g
        rw [if_neg (Nat.lt_asymm this), if_pos this]
def leS (a b : Str) : Prop := ltCps b.cps.toList a.cps.toList = false
theorem leS_eq {a b : Str} (h1 : leS a b) (h2 : leS b a) : a = b := by
  have := ltCps_eq h2 h1
  cases a; cases b
  simp only [Str.mk.injEq] at *
  exact Array.toList_inj.mp this
theorem srt_pw : ∀ {ss : List Str}, Srt ss → ss.Pairwise leS
  | [], _ => .nil
  | x :: r, h => by
    have h : risingS x r = true := h
    have key : ∀ (r : List Str) (x : Str), risingS x r = true → (∀ y ∈ r, leS x y) ∧ r.Pairwise leS := by
      intro r
      induction r with
      | nil => intro x _; exact ⟨fun y hy => (nomatch hy), .nil⟩
      | cons y r ih =>
        intro x h
        unfold risingS at h
        obtain ⟨h1, h2⟩ := Bool.and_eq_true_iff.mp h
        have h1 : leS x y := by unfold leS; cases q : ltCps y.cps.toList x.cps.toList with
          | false => rfl
          | true => rw [q] at h1; cases h1
        obtain ⟨i1, i2⟩ := ih y h2
        refine ⟨fun z hz => ?_, .cons i1 i2⟩
        rcases List.mem_cons.mp hz with rfl | hz
        · exact h1
        · exact leCps_trans h1 (i1 z hz)
    obtain ⟨k1, k2⟩ := key r x h
    exact .cons k1 k2
theorem pw_uniq : ∀ {as bs : List Str}, as.Pairwise leS → bs.Pairwise leS → as.Nodup → bs.Nodup → (∀ x, x ∈ as ↔ x ∈ bs) → as = bs
  | [], [], _, _, _, _, _ => rfl
  | [], b :: bs, _, _, _, _, h => by have := (h b).mpr (List.mem_cons_self ..); cases this
  | a :: as, [], _, _, _, _, h => by have := (h a).mp (List.mem_cons_self ..); cases this
  | a :: as, b :: bs, pa, pb, na, nb, h => by
    cases pa with
    | cons pa1 pa2 =>
      cases pb with
      | cons pb1 pb2 =>
        have e : a = b := by
          rcases List.mem_cons.mp ((h a).mp (List.mem_cons_self ..)) with e | ha
          · exact e
          · rcases List.mem_cons.mp ((h b).mpr (List.mem_cons_self ..)) with e | hb
            · exact e.symm
            · exact leS_eq (pa1 b hb) (pb1 a ha)
        subst e
        obtain ⟨n1, n2⟩ := List.nodup_cons.mp na
        obtain ⟨n3, n4⟩ := List.nodup_cons.mp nb
        rw [pw_uniq pa2 pb2 n2 n4 fun x => ⟨fun hx => ?_, fun hx => ?_⟩]
        · rcases List.mem_cons.mp ((h x).mp (List.mem_cons_of_mem _ hx)) with e | hx'
          · exact absurd (e ▸ hx) n1
          · exact hx'
        · rcases List.mem_cons.mp ((h x).mpr (List.mem_cons_of_mem _ hx)) with e | hx'
          · exact absurd (e ▸ hx) n3
          · exact hx'
end DL

namespace DL
open PySem PySem.Spec PyProof.Rows L2
/-! ### a set of texts: its making -/
def byTx (w : World) : Bool := w.params.followText "set-order"
def sOf : Value → Str
  | .str x _ => x
  | _ => ⟨#[]⟩
/-- the set at a: its texts in their places -/
structure TxS (P : Program) (w : World) (h : Heap) (a : Addr) (es : Array (Int × Value)) (ep : Nat) (t : SetTable) : Prop where
  ob : ∃ o, h.get? a = some o ∧ o.ExactSet ∧ o.data = .set es ep t
  el : ElemsOf (PySem.strKind P w) es.toList
  nd : (es.toList.map fun e => sOf e.2).Nodup
  few : es.size < scanBound
  fit : t.fits es.size = true
  led : t.led = !byTx w
  pl : es.size ≠ 0 → t.plain = false
section
variable {P : Program} {w : World} {h h' : Heap} {a : Addr} {es : Array (Int × Value)} {ep : Nat} {t : SetTable}
theorem TxS.keep (x : TxS P w h a es ep t) (k : ∀ o, h.get? a = some o → h'.get? a = some o) : TxS P w h' a es ep t := by
  obtain ⟨o, e, r⟩ := x.ob
  exact ⟨⟨o, k o e, r⟩, x.el, x.nd, x.few, x.fit, x.led, x.pl⟩
theorem is_str {k : Str} {v : Value} (h : (PySem.strKind P w).is k v = true) : ∃ t, v = .str k t := Value.isStrOf_shape h
theorem el_str (he : ElemsOf (PySem.strKind P w) es.toList) {e : Int × Value} (h : e ∈ es.toList) : ∃ t, e.2 = .str (sOf e.2) t := by
  obtain ⟨⟨k, hk, _⟩, _⟩ := he e h
  obtain ⟨t, q⟩ := is_str hk
  exact ⟨t, by rw [q]; rfl⟩
theorem el_is (he : ElemsOf (PySem.strKind P w) es.toList) {e : Int × Value} (h : e ∈ es.toList) {k : Str} : (PySem.strKind P w).is k e.2 = true ↔ sOf e.2 = k := by
  obtain ⟨t, q⟩ := el_str he h
  constructor
  · intro z
    obtain ⟨u, z⟩ := is_str z
    rw [z]; rfl
  · intro z
    rw [q, z]
    exact PySem.strKind_is P w k t
theorem orStand_led {t : SetTable} {n : Nat} : (t.orStandIn n).led = t.led := by
  unfold SetTable.orStandIn
  split <;> rfl
theorem layNew_led {x : Value} {n : Int} : (layNew t es n x).2.1.led = t.led := by
  unfold layNew
  split
  · exact orStand_led
  · rfl
theorem relay_led {n : Nat} : (relayAll t es n).2.1.led = t.led := by
  unfold relayAll
  split
  · rename_i t' order e
    unfold SetTable.relaid SetTable.laid at e
    simp only [Option.bind_eq_bind, Option.bind_eq_some_iff] at e
    obtain ⟨ow, _, e⟩ := e
    have e := Option.some.inj e
    simp only [Prod.mk.injEq] at e
    simp only
    split
    · rw [← e.1]
    · rfl
  · rfl
theorem relay_plain {n : Nat} (h : t.plain = false) : (relayAll t es n).2.1.plain = false := by
  unfold relayAll
  split
  · rename_i t' order e
    unfold SetTable.relaid SetTable.laid at e
    simp only [Option.bind_eq_bind, Option.bind_eq_some_iff] at e
    obtain ⟨ow, _, e⟩ := e
    have e := Option.some.inj e
    simp only [Prod.mk.injEq] at e
    simp only
    split
    · rw [← e.1]; exact h
    · rfl
  · rfl
end
section
variable {prog : Program} {w : World} {A : Around} {E : Value → Shared → Prop} {s : Shared}
theorem store_at {h : Heap} {a : Addr} {o : Obj} {es es' : Array (Int × Value)} {ep : Nat} {t t' : SetTable} (ho : h.get? a = some o) (hd : o.data = .set es ep t) : (h.update a (Obj.putSet es' t')).get? a = some { o with data := .set es' (ep + 1) t' } := by
  have := Heap.get?_update_self (Obj.putSet es' t') ho (by rw [putSet_of es' t' hd]; rfl)
  rw [putSet_of es' t' hd] at this
  exact this
/-- a text is put in -/
theorem txs_add {a : Addr} {es : Array (Int × Value)} {ep : Nat} {t : SetTable} {k : Str} {tk : Tok} {Q : Bool → Shared → Prop} (hS : TxS prog w s.heap a es ep t) (hroom : es.size + 1 < scanBound)
    (h : ∀ b h' es' ep' t', Heap.SameBut a s.heap h' → TxS prog w h' a es' ep' t' → (∀ y, y ∈ es'.toList.map (fun e => sOf e.2) ↔ y ∈ es.toList.map (fun e => sOf e.2) ∨ y = k) → es'.size ≤ es.size + 1 → Q b { s with heap := h' }) :
    wpAny (model prog w) A (setAddHashed a (.str k tk) ((PySem.strKind prog w).hash k)) Q E s := by
  obtain ⟨⟨o, ho, hex, hd⟩, hel, nd, hb, hf, led, pl⟩ := id hS
  have hkey := PySem.strKind_is prog w k tk
  have hsc : (Value.str k tk).scannable = true := rfl
  unfold setAddHashed setAddHashedIn
  refine wpAny_holding (wpAny_bind (wpAny_setState_of ho hd hf ?_))
  dsimp only
  rw [byScan_of hsc hb hel]
  simp only [↓reduceIte]
  unfold setAddByScan
  refine wpAny_bind (wpAny_bind (wpAny_rule (wpAny_bind (wpAny_setScan_of hkey ho hd hf hel ?_))))
  cases hr : List.findIdx? (fun e => (PySem.strKind prog w).is k e.2) es.toList with
  | some j =>
    dsimp only
    obtain ⟨hj, hpj, _⟩ := List.findIdx?_eq_some_iff_getElem.mp hr
    refine wpAny_pure (wpAny_pure (h false s.heap es ep t (Heap.SameBut.refl a s.heap) hS (fun y => ⟨.inl, fun z => z.elim id fun e => ?_⟩) (by omega)))
    rw [e]
    exact List.mem_map.mpr ⟨_, List.getElem_mem hj, (el_is hel (List.getElem_mem hj)).mp hpj⟩
  | none =>
    dsimp only
    have hno : k ∉ es.toList.map fun e => sOf e.2 := fun hm => by
      obtain ⟨e, he, ek⟩ := List.mem_map.mp hm
      have := List.findIdx?_eq_none_iff.mp hr e he
      rw [(el_is hel he).mpr ek] at this
      cases this
    have hperm := layNew_perm t es ((PySem.strKind prog w).hash k) (.str k tk)
    have hfits := layNew_fits t es ((PySem.strKind prog w).hash k) (.str k tk)
    have hled := layNew_led (t := t) (es := es) (n := (PySem.strKind prog w).hash k) (x := .str k tk)
    generalize layNew t es ((PySem.strKind prog w).hash k) (.str k tk) = L at hperm hfits hled ⊢
    obtain ⟨es1, t1, wasDummy, gave⟩ := L
    dsimp only at hperm hfits hled ⊢
    rw [Array.toList_push] at hperm
    have hel1 : ElemsOf (PySem.strKind prog w) es1.toList := fun e he => by
      rcases List.mem_append.mp (hperm.mem_iff.mp he) with he | he
      · exact hel e he
      · rw [List.mem_singleton.mp he]; exact ⟨⟨k, hkey, rfl⟩, hsc⟩
    have hm1 : (es1.toList.map fun e => sOf e.2).Perm ((es.toList.map fun e => sOf e.2) ++ [k]) := (hperm.map _).trans (by rw [List.map_append]; exact List.Perm.refl _)
    have hn1 : (es1.toList.map fun e => sOf e.2).Nodup := hm1.nodup_iff.mpr (by
      rw [List.nodup_append]
      exact ⟨nd, by simp, fun x hx y hy e => by rw [List.mem_singleton.mp hy] at e; exact hno (e ▸ hx)⟩)
    have hsz : es1.size = es.size + 1 := by rw [← Array.length_toList, hperm.length_eq, List.length_append, Array.length_toList]; rfl
    have hmem : ∀ {es2 : Array (Int × Value)}, es2.toList.Perm es1.toList → ∀ y, y ∈ es2.toList.map (fun e => sOf e.2) ↔ y ∈ es.toList.map (fun e => sOf e.2) ∨ y = k := fun hp y => by
      rw [((hp.map fun e => sOf e.2).trans hm1).mem_iff, List.mem_append, List.mem_singleton]
    have gw : ∀ (b : Bool) {s₁ : Shared} {Q' : Unit → Shared → Prop}, Q' () s₁ → wpAny (model prog w) A (match b with | true => rule "set.scan.the-table-gave-way" | false => pure ()) Q' E s₁ := fun b s₁ Q' q => by
      cases b
      · exact wpAny_pure q
      · exact wpAny_rule q
    refine wpAny_bind (gw _ ?_)
    have tail : ∀ t2 : SetTable, t2.fits es1.size = true → t2.led = t.led → t2.plain = false → wpAny (model prog w) A (do
        storeSet a es1 t2
        if (!wasDummy && t2.tooFull) = true then do
            (match (relayAll t2 es1 (SetTable.grown es1.size)).2.2 with | true => rule "set.scan.the-table-gave-way" | false => pure ())
            storeSet a (relayAll t2 es1 (SetTable.grown es1.size)).1 (relayAll t2 es1 (SetTable.grown es1.size)).2.1
            pure (some true)
          else pure (some true)) (fun r s' => wpAny (model prog w) A (match r with | some added => pure added | none => setAddHashedIn a (.str k tk) ((PySem.strKind prog w).hash k) 99999) Q E s') E s := fun t2 f2 l2 p2 => by
      refine wpAny_bind (wpAny_storeSet_of ho hd ?_ (fits_of_scanBound (by omega)))
      have ho1 := store_at (es' := es1) (t' := t2) ho hd
      have sb1 := Heap.SameBut.update s.heap a (Obj.putSet es1 t2)
      split
      · have hp := relayAll_perm t2 es1 (SetTable.grown es1.size)
        have hfr := relayAll_fits t2 es1 (SetTable.grown es1.size)
        have hl2 := relay_led (t := t2) (es := es1) (n := SetTable.grown es1.size)
        have hp2 := relay_plain (t := t2) (es := es1) (n := SetTable.grown es1.size) p2
        generalize relayAll t2 es1 (SetTable.grown es1.size) = Rl at hp hfr hl2 hp2 ⊢
        obtain ⟨es2, t3, g2⟩ := Rl
        dsimp only at hp hfr hl2 hp2 ⊢
        have hsz2 : es2.size = es1.size := by rw [← Array.length_toList, hp.length_eq, Array.length_toList]
        refine wpAny_bind (gw _ ?_)
        refine wpAny_bind (wpAny_storeSet_of ho1 rfl ?_ (fits_of_scanBound (by omega)))
        refine wpAny_pure (wpAny_pure (h true _ es2 (ep + 1 + 1) t3 (sb1.trans (Heap.SameBut.update _ a _)) ⟨⟨_, store_at ho1 rfl, hex, rfl⟩, fun e he => hel1 e (hp.mem_iff.mp he), ((hp.map fun e => sOf e.2).nodup_iff).mpr hn1, by omega, hfr, by rw [hl2, l2, led], fun _ => hp2⟩ (hmem hp) (by omega)))
      · exact wpAny_pure (wpAny_pure (h true _ es1 (ep + 1) t2 sb1 ⟨⟨_, ho1, hex, rfl⟩, hel1, hn1, by omega, f2, by rw [l2, led], fun _ => p2⟩ (hmem (List.Perm.refl _)) (by omega)))
    split
    · rename_i hpl
      refine wpAny_bind ?_
      rw [hashByValue_scannable 8 hsc]
      refine wpAny_pure ?_
      exact tail { t1 with plain := false } (SetTable.fits_plain_off hfits) hled rfl
    · rename_i hpl
      refine wpAny_bind (wpAny_pure ?_)
      simp only [↓reduceIte]
      exact tail t1 hfits hled (by simpa using hpl)
end
section
variable {prog : Program} {w : World} {A : Around} {R : Result → Shared → Prop} {I : Addr} {fp wr : List Addr} {G : Array GenState → Array GenState → Prop} {n : Nat} {P : Nat → Value → Prop} {St : Nat → Shared → Prop}
theorem txs_loop (W : WalksS prog w A.in1 I fp wr G n P St) (S : Addr) (hSf : S ∉ fp) (val : Nat → Str) (hval : ∀ i v, P i v → ∃ t, v = .str (val i) t) (hb : n + 1 < scanBound) :
    ∀ (k i : Nat) (s : Shared) (es : Array (Int × Value)) (ep : Nat) (t : SetTable), n - i = k → i ≤ n → St i s → TxS prog w s.heap S es ep t → (∀ y, y ∈ es.toList.map (fun e => sOf e.2) ↔ ∃ j, j < i ∧ y = val j) → es.size ≤ i →
      (∀ s' es' ep' t', Moved (S :: wr) G s s' → TxS prog w s'.heap S es' ep' t' → (∀ y, y ∈ es'.toList.map (fun e => sOf e.2) ↔ ∃ j, j < n ∧ y = val j) → es'.size ≤ n → R (.ok (.ret .none)) s') →
      codeAny (model prog w) A (.builtin "set.update.loop" ⟨[.ref S, .ref I], []⟩) R s := by
  have hSw : S ∉ wr := fun h => hSf (W.sub _ h)
  have hsub : ∀ b ∈ wr, b ∈ S :: wr := fun b hb => List.mem_cons_of_mem _ hb
  intro k
  induction k with
  | zero =>
    intro i s es ep t hk hi hst hS hy hz hR
    obtain rfl : i = n := by omega
    refine codeAny_builtin F.entry_set_update_loop ?_
    rw [Around.under_plainId F.plain_set_update_loop _]
    refine wpAny_bind (m := pyNext (.ref I)) (W.done s _ _ hst fun s' hm => ?_)
    exact wpAny_pure (hR s' es ep t (hm.mono hsub) (hS.keep fun o e => hm.heap S o hSw e) hy hz)
  | succ k ih =>
    intro i s es ep t hk hi hst hS hy hz hR
    have hlt : i < n := by omega
    refine codeAny_builtin F.entry_set_update_loop ?_
    rw [Around.under_plainId F.plain_set_update_loop _]
    refine wpAny_bind (m := pyNext (.ref I)) (W.item i s _ _ hlt hst fun v s' hP hst' hm => ?_)
    obtain ⟨u, rfl⟩ := hval i v hP
    have hS' : TxS prog w s'.heap S es ep t := hS.keep fun o e => hm.heap S o hSw e
    refine wpAny_bind (m := holding [Value.str (val i) u] (setAdd S (.str (val i) u))) (wpAny_holding ?_)
    unfold setAdd
    refine wpAny_holding (wpAny_bind ((PySem.strKind prog w).pyHash (k := val i) (PySem.strKind_is _ _ _ _) ?_))
    refine txs_add (s := { s' with toks := s'.toks + 1 }) hS' (by omega) fun b h' es' ep' t' hsb hS2 hy2 hz2 => ?_
    refine wpAny_pure ⟨plainId_quiet F.plain_set_update_loop _, ih (i + 1) _ es' ep' t' (by omega) hlt (W.frame _ s' _ _ hst' (Nat.le_succ _) fun b hb o e => ?_) hS2 (fun y => ?_) (by omega) fun s'' es3 ep3 t3 hm3 hS3 hy3 hz3 => ?_⟩
    · rw [hsb.2 b (fun h : b = S => hSf (by rw [← h]; exact hb))]; exact e
    · rw [hy2 y, hy y]
      constructor
      · rintro (⟨j, hj, e⟩ | e)
        · exact ⟨j, by omega, e⟩
        · exact ⟨i, by omega, e⟩
      · rintro ⟨j, hj, e⟩
        by_cases hji : j < i
        · exact .inl ⟨j, hji, e⟩
        · have : j = i := by omega
          exact .inr (this ▸ e)
    · refine hR s'' es3 ep3 t3 (Moved.trans W.gtrans ((hm.mono hsub).then_heap (Nat.le_succ _) fun b o hb e => ?_) hm3) hS3 hy3 hz3
      rw [hsb.2 b (fun h : b = S => hb (by rw [h]; exact List.mem_cons_self))]; exact e
end
section
variable {prog : Program} {w : World} {A : Around} {E : Value → Shared → Prop} {s : Shared}
abbrev setO (w : World) : Obj := { cls := .type "set", dict := none, data := .set #[] 0 (.fresh 0 0 (!byTx w)) }
theorem txs_mk (x : Value) {Q : Value → Shared → Prop} (h : Q (.ref s.heap.objs.size) { s with heap := s.heap.push (setO w) }) : codeAny (model prog w) A (.call (.builtin "set.__new__") ⟨[.type "set", x], []⟩) (wants Q E) s := by
  refine codeAny_of_tree ?_
  refine wpAny_bind (m := checkBuiltinCall "set.__new__" ⟨[.type "set", x], []⟩) (wpAny_of_eq (F.newCall_set_1 x) (wpAny_pure ⟨plainId_quiet F.plain_set_new _, codeAny_builtin F.entry_set_new ?_⟩))
  rw [Around.under_plainId F.plain_set_new _]
  unfold Builtin.«set.__new__» Builtin.Frozenset.newClass
  have hsub := sub_set_self
  obtain ⟨hp, g, d, tk, os⟩ := s
  dsimp only
  wp_walk
  refine wpAny_askSetting (wpAny_pure ?_)
  dsimp only
  simp only [newObj]
  exact wpAny_bind (wpAny_alloc (wpAny_pure (wpAny_pure h)))
theorem txs_zero {h : Heap} {a : Addr} (e : h.get? a = some (setO w)) : TxS prog w h a #[] 0 (.fresh 0 0 (!byTx w)) :=
  ⟨⟨_, e, ⟨rfl, rfl, rfl⟩, rfl⟩, fun _ h => (nomatch h), List.nodup_nil, by decide, rfl, rfl, fun h => absurd rfl h⟩
set_option maxRecDepth 100000 in
set_option maxHeartbeats 3200000 in
/-- set(xs), xs a list of texts -/
theorem txs_call {l : Addr} {items : Array Value} {ss : List Str} {Q : Value → Shared → Prop} (hh : A.handled = none) (hl : s.heap.IsList l items) (hi : StrsAre items.toList ss) (hb : items.size + 1 < scanBound)
    (h : ∀ h' tk es ep t, TxS prog w h' s.heap.objs.size es ep t → (∀ y, y ∈ es.toList.map (fun e => sOf e.2) ↔ y ∈ ss) → es.size ≤ ss.length → (∀ b o, s.heap.get? b = some o → h'.get? b = some o) → Q (.ref s.heap.objs.size) { s with heap := h', toks := tk }) :
    wpAny (model prog w) A (call (.type "set") [.ref l]) Q E s := by
  have hlen : items.size = ss.length := by rw [← Array.length_toList]; exact hi.length
  obtain ⟨c, tl, hmro⟩ := F.called_set.mro
  have hmade := F.called_set.made
  have hsub := F.called_set.sub
  refine wpAny_call (codeAny_of_tree ?_)
  show wpAny _ _ (callAny (.type "set") ⟨[.ref l], []⟩) _ _ _
  refine wpAny_pure ⟨Code.quiet_builtin _ (by decide +kernel), codeAny_builtin F.entry_type_call ?_⟩
  rw [Around.under_plain (weight_type_call_type "set" [.ref l] []) rfl]
  have h1 := F.called_set.notType
  have h2 := F.called_set.canCreate
  have hct := F.typeCall_set_1 (.ref l)
  repeat (any_goals (first | assumption | wp_step))
  refine codeAny_mono (txs_mk (.ref l) (E := E) (Q := fun obj s₁ => obj = .ref s.heap.objs.size ∧ s₁ = { s with heap := s.heap.push (setO w) }) ⟨rfl, rfl⟩) fun r s₁ hr => ?_
  cases r with
  | error e => exact hr
  | ok fl =>
    cases fl with
    | ret obj =>
      obtain ⟨rfl, rfl⟩ := hr
      have hS : (s.heap.push (setO w)).get? s.heap.objs.size = some (setO w) := Heap.get?_push_size _ rfl
      have hT : Shared.TypeIs { s with heap := s.heap.push (setO w) } (.ref s.heap.objs.size) "set" := ⟨_, hS, rfl⟩
      have hli := F.called_set.init.lookup
      have hbi := F.called_set.init.bind (.ref s.heap.objs.size)
      repeat (any_goals (first | assumption | wp_step))
      refine codeAny_mono (codeAny_call_builtin (R := wants (fun r s₂ => r = .none ∧ ∃ h' tk es ep t, s₂ = { s with heap := h', toks := tk } ∧ TxS prog w h' s.heap.objs.size es ep t ∧ (∀ y, y ∈ es.toList.map (fun e => sOf e.2) ↔ y ∈ ss) ∧ es.size ≤ ss.length ∧ (∀ b o, s.heap.get? b = some o → h'.get? b = some o)) E) F.called_set.init.plain F.entry_set_init (check_set_init_1 hT ?_)) fun r₂ s₂ hr₂ => ?_
      · obtain ⟨ol, hol, hcl, nl, hdl⟩ := hl
        obtain ⟨ocls, odict, odata, oslots⟩ := ol
        simp only at hcl hdl
        subst hcl; subst hdl
        have hol' : (s.heap.push (setO w)).get? l = some { cls := .type "list", dict := odict, data := .seq items nl, slots := oslots } := Heap.get?_push_of_some _ hol
        have hsls := F.sub_list_set
        have hslf := F.sub_list_frozenset
        have hne : (Value.type "list" == Value.type "dict") = false := by decide
        have hl1 : (s.heap.push (setO w)).IsList l items := ⟨_, hol', rfl, nl, rfl⟩
        unfold Builtin.«set.__init__» noKeywords Builtin.Frozenset.updateFrom
        generalize hPI : pyIter = PI
        wp_walk
        subst hPI
        refine wpAny_pyIter_list hl1 (wpAny_bind (wpAny_runValue ?_))
        have hlS : l < s.heap.objs.size := Heap.lt_size hol
        have hh3 : A.in1.in1.in1.handled = none := by simp [hh]
        have hneI : l ≠ (s.heap.push (setO w)).objs.size := by rw [Heap.size_push]; exact Nat.ne_of_lt (Nat.lt_succ_of_lt hlS)
        have hSf : s.heap.objs.size ∉ [(s.heap.push (setO w)).objs.size, l] := by
          rw [Heap.size_push]; simp only [List.mem_cons, List.not_mem_nil, or_false, not_or]
          exact ⟨Nat.ne_of_lt (Nat.lt_succ_self _), Nat.ne_of_gt hlS⟩
        have hval : ∀ (i : Nat) (v : Value), items[i]? = some v → ∃ t, v = .str ((fun i => ss.getD i ⟨#[]⟩) i) t := fun i v hv => by
          have hv : items.toList[i]? = some v := by rw [Array.getElem?_toList]; exact hv
          have : ∀ {us : List Value} {ss : List Str}, StrsAre us ss → ∀ (i : Nat) (v : Value), us[i]? = some v → ∃ t, v = .str (ss.getD i ⟨#[]⟩) t := by
            intro us ss hu
            induction hu with
            | nil => intro i v e; cases e
            | cons x t _ ih =>
              intro i v e
              cases i with
              | zero => cases e; exact ⟨t, rfl⟩
              | succ i => exact ih i v (by simpa using e)
          exact this hi i v hv
        refine txs_loop ((Walks.list hh3 _ l hneI items).toS) s.heap.objs.size hSf (fun i => ss.getD i ⟨#[]⟩) hval hb (items.size - 0) 0 _ #[] 0 _ (by omega) (Nat.zero_le _)
          ⟨⟨_, Heap.get?_push_size _ rfl, rfl, rfl⟩, (hl1.push _)⟩ (txs_zero (Heap.get?_push_of_some _ hS)) (fun y => ⟨fun h => (nomatch h), fun ⟨j, hj, _⟩ => absurd hj (Nat.not_lt_zero _)⟩) (Nat.le_refl _) ?_
        intro s' es' ep' t' hm hS' hy hz
        obtain ⟨h', g', d', tk', os'⟩ := s'
        have eg : g' = s.gens := hm.gens
        have ed : d' = s.drawn := hm.drawn
        have eo : os' = s.os := hm.os
        subst eg; subst ed; subst eo
        show wpAny _ _ _ _ _ _
        refine wpAny_pure (wpAny_pure ⟨rfl, h', tk', es', ep', t', rfl, hS', fun y => ?_, by omega, fun b o e => ?_⟩)
        · rw [hy y]
          constructor
          · rintro ⟨j, hj, rfl⟩
            have : j < ss.length := by omega
            rw [List.getD_eq_getElem?_getD, List.getElem?_eq_getElem this]
            exact List.getElem_mem this
          · intro hy
            obtain ⟨j, hj, e⟩ := List.getElem_of_mem hy
            exact ⟨j, by omega, by rw [List.getD_eq_getElem?_getD, List.getElem?_eq_getElem hj]; exact e.symm⟩
        · have hb := Heap.lt_size e
          have hb1 : b ≠ s.heap.objs.size := Nat.ne_of_lt hb
          have hb2 : b ≠ (s.heap.push (setO w)).objs.size := by rw [Heap.size_push]; exact Nat.ne_of_lt (Nat.lt_succ_of_lt hb)
          exact hm.heap b o (by simp only [List.mem_cons, List.not_mem_nil, or_false, not_or]; exact ⟨hb1, hb2⟩) (Heap.get?_push_of_some _ (Heap.get?_push_of_some _ e))
      · cases r₂ with
        | error e => exact hr₂
        | ok fl₂ =>
          cases fl₂ with
          | ret r =>
            obtain ⟨rfl, h', tk, es, ep, t, rfl, hS', hy, hz, hk'⟩ := hr₂
            repeat (any_goals (first | assumption | wp_step))
            exact h _ _ _ _ _ hS' hy hz hk'
          | _ => exact hr₂.elim
    | _ => exact hr.elim
end
end DL

namespace DL
open PySem PySem.Spec PyProof.Rows L2
/-! ### a set of texts walked -/
namespace FS
theorem slot_next : Slot "set_iterator" "__next__" "set_iterator.__next__" :=
  .of (owner := "set_iterator") (n := "__next__") (by rw [typeLookup_type, builtinLookup_eq_fast]; kernel_rfl) (by decide +kernel) (by decide +kernel) (by decide +kernel) (by first | exact .inl (by decide +kernel) | exact .inr (by decide +kernel)) (by rw [isSubtype_type]; kernel_rfl)
theorem entry_next : entryFor table "set_iterator.__next__" = some Builtin.«set_iterator.__next__» := entryFor_of_tree (by kernel_rfl)
theorem owner_si : Manifest.owners.lookup (String.ofList ['r', 'o', 't', 'a', 'r', 'e', 't', 'i', '_', 't', 'e', 's'].reverse) = some Manifest.sig_set_iterator := by kernel_rfl
theorem args_next (a : Value) : argsOk "set_iterator.__next__" ⟨[a], []⟩ := by
  unfold argsOk
  rw [signature?_of (id := "set_iterator.__next__") (n := ['_', '_', 't', 'x', 'e', 'n', '_', '_']) (o := ['r', 'o', 't', 'a', 'r', 'e', 't', 'i', '_', 't', 'e', 's']) (by kernel_rfl) owner_si]
  kernel_rfl
theorem slot_self : Slot "set_iterator" "__iter__" "set_iterator.__iter__" :=
  .of (owner := "set_iterator") (n := "__iter__") (by rw [typeLookup_type, builtinLookup_eq_fast]; kernel_rfl) (by decide +kernel) (by decide +kernel) (by decide +kernel) (by first | exact .inl (by decide +kernel) | exact .inr (by decide +kernel)) (by rw [isSubtype_type]; kernel_rfl)
theorem entry_self : entryFor table "set_iterator.__iter__" = some Builtin.«dict_keyiterator.__iter__» :=
  entryFor_alias (id' := "dict_keyiterator.__iter__") (by kernel_rfl) (by first | rfl | decide +kernel | (unfold String.splitOn; simp +decide [String.splitOnAux])) (by decide +kernel) (by kernel_rfl)
theorem args_self (a : Value) : argsOk "set_iterator.__iter__" ⟨[a], []⟩ := by
  unfold argsOk
  rw [signature?_of (id := "set_iterator.__iter__") (n := ['_', '_', 'r', 'e', 't', 'i', '_', '_']) (o := ['r', 'o', 't', 'a', 'r', 'e', 't', 'i', '_', 't', 'e', 's']) (by kernel_rfl) owner_si]
  kernel_rfl
theorem entry_iter : entryFor table "set.__iter__" = some Builtin.«frozenset.__iter__» :=
  entryFor_alias (id' := "frozenset.__iter__") (by kernel_rfl) (by first | rfl | decide +kernel | (unfold String.splitOn; simp +decide [String.splitOnAux])) (by decide +kernel) (by kernel_rfl)
end FS
theorem erase_perm {α : Type} : ∀ {l : List α} {i : Nat} (h : i < l.length), (l[i] :: l.eraseIdx i).Perm l
  | x :: l, 0, h => List.Perm.refl _
  | x :: l, i + 1, h => by
    have h' : i < l.length := Nat.lt_of_succ_lt_succ h
    show (l[i] :: x :: l.eraseIdx i).Perm (x :: l)
    exact (List.Perm.swap _ _ _).trans (List.Perm.cons _ (erase_perm h'))
section
variable {prog : Program} {w : World} {A : Around} {E : Value → Shared → Prop} {s : Shared}
theorem wpAny_choose {n : Nat} {Q : Nat → Shared → Prop} (hn : n ≠ 0) (h : ∀ i d, i < n → Q i { s with drawn := d }) : wpAny (model prog w) A (choose .order n) Q E s := fun Γ p hΓ => by
  show Sem.wp (model prog w) Γ (.choose .order n _) _ _ p s
  rw [Sem.wp_choose]
  exact ⟨hn, h _ _ (Nat.mod_lt _ (Nat.pos_of_ne_zero hn))⟩
theorem drawOrder_ok {α : Type} : ∀ (n : Nat) (xs : List α) {s : Shared} {Q : List α → Shared → Prop}, n = xs.length → (∀ ys d, ys.Perm xs → Q ys { s with drawn := d }) → wpAny (model prog w) A (drawOrder n xs) Q E s
  | 0, xs, s, Q, e, h => by
    have : xs = [] := List.length_eq_zero_iff.mp e.symm
    subst this
    unfold drawOrder
    exact wpAny_pure (h [] s.drawn (List.Perm.refl _))
  | n + 1, [], s, Q, e, h => by cases e
  | n + 1, x :: xs, s, Q, e, h => by
    unfold drawOrder
    refine wpAny_bind (wpAny_choose (by simp) fun i d hi => ?_)
    have hi' : i < (x :: xs).length := hi
    rw [List.getElem?_eq_getElem hi']
    dsimp only
    refine wpAny_bind (drawOrder_ok n ((x :: xs).eraseIdx i) (by rw [List.length_eraseIdx_of_lt hi']; omega) fun ys d' hp => wpAny_pure (h _ d' ?_))
    exact (List.Perm.cons _ hp).trans (erase_perm hi')
end
theorem pick_perm {α : Type} (next : Nat → Nat) : ∀ (fuel k : Nat) (left : List α) (out : Array α), fuel = left.length → (pickOrder.go next fuel k left out).toList.Perm (out.toList ++ left)
  | 0, k, left, out, e => by
    have : left = [] := List.length_eq_zero_iff.mp e.symm
    subst this
    unfold pickOrder.go
    rw [List.append_nil]
  | n + 1, k, [], out, e => by cases e
  | n + 1, k, x :: left, out, e => by
    unfold pickOrder.go
    have hi : next k % (x :: left).length < (x :: left).length := Nat.mod_lt _ (Nat.succ_pos _)
    rw [List.getElem?_eq_getElem hi]
    dsimp only
    refine (pick_perm next n (k + 1) _ _ (by rw [List.length_eraseIdx_of_lt hi]; omega)).trans ?_
    rw [Array.toList_push, List.append_assoc]
    exact List.Perm.append_left _ (erase_perm hi)
/-- the iterator's record at turn i -/
def SiAt (h : Heap) (I S : Addr) (fst : Value) (i n ep : Nat) : Prop := h.get? I = some { cls := .type "set_iterator", dict := none, data := .fields #[fst, rawInt i, .ref S, rawInt n, rawInt ep], slots := #[] }
/-- the three roads: by the text's order, by a drawn order, one text by its place; vs: what comes -/
inductive Rd3 (w : World) (S : Addr) (es : Array (Int × Value)) (ep : Nat) (t : SetTable) : (Heap → Nat → Value → Prop) → List Value → Prop
  | text (hb : byTx w = true) : Rd3 w S es ep t (fun _ _ f => f = rawInt 0) ((pickOrder (w.params.setOrder S ep) es).toList.map (·.2))
  | drawn (hb : byTx w = false) (hs : es.size ≠ 0) (T : Addr) (ps : List Nat) (hp : ps.Perm (List.range es.size)) : Rd3 w S es ep t (fun h _ f => f = .ref T ∧ h.get? T = some { cls := .type "tuple", data := .seq (ps.map fun (i : Nat) => rawInt i).toArray }) (ps.filterMap fun i => (es[i]?).map (·.2))
  | one (hb : byTx w = false) (hs : es.size ≤ 1) : Rd3 w S es ep t (fun _ i f => f = rawInt (if i = 0 then 0 else ((t.place[0]?).getD 0 + 1 : Nat))) (es.toList.map (·.2))
theorem filterMap_get {α β : Type} {f : Nat → Option β} {ps : List Nat} (h : ∀ p ∈ ps, (f p).isSome = true) (i : Nat) : (ps.filterMap f)[i]? = (ps[i]?).bind f := by
  induction ps generalizing i with
  | nil => simp
  | cons p ps ih =>
    have hp := h p (List.mem_cons_self ..)
    cases e : f p with
    | none => rw [e] at hp; cases hp
    | some x =>
      rw [List.filterMap_cons, e]
      cases i with
      | zero => simp [e]
      | succ i => simpa using ih (fun q hq => h q (List.mem_cons_of_mem _ hq)) i
theorem below_zero (xs : Array Nat) : SetTable.below xs 0 = 0 := by
  unfold SetTable.below
  have : ∀ fuel hi, SetTable.below.go xs 0 fuel 0 hi = 0 := by
    intro fuel
    induction fuel with
    | zero => intro hi; rfl
    | succ n ih =>
      intro hi
      unfold SetTable.below.go
      split
      · rw [if_neg (Nat.not_lt_zero _)]; exact ih _
      · rfl
  exact this _ _
theorem below_one {xs : Array Nat} {j : Nat} (h : xs.size = 1) (e : xs[0]? = some j) : SetTable.below xs (j + 1) = 1 := by
  unfold SetTable.below
  rw [h]
  unfold SetTable.below.go
  have : xs.getD ((0 + 1) / 2) (j + 1) = j := by
    show xs.getD 0 (j + 1) = j
    rw [Array.getD_eq_getD_getElem?, e]; rfl
  rw [if_pos (by decide)]
  simp only
  rw [this, if_pos (Nat.lt_succ_self _)]
  rfl
section
variable {prog : Program} {w : World} {A : Around} {E : Value → Shared → Prop} {s : Shared} {I S : Addr} {es : Array (Int × Value)} {ep : Nat} {t : SetTable} {F : Heap → Nat → Value → Prop} {vs : List Value}
theorem rd3_len (R : Rd3 w S es ep t F vs) : vs.length = es.size := by
  cases R with
  | text hb =>
    rw [List.length_map]
    have := (pick_perm (w.params.setOrder S ep) es.size 0 es.toList #[] (by simp)).length_eq
    unfold pickOrder
    simpa using this
  | drawn hb hs T ps hp =>
    have h : ∀ p ∈ ps, ((es[p]?).map (·.2)).isSome = true := fun p h => by
      have := List.mem_range.mp (hp.mem_iff.mp h)
      rw [Array.getElem?_eq_getElem this]; rfl
    have e := hp.length_eq
    rw [List.length_range] at e
    rw [← e]
    clear e hp
    induction ps with
    | nil => rfl
    | cons p ps ih =>
      have hp := h p (List.mem_cons_self ..)
      cases e : (es[p]?).map (·.2) with
      | none => rw [e] at hp; cases hp
      | some x => rw [List.filterMap_cons, e, List.length_cons, List.length_cons, ih fun q hq => h q (List.mem_cons_of_mem _ hq)]
  | one hb hs => rw [List.length_map, Array.length_toList]
theorem rd3_perm (R : Rd3 w S es ep t F vs) : vs.Perm (es.toList.map (·.2)) := by
  cases R with
  | text hb =>
    refine List.Perm.map _ ?_
    have := pick_perm (w.params.setOrder S ep) es.size 0 es.toList #[] (by simp)
    unfold pickOrder
    simpa using this
  | drawn hb hs T ps hp =>
    refine (hp.filterMap _).trans ?_
    have : (List.range es.size).filterMap (fun i => (es[i]?).map (·.2)) = es.toList.map (·.2) := by
      apply List.ext_getElem?
      intro i
      rw [filterMap_get (α := Nat) (fun p h => by rw [Array.getElem?_eq_getElem (List.mem_range.mp h)]; rfl)]
      rw [List.getElem?_map]
      by_cases hi : i < es.size
      · rw [List.getElem?_range hi, Array.getElem?_toList]; rfl
      · rw [List.getElem?_eq_none (l := List.range es.size) (by rw [List.length_range]; omega), List.getElem?_eq_none (l := es.toList) (by rw [Array.length_toList]; omega)]; rfl
    rw [this]
  | one hb hs => exact List.Perm.refl _
theorem place_size (h : t.fits es.size = true) : t.place.size = es.size := by
  unfold SetTable.fits at h
  simp only [Bool.and_eq_true, beq_iff_eq] at h
  exact h.1
theorem byText_ok {Q : Bool → Shared → Prop} (h : Q (byTx w) s) : wpAny (model prog w) A setsByText Q E s := by
  unfold setsByText
  exact wpAny_bind (wpAny_askSetting (wpAny_pure h))
theorem next_text (X : TxS prog w s.heap S es ep t) (hb : byTx w = true) {sl g : Nat} {Q : Option (Value × Nat) → Shared → Prop} (h : Q (((pickOrder (w.params.setOrder S ep) es)[g]?).map fun e => (e.2, sl)) s) : wpAny (model prog w) A (setNext S sl g ep) Q E s := by
  obtain ⟨o, ho, hex, hd⟩ := X.ob
  unfold setNext
  refine wpAny_bind (wpAny_setState_of ho hd X.fit (wpAny_bind (byText_ok ?_)))
  rw [hb, if_pos rfl, if_neg (by simp)]
  unfold setWalk
  refine wpAny_bind (wpAny_bind (wpAny_setState_of ho hd X.fit (wpAny_bind (byText_ok ?_))))
  rw [hb, if_pos rfl]
  exact wpAny_bind (wpAny_askSetting (wpAny_pure (wpAny_pure h)))
theorem next_one (X : TxS prog w s.heap S es ep t) (hb : byTx w = false) (hs : es.size ≤ 1) {sl g : Nat} {Q : Option (Value × Nat) → Shared → Prop}
    (h : Q (match es[SetTable.below t.place sl]?, t.place[SetTable.below t.place sl]? with | some (_, x), some j => some (x, j + 1) | _, _ => none) s) : wpAny (model prog w) A (setNext S sl g ep) Q E s := by
  obtain ⟨o, ho, hex, hd⟩ := X.ob
  have hl : t.led = true := by rw [X.led, hb]; rfl
  unfold setNext
  refine wpAny_bind (wpAny_setState_of ho hd X.fit (wpAny_bind (byText_ok ?_)))
  rw [hb, if_neg Bool.false_ne_true]
  dsimp only
  have hdr : ¬ (!t.plain && decide (es.size > 1)) = true := by rw [decide_eq_false (by omega), Bool.and_false]; exact Bool.false_ne_true
  refine wpAny_ite_split (fun z => absurd z hdr) fun _ => wpAny_bind ?_
  show wpAny _ _ (if (!t.led && !es.isEmpty) = true then unsupported "set:maker-not-led" else pure ()) _ _ _
  rw [hl, if_neg (by simp)]
  exact wpAny_pure (wpAny_pure h)
set_option maxHeartbeats 1000000 in
theorem snext (R : Rd3 w S es ep t F vs) (X : TxS prog w s.heap S es ep t) {i : Nat} {f v : Value} (hI : SiAt s.heap I S f i es.size ep) (hF : F s.heap i f) (hv : vs[i]? = some v) {Q : Option Value → Shared → Prop}
    (q : ∀ h' f', SiAt h' I S f' (i + 1) es.size ep → (∀ h'' : Heap, (∀ b o, b ≠ I → s.heap.get? b = some o → h''.get? b = some o) → F h'' (i + 1) f') → Heap.SameBut I s.heap h' → Q (some v) { s with heap := h' }) :
    wpAny (model prog w) A (pyNext (.ref I)) Q E s := by
  obtain ⟨o, ho, hex, hd⟩ := X.ob
  have hT : s.TypeIs (.ref I) "set_iterator" := ⟨_, hI, rfl⟩
  have hIS : S ≠ I := fun e => by rw [e, hI] at ho; cases ho; cases hd
  have hlen := rd3_len R
  have hi : i < es.size := by rw [← hlen]; exact (List.getElem?_eq_some_iff.mp hv).1
  unfold pyNext
  refine wpAny_bind (wpAny_attempt (wpAny_callSpecial?_slot (name := Str.ofString "__next__") hT FS.slot_next (wpAny_call_entry FS.slot_next hT FS.entry_next ?_ (FS.args_next _))))
  unfold Builtin.«set_iterator.__next__»
  refine wpAny_bind (m := slotArgs "__next__" 0 _) (wpAny_pure ?_)
  refine wpAny_bind (wpAny_fieldsOf hI rfl ?_)
  dsimp only
  refine wpAny_bind (m := setEntries S) (wpAny_bind (wpAny_setState_of ho hd X.fit (wpAny_pure ?_)))
  rw [if_neg (by simp)]
  cases R with
  | text hb =>
    subst hF
    refine wpAny_bind (m := setNext S (0 : Int).toNat (i : Int).toNat (ep : Int).toNat) (next_text X hb ?_)
    have e : (pickOrder (w.params.setOrder S ep) es)[(i : Int).toNat]? = (pickOrder (w.params.setOrder S ep) es).toList[i]? := by rw [Array.getElem?_toList]; rfl
    rw [List.getElem?_map] at hv
    rw [e]
    cases z : (pickOrder (w.params.setOrder S ep) es).toList[i]? with
    | none => rw [z] at hv; cases hv
    | some p =>
      rw [z] at hv
      obtain rfl : p.2 = v := Option.some.inj hv
      refine wpAny_bind (wpAny_setField_rec hI (by simp) fun h1 e1 s1 => wpAny_bind (wpAny_setField_rec e1 (by simp) fun h2 e2 s2 => wpAny_pure ⟨_, rfl, wpAny_pure (q h2 (rawInt 0) e2 (fun _ _ => rfl) (s1.trans s2))⟩))
  | drawn hb hs T ps hp =>
    obtain ⟨rfl, hT'⟩ := hF
    have hTI : T ≠ I := fun e => by rw [e, hI] at hT'; have h9 := congrArg Obj.cls (Option.some.inj hT'); simp at h9
    refine wpAny_bind (m := seqItems? (.ref T)) (wpAny_seqItems hT' rfl ?_)
    dsimp only
    have hpl : ps.length = es.size := by rw [hp.length_eq, List.length_range]
    have hpi : i < ps.length := by omega
    have e : ((ps.map fun (i : Nat) => rawInt i).toArray)[(i : Int).toNat]? = some (rawInt (ps[i] : Nat)) := by
      show ((ps.map fun (i : Nat) => rawInt i).toArray)[i]? = _
      rw [List.getElem?_toArray, List.getElem?_map, List.getElem?_eq_getElem hpi]; rfl
    rw [e]
    have hin : ps[i] < es.size := List.mem_range.mp (hp.mem_iff.mp (List.getElem_mem hpi))
    have hvv : v = es[ps[i]].2 := by
      rw [filterMap_get (α := Nat) (fun p h => by rw [Array.getElem?_eq_getElem (List.mem_range.mp (hp.mem_iff.mp h))]; rfl), List.getElem?_eq_getElem hpi] at hv
      have hv : (es[ps[i]]?).map (·.2) = some v := hv
      rw [Array.getElem?_eq_getElem hin] at hv
      exact (Option.some.inj hv).symm
    refine wpAny_bind (m := setNextDrawn S ((ps[i] : Nat) : Int).toNat (ep : Int).toNat) ?_
    unfold setNextDrawn
    refine wpAny_bind (wpAny_setState_of ho hd X.fit ?_)
    dsimp only
    rw [if_neg (by simp)]
    rw [show es[((ps[i] : Nat) : Int).toNat]? = some es[ps[i]] from Array.getElem?_eq_getElem hin]
    refine wpAny_pure ?_
    refine wpAny_bind (wpAny_setField_rec hI (by simp) fun h1 e1 s1 => wpAny_pure ⟨_, rfl, wpAny_pure ?_⟩)
    show Q (some es[ps[i]].2) _
    rw [← hvv]
    exact q h1 (.ref T) e1 (fun h'' k => ⟨rfl, k _ _ hTI hT'⟩) s1
  | one hb hs =>
    have hz : i = 0 := by omega
    subst hz
    subst hF
    refine wpAny_bind (m := setNext S (0 : Int).toNat (0 : Int).toNat (ep : Int).toNat) (next_one X hb hs ?_)
    rw [show (0 : Int).toNat = 0 from rfl, below_zero]
    have hps := place_size X.fit
    rw [Array.getElem?_eq_getElem (show 0 < es.size by omega), Array.getElem?_eq_getElem (show 0 < t.place.size by omega)]
    rw [List.getElem?_map, Array.getElem?_toList, Array.getElem?_eq_getElem (show 0 < es.size by omega)] at hv
    obtain rfl : es[0].2 = v := Option.some.inj hv
    refine wpAny_bind (wpAny_setField_rec hI (by simp) fun h1 e1 s1 => wpAny_bind (wpAny_setField_rec e1 (by simp) fun h2 e2 s2 => wpAny_pure ⟨_, rfl, wpAny_pure (q h2 (rawInt ((t.place[0]?).getD 0 + 1 : Nat)) ?_ (fun _ _ => rfl) (s1.trans s2))⟩))
    rw [Array.getElem?_eq_getElem (show 0 < t.place.size by omega)]
    exact e2
/-- StopIteration is made and thrown -/
theorem stop_thrown {α : Type} {Q : α → Shared → Prop} (a0 : A.handled = none) (q : ∀ h' e, (∀ b o, s.heap.get? b = some o → h'.get? b = some o) → (∃ o, h'.get? e = some o ∧ o.cls = .type "StopIteration") → E (.ref e) { s with heap := h' }) :
    wpAny (model prog w) A (do raiseNew (α := α) (← newExc (.type "StopIteration") [])) Q E s := by
  refine wpAny_bind ?_
  simp only [newExc, newTuple]
  refine wpAny_bind (wpAny_newObj_type ?_ (by size_fits))
  refine wpAny_bind (m := firstArgMember _ _) (wpAny_of_eq (a := Value.none) (by first | rfl | (simp only [firstArgMember]; rfl)) ?_)
  refine wpAny_newObj_type ?_ (by size_fits)
  simp only [raiseNew]
  refine wpAny_bind (wpAny_handled ?_)
  rw [a0]
  exact wpAny_bind (wpAny_pure (wpAny_throw (q _ _ (fun b o e => Heap.get?_push_of_some _ (Heap.get?_push_of_some _ e)) ⟨_, Heap.get?_push_size _ rfl, rfl⟩)))
set_option maxHeartbeats 1000000 in
theorem sstop (a0 : A.handled = none) (R : Rd3 w S es ep t F vs) (X : TxS prog w s.heap S es ep t) {f : Value} (hI : SiAt s.heap I S f es.size es.size ep) (hF : F s.heap es.size f) {Q : Option Value → Shared → Prop}
    (q : ∀ h', (∀ b o, b ≠ I → s.heap.get? b = some o → h'.get? b = some o) → Q none { s with heap := h' }) :
    wpAny (model prog w) A (pyNext (.ref I)) Q E s := by
  obtain ⟨o, ho, hex, hd⟩ := X.ob
  have hT : s.TypeIs (.ref I) "set_iterator" := ⟨_, hI, rfl⟩
  have hlen := rd3_len R
  have a1 : A.in1.handled = none := a0
  unfold pyNext
  have fin : ∀ (g : Heap) (e : Addr), (∀ b o, b ≠ I → s.heap.get? b = some o → g.get? b = some o) → (∃ o, g.get? e = some o ∧ o.cls = .type "StopIteration") →
      wpAny (model prog w) A (do if ← isInstance (.ref e) (.type "StopIteration") then pure (none : Option Value) else throw (.ref e)) Q E { s with heap := g } := fun g e kk ⟨oe, h1, h2⟩ =>
    wpAny_bind (wpAny_isInstance (T := "StopIteration") (b := true) ⟨oe, h1, h2⟩ isSubtype_stop (wpAny_pure (q _ kk)))
  refine wpAny_bind (wpAny_attempt (wpAny_callSpecial?_slot (name := Str.ofString "__next__") hT FS.slot_next (wpAny_call_entry FS.slot_next hT FS.entry_next ?_ (FS.args_next _))))
  unfold Builtin.«set_iterator.__next__»
  refine wpAny_bind (m := slotArgs "__next__" 0 _) (wpAny_pure ?_)
  refine wpAny_bind (wpAny_fieldsOf hI rfl ?_)
  dsimp only
  refine wpAny_bind (m := setEntries S) (wpAny_bind (wpAny_setState_of ho hd X.fit (wpAny_pure ?_)))
  rw [if_neg (by simp)]
  cases R with
  | text hb =>
    subst hF
    rw [List.length_map] at hlen
    refine wpAny_bind (m := setNext S (0 : Int).toNat (es.size : Int).toNat (ep : Int).toNat) (next_text X hb ?_)
    rw [show (pickOrder (w.params.setOrder S ep) es)[(es.size : Int).toNat]? = none from Array.getElem?_eq_none (by rw [← Array.length_toList, hlen]; exact Nat.le_refl _)]
    refine wpAny_bind (wpAny_setField_rec hI (by simp) fun h1 e1 s1 => stop_thrown (s := { s with heap := h1 }) a1 fun h' e k he => fin h' e (fun b o n x => k _ _ (s1.extBut _ _ n x)) he)
  | drawn hb hs T ps hp =>
    obtain ⟨rfl, hT'⟩ := hF
    refine wpAny_bind (m := seqItems? (.ref T)) (wpAny_seqItems hT' rfl ?_)
    dsimp only
    have hpl : ps.length = es.size := by rw [hp.length_eq, List.length_range]
    rw [show ((ps.map fun (i : Nat) => rawInt i).toArray)[(es.size : Int).toNat]? = none from Array.getElem?_eq_none (by rw [List.size_toArray, List.length_map, hpl]; exact Nat.le_refl _)]
    refine wpAny_bind (wpAny_setField_rec hI (by simp) fun h1 e1 s1 => wpAny_bind (wpAny_setField_rec e1 (by simp) fun h2 e2 s2 => stop_thrown (s := { s with heap := h2 }) a1 fun h' e k he => fin h' e (fun b o n x => k _ _ (s2.extBut _ _ n (s1.extBut _ _ n x))) he))
  | one hb hs =>
    subst hF
    have hps := place_size X.fit
    have hn : es[SetTable.below t.place (if es.size = 0 then 0 else ((t.place[0]?).getD 0 + 1 : Nat))]? = none := by
      by_cases hz : es.size = 0
      · rw [if_pos hz, below_zero]; exact Array.getElem?_eq_none (by omega)
      · rw [if_neg hz]
        have h1 : t.place.size = 1 := by omega
        rw [Array.getElem?_eq_getElem (show 0 < t.place.size by omega)]
        show es[SetTable.below t.place (t.place[0] + 1)]? = none
        rw [below_one h1 (Array.getElem?_eq_getElem (by omega))]
        exact Array.getElem?_eq_none (by omega)
    have ec : rawInt ((if es.size = 0 then 0 else ((t.place[0]?).getD 0 + 1 : Nat)) : Int) = rawInt ((if es.size = 0 then 0 else ((t.place[0]?).getD 0 + 1 : Nat) : Nat) : Int) := by
      by_cases hz : es.size = 0
      · rw [if_pos hz, if_pos hz]; rfl
      · rw [if_neg hz, if_neg hz]
    rw [ec] at hI ⊢
    generalize (if es.size = 0 then 0 else ((t.place[0]?).getD 0 + 1 : Nat) : Nat) = sl at hn hI ⊢
    refine wpAny_bind (m := setNext S (sl : Int).toNat (es.size : Int).toNat (ep : Int).toNat) (next_one X hb hs ?_)
    rw [Int.toNat_natCast, hn]
    refine wpAny_bind (wpAny_setField_rec hI (by simp) fun h1 e1 s1 => stop_thrown (s := { s with heap := h1 }) a1 fun h' e k he => fin h' e (fun b o n x => k _ _ (s1.extBut _ _ n x)) he)
theorem siter (X : TxS prog w s.heap S es ep t) {Q : Value → Shared → Prop}
    (q : ∀ h' d I f F vs, Rd3 w S es ep t F vs → SiAt h' I S f 0 es.size ep → F h' 0 f → s.heap.objs.size ≤ I → (∀ b o, s.heap.get? b = some o → h'.get? b = some o) → (∀ b, s.heap.objs.size ≤ b → ∀ o, h'.get? b = some o → b ≤ I) → Q (.ref I) { s with heap := h', drawn := d }) :
    wpAny (model prog w) A (pyIter (.ref S)) Q E s := by
  obtain ⟨o, ho, hex, hd⟩ := X.ob
  have hT : s.TypeIs (.ref S) "set" := ⟨o, ho, hex.1⟩
  refine wpAny_pyIter_slot hT PySem.F.slot_set_iter (wpAny_call_entry PySem.F.slot_set_iter hT FS.entry_iter ?_ (PySem.F.args_set_iter_1 _))
  unfold Builtin.«frozenset.__iter__»
  refine wpAny_bind (m := Builtin.Frozenset.slot0 "__iter__" _) (wpAny_pure ?_)
  refine wpAny_bind (m := Builtin.Frozenset.sizeOf S) (wpAny_bind (m := setEntries S) (wpAny_bind (wpAny_setState_of ho hd X.fit (wpAny_pure (wpAny_pure ?_)))))
  refine wpAny_bind (m := setDrawn S) (wpAny_bind (wpAny_setState_of ho hd X.fit (wpAny_bind (byText_ok (wpAny_pure ?_)))))
  dsimp only
  have tail : ∀ (h1 : Heap) (d : Drawn) (f : Value) (F : Heap → Nat → Value → Prop) (vs : List Value), Rd3 w S es ep t F vs → (∀ o : Obj, F (h1.push o) 0 f) → s.heap.objs.size ≤ h1.objs.size → (∀ b o, s.heap.get? b = some o → h1.get? b = some o) →
      wpAny (model prog w) A.in1 (do ret (← newFields "set_iterator" [f, rawInt 0, .ref S, rawInt es.size, rawInt (← setEpoch S)]))
        (fun fin s' => ∃ v, fin = Fin.done (Flow.ret v) ∧ ∃ T' r, s'.TypeIs v T' ∧ typeLookup (.type T') "__next__" = pure (some r) ∧ Q v s') E { s with heap := h1, drawn := d } := fun h1 d f F vs R hF hz hk => by
    refine wpAny_bind (wpAny_setEpoch_of (s := { s with heap := h1, drawn := d }) (hk _ _ ho) hd X.fit ?_)
    refine wpAny_bind (wpAny_newObj_type ?_)
    refine wpAny_pure ⟨_, rfl, "set_iterator", _, ⟨_, Heap.get?_push_size _ rfl, rfl⟩, FS.slot_next.lookup, ?_⟩
    exact q _ d h1.objs.size f F vs R (Heap.get?_push_size _ rfl) (hF _) hz (fun b o e => Heap.get?_push_of_some _ (hk b o e)) fun b _ o e => by
      have := Heap.lt_size e
      rw [Heap.size_push] at this
      exact Nat.le_of_lt_succ this
  cases hb : byTx w with
  | true =>
    refine wpAny_ite_split (fun z => by simp at z) fun _ => ?_
    exact wpAny_bind (wpAny_pure (tail s.heap s.drawn _ _ _ (.text hb) (fun _ => rfl) (Nat.le_refl _) fun b o e => e))
  | false =>
    by_cases hs : es.size ≤ 1
    · have hdr : ¬ (!t.plain && decide (es.size > 1)) = true := by rw [decide_eq_false (by omega), Bool.and_false]; exact Bool.false_ne_true
      refine wpAny_ite_split (fun z => absurd (Bool.and_eq_true_iff.mp z).2 hdr) fun _ => ?_
      exact wpAny_bind (wpAny_pure (tail s.heap s.drawn _ _ _ (.one hb hs) (fun _ => rfl) (Nat.le_refl _) fun b o e => e))
    · have hdr : (!t.plain && decide (es.size > 1)) = true := by rw [X.pl (by omega), decide_eq_true (show es.size > 1 by omega)]; rfl
      refine wpAny_ite_split (fun _ => ?_) fun z => absurd (show (!false && _) = true from hdr) z
      refine wpAny_bind (drawOrder_ok _ _ (by rw [List.length_range]) fun ys d hp => ?_)
      refine wpAny_bind (wpAny_newTuple ?_ (by rw [List.length_map, hp.length_eq, List.length_range]; exact Nat.le_trans (Nat.le_of_lt X.few) (by decide)))
      · exact tail _ d _ _ _ (.drawn hb (by omega) s.heap.objs.size ys hp) (fun _ => ⟨rfl, Heap.get?_push_of_some _ (Heap.get?_push_size _ rfl)⟩) (by rw [Heap.size_push]; exact Nat.le_succ _) fun b o e => Heap.get?_push_of_some _ e
end
end DL

namespace DL
open PySem PySem.Spec PyProof.Rows L2
/-! ### sorted(set(xs)), xs a list of texts -/
section
variable {prog : Program} {w : World} {A : Around} {E : Value → Shared → Prop} {s : Shared} {I S : Addr} {es : Array (Int × Value)} {ep : Nat} {t : SetTable} {F : Heap → Nat → Value → Prop} {vs : List Value}
theorem rd3_fx (R : Rd3 w S es ep t F vs) : ∃ fx : List Addr, (∀ h h' i f, (∀ b ∈ fx, ∀ o, h.get? b = some o → h'.get? b = some o) → F h i f → F h' i f) ∧ ∀ h i f, F h i f → ∀ b ∈ fx, ∃ o, h.get? b = some o ∧ o.cls = .type "tuple" := by
  cases R with
  | text hb => exact ⟨[], fun _ _ _ _ _ h => h, fun _ _ _ _ _ h => (nomatch h)⟩
  | drawn hb hs T ps hp => exact ⟨[T], fun h h' i f k x => ⟨x.1, k T (by simp) _ x.2⟩, fun h i f x b hb => by rw [List.mem_singleton.mp hb]; exact ⟨_, x.2, rfl⟩⟩
  | one hb hs => exact ⟨[], fun _ _ _ _ _ h => h, fun _ _ _ _ _ h => (nomatch h)⟩
theorem pyIter_si {f : Value} {i n : Nat} (hI : SiAt s.heap I S f i n ep) {Q : Value → Shared → Prop} (q : Q (.ref I) s) : wpAny (model prog w) A (pyIter (.ref I)) Q E s := by
  have hT : s.TypeIs (.ref I) "set_iterator" := ⟨_, hI, rfl⟩
  refine wpAny_pyIter_slot hT FS.slot_self (wpAny_call_entry FS.slot_self hT FS.entry_self ?_ (FS.args_self _))
  show wpAny _ _ (ret (.ref I)) _ _ s
  exact wpAny_pure ⟨_, rfl, "set_iterator", _, hT, FS.slot_next.lookup, q⟩
theorem swalks (a0 : A.handled = none) (R : Rd3 w S es ep t F vs) {fx : List Addr} (k1 : ∀ h h' i f, (∀ b ∈ fx, ∀ o, h.get? b = some o → h'.get? b = some o) → F h i f → F h' i f)
    (k2 : ∀ h i f, F h i f → ∀ b ∈ fx, ∃ o, h.get? b = some o ∧ o.cls = .type "tuple") :
    Walks prog w A I (I :: S :: fx) [I] es.size (fun i v => vs[i]? = some v) (fun i h => TxS prog w h S es ep t ∧ ∃ f, SiAt h I S f i es.size ep ∧ F h i f) where
  sub := fun b hb => by rw [List.mem_singleton.mp hb]; exact List.mem_cons_self ..
  frame := fun i h h' ⟨X, f, hI, hF⟩ k => ⟨X.keep fun o e => k S (by simp) o e, f, k I (by simp) _ hI, k1 h h' i f (fun b hb o e => k b (by simp [hb]) o e) hF⟩
  item := fun i s Q E hi ⟨X, f, hI, hF⟩ hQ => by
    have hlen := rd3_len R
    have hv : vs[i]? = some vs[i] := List.getElem?_eq_getElem (by omega)
    obtain ⟨o, ho, hex, hd⟩ := X.ob
    have hIS : S ≠ I := fun e => by rw [e, hI] at ho; cases ho; cases hd
    refine snext R X hI hF hv fun h' f' e1 e2 sb => hQ vs[i] h' s.toks hv ⟨X.keep fun o e => sb.extBut _ _ hIS e, f', e1, e2 h' fun b o n e => sb.extBut _ _ n e⟩ fun b o hb e => sb.extBut _ _ (fun z => hb (by simp [z])) e
  done := fun s Q E ⟨X, f, hI, hF⟩ hQ => sstop a0 R X hI hF fun h' k => hQ h' s.toks fun b o hb e => k b o (fun z => hb (by simp [z])) e
  self := fun i s Q E ⟨X, f, hI, hF⟩ hQ => pyIter_si hI hQ
theorem shint (hT : s.TypeIs (.ref S) "set") {Q : Bool → Shared → Prop} (h : Q false s) : wpAny (model prog w) A (Builtin.List.listLengthHint (.ref S)) Q E s := by
  unfold Builtin.List.listLengthHint
  refine wpAny_bind (wpAny_specialOf hT PySem.F.slot_set_len.lookup ?_)
  generalize hid : ("set.__len__" : String) = id0
  wp_delta
  rw [show splitId id0 = some ("set", "__len__") from by subst hid; decide +kernel]
  subst hid
  refine wpAny_bind (wpAny_isInstance (T := "set") (b := true) hT (by rw [isSubtype_type]; kernel_rfl) ?_)
  refine wpAny_ite_split (fun z => absurd z (by decide)) fun _ => wpAny_ite_split (fun _ => ?_) fun z => absurd (by decide +kernel) z
  exact wpAny_bind (wpAny_typeOf hT (wpAny_pure h))
set_option maxHeartbeats 2000000 in
theorem scollect (a0 : A.handled = none) (X : TxS prog w s.heap S es ep t) {Q : List Value → Shared → Prop}
    (q : ∀ h' d tk (ys : List Value), ys.Perm (es.toList.map (·.2)) → (∀ b o, s.heap.get? b = some o → h'.get? b = some o) → Q ys { s with heap := h', drawn := d, toks := tk }) : wpAny (model prog w) A (collect (.ref S)) Q E s := by
  obtain ⟨o, ho, hex, hd⟩ := X.ob
  have hSL : S ≠ s.heap.objs.size := Nat.ne_of_lt (Heap.lt_size ho)
  have hn : es.size ≤ sizeLine := Nat.le_trans (Nat.le_of_lt X.few) (by decide)
  unfold collect
  refine wpAny_bind (wpAny_runValue (codeAny_builtin entry_proto_collect' ?_))
  rw [Around.under_plainId PySem.F.plain_proto_collect _]
  show wpAny _ A.in1 (newList [] >>= fun l => again (.builtin "list.__iadd__" ⟨[l, .ref S], []⟩)) _ _ s
  refine wpAny_bind (wpAny_newObj_type (wpAny_pure ⟨plainId_quiet PySem.F.plain_list_iadd _, codeAny_builtin entry_list_iadd' ?_⟩))
  rw [Around.under_plainId PySem.F.plain_list_iadd _]
  have hL : (s.heap.push { cls := .type "list", data := .seq ([] : List Value).toArray }).get? s.heap.objs.size = some { cls := .type "list", data := .seq #[] } := Heap.get?_push_size _ rfl
  have X1 : TxS prog w (s.heap.push { cls := .type "list", data := .seq ([] : List Value).toArray }) S es ep t := X.keep fun o e => Heap.get?_push_of_some _ e
  have hT : Shared.TypeIs { s with heap := s.heap.push { cls := .type "list", data := .seq ([] : List Value).toArray } } (.ref S) "set" := ⟨o, Heap.get?_push_of_some _ ho, hex.1⟩
  show wpAny _ A.in1 (Builtin.List.listExtendWith (.ref s.heap.objs.size) (.ref S) (.ref s.heap.objs.size)) _ _ _
  unfold Builtin.List.listExtendWith
  refine wpAny_bind (wpAny_typeOf hT ?_)
  have h1 : Builtin.List.listSameRef (.ref s.heap.objs.size) (.ref S) = false := by simp [Builtin.List.listSameRef, Ne.symm hSL]
  have n1 : (Value.type "set" == Value.type "list") = false := by decide
  have n2 : (Value.type "set" == Value.type "tuple") = false := by decide
  simp only [h1, n1, n2, Bool.or_false, Bool.false_eq_true, if_false]
  refine wpAny_bind (siter (s := { s with heap := s.heap.push { cls := .type "list", data := .seq ([] : List Value).toArray } }) X1 fun h' d I f F vs R hI hF hge hk hle => ?_)
  obtain ⟨fx, k1, k2⟩ := rd3_fx R
  have hL' := hk _ _ hL
  have X2 : TxS prog w h' S es ep t := X1.keep fun o e => hk _ _ e
  refine wpAny_bind (wpAny_holding (shint (s := { s with heap := h', drawn := d }) ⟨o, hk _ _ (Heap.get?_push_of_some _ ho), hex.1⟩ ?_))
  have hge : s.heap.objs.size < I := by rw [Heap.size_push] at hge; exact hge
  have hLf : s.heap.objs.size ∉ I :: S :: fx := fun hm => by
    rcases List.mem_cons.mp hm with e | hm
    · exact Nat.lt_irrefl _ (e ▸ hge)
    · rcases List.mem_cons.mp hm with e | hm
      · exact hSL e.symm
      · obtain ⟨oo, e1, e2⟩ := k2 _ _ _ hF _ hm
        rw [hL'] at e1
        cases e1
        simp at e2
  have a2 : A.in1.handled = none := a0
  have key : ∀ (h2 : Heap) (c : Nat), (∀ b o, b ≠ s.heap.objs.size → h'.get? b = some o → h2.get? b = some o) → h2.get? s.heap.objs.size = some { cls := .type "list", data := .seq #[] c } →
      codeAny (model prog w) A (.builtin "list.extend.loop" ⟨[.ref s.heap.objs.size, .ref I, .ref s.heap.objs.size], []⟩) (fun r s' => match r with
        | .ok (.ret v) => wpAny (model prog w) A (match v with | .ref a => (do match (← load a).data with | .seq xs _ => pure xs.toList | _ => unsupported "internal:collect") | _ => unsupported "internal:collect") Q E s'
        | .ok _ => False
        | .error e => E e s') { s with heap := h2, drawn := d } := fun h2 c hk2 hL2 => by
    refine codeAny_extend_loopS ((swalks a2 R k1 k2).toS) hn s.heap.objs.size hLf (.ref s.heap.objs.size) es.size 0 _ #[] c rfl (Nat.zero_le _) ⟨X2.keep fun o e => hk2 _ _ hSL e, f, hk2 _ _ (Nat.ne_of_gt hge) hI, k1 _ _ _ _ (fun b hb o e => hk2 b o (fun z => hLf (by rw [← z]; simp [hb])) e) hF⟩ hL2 (ItemsOf.nil _) fun s' acc c' hm hS' hacc => ?_
    refine wpAny_bind (wpAny_load hS' (wpAny_pure ?_))
    rw [Moved.eq_with hm]
    have hv : acc.toList = vs := by
      apply List.ext_getElem?
      intro j
      have hl := rd3_len R
      by_cases hj : j < es.size
      · have hja : j < acc.size := by rw [hacc.1]; exact hj
        have e1 : acc.toList[j]? = some acc[j] := by rw [Array.getElem?_toList]; exact Array.getElem?_eq_getElem hja
        rw [e1, hacc.2 j acc[j] (by rw [← Array.getElem?_toList]; exact e1)]
      · rw [List.getElem?_eq_none (by rw [Array.length_toList, hacc.1]; omega), List.getElem?_eq_none (by omega)]
    rw [hv]
    refine q s'.heap d s'.toks vs (rd3_perm R) fun b o e => hm.heap b o (fun z => ?_) (hk2 b o (Nat.ne_of_lt (Heap.lt_size e)) (hk b o (Heap.get?_push_of_some _ e)))
    have hb := Heap.lt_size e
    rcases List.mem_cons.mp z with z | z
    · exact Nat.lt_irrefl _ (z ▸ hb)
    · have z := List.mem_singleton.mp z
      rw [z] at hb
      exact Nat.lt_asymm hb hge
  refine wpAny_ite_split (fun _ => ?_) fun z => absurd (by decide) z
  refine wpAny_bind (wpAny_rule (wpAny_bind ?_))
  show wpAny _ _ (updateSeq s.heap.objs.size (·.push .none) >>= fun _ => updateSeq s.heap.objs.size (·.pop)) _ _ _
  refine wpAny_bind (wpAny_updateSeq hL' rfl ?_)
  have hL2 := Heap.get?_update_self (Obj.mapSeq (·.push Value.none)) hL' rfl
  refine wpAny_updateSeq (hz := by seq_fits) hL2 rfl ?_
  have hL3 := Heap.get?_update_self (Obj.mapSeq (·.pop)) hL2 rfl
  refine wpAny_pure ⟨plainId_quiet PySem.F.plain_extend_loop _, codeAny_mono (key _ _ (fun b o n e => ?_) hL3) fun r s' h => ?_⟩
  · exact (Heap.get?_update_other _ _ (Ne.symm n)).trans ((Heap.get?_update_other _ _ (Ne.symm n)).trans e)
  · cases r with
    | error e => exact h
    | ok fl =>
      cases fl with
      | ret v => exact h
      | _ => exact h.elim
end
theorem strs_of_perm {es : Array (Int × Value)} {ys : List Value} (he : ∀ e ∈ es.toList, ∃ t, e.2 = .str (sOf e.2) t) (hp : ys.Perm (es.toList.map (·.2))) : StrsAre ys (ys.map sOf) := by
  have : ∀ ys : List Value, (∀ y ∈ ys, ∃ t, y = .str (sOf y) t) → StrsAre ys (ys.map sOf) := by
    intro ys
    induction ys with
    | nil => intro _; exact .nil
    | cons y ys ih =>
      intro h
      obtain ⟨t, e⟩ := h y (List.mem_cons_self ..)
      rw [List.map_cons]
      have := ih fun z hz => h z (List.mem_cons_of_mem _ hz)
      rw [e]
      exact .cons _ _ this
  refine this ys fun y hy => ?_
  obtain ⟨e, h1, rfl⟩ := List.mem_map.mp (hp.mem_iff.mp hy)
  exact he e h1
section
variable {X : Cx} {e : Expr} {p p2 pos pos2 : Pos} {te : TE}
theorem inv_drawn {pins : List (Addr × Obj)} {σ : L2.St} {H : Hp} {s : Shared} (I : L2.Inv X pins σ H s) (d : Drawn) : L2.Inv X pins σ H { s with drawn := d } := ⟨I.ok, I.os, I.bare, I.base, I.loc, I.cell, I.free, I.freeC, I.pin, I.hok, I.len⟩
def tSS (te : TE) : TE := fun σ H Q => te σ H fun x H1 => ∃ (a : Addr) (ss : List Str), x = .ref a ∧ H1 a = some (.lst (ss.map V.str)) ∧ ss.length < 64 ∧ ∀ (ss' : List Str) (b : Addr), ss'.Nodup → (∀ y, y ∈ ss' ↔ y ∈ ss) → Srt ss' → H1 b = none → Q (.ref b) (upd H1 b (.lst (ss'.map V.str)))
theorem pe_ss (hc : X.calm = true) (hg : Gl X "sorted") (hm : X.mg "sorted" = none) (hg2 : Gl X "set") (hm2 : X.mg "set" = none) (he : PE X e te)
    (hs : starEach [e] X.env = [(false, eval e X.env)] := by rfl) (hs1 : starEach [.Call (.Name "set" p2) [e] [] pos2] X.env = [(false, eval (.Call (.Name "set" p2) [e] [] pos2) X.env)] := by rfl) :
    PE X (.Call (.Name "sorted" p) [.Call (.Name "set" p2) [e] [] pos2] [] pos) (tSS te) := by
  have hin : PE X (.Call (.Name "set" p2) [e] [] pos2) (fun _ _ _ => False) := fun _ _ _ _ _ _ h => h.elim
  intro pins s σ H Q I h
  refine wpAny_Call_Name_kw (ld_blt I hg hm b_sorted ?_)
  refine PyProof.Rows.callWith_builtin1 ?_ hs1 rfl
  rw [hs1]
  refine Calls.spliced_cons ?_
  show wpAny _ _ (eval (.Call (.Name "set" p2) [e] [] pos2) X.env) _ _ _
  refine wpAny_Call_Name_kw (ld_blt I hg2 hm2 b_set ?_)
  refine PyProof.Rows.callWith_type1 ?_ hs rfl
  rw [hs]
  refine Calls.spliced_cons (thn (he pins s σ H _ I h) fun u s1 ⟨x, H1, I1, rx, a, ss, ex, ha, hl, q⟩ => Calls.spliced_nil ?_)
  subst ex
  cases rx
  obtain ⟨its, rv, pl, _⟩ := I1.list (SqL.of ha)
  have hs2 := strsAre_of rv
  have hz : its.length = ss.length := by rw [← rv.length, List.length_map]
  refine txs_call (I1.ok.hd hc) pl.isList (by simpa using hs2) (by rw [List.size_toArray, hz]; exact Nat.lt_trans (Nat.succ_lt_succ hl) (by decide)) fun h' tk es ep t X1 hy hn hk => Calls.spliced_nil ?_
  have I2 : L2.Inv X pins σ H1 { s1 with heap := h', toks := tk } := I1.kept (t' := tk) hk
  refine Calls.call_function_entry kind_sorted plain_sorted entry_sorted (args_sorted1 _) ?_
  unfold Builtin.«sorted»
  refine wpAny_bind (m := checkCount "sorted" 1 1 _) (wpAny_pure ?_)
  refine wpAny_bind (scollect (A := X.A.in1) (s := { s1 with heap := h', toks := tk }) (I1.ok.hd hc) X1 fun h2 d tk2 ys hp hk2 => ?_)
  have hS := strs_of_perm (fun e h => el_str X1.el h) hp
  have hm : (ys.map sOf).Perm (es.toList.map fun e => sOf e.2) := by
    have := hp.map sOf
    rwa [List.map_map] at this
  have hyl : ys.length < 64 := by
    have e0 := hp.length_eq
    rw [List.length_map] at e0
    have e1 : es.toList.length = es.size := Array.length_toList
    omega
  refine wpAny_bind (wpAny_newList ?_ (small (by omega)))
  have hoL : (h2.push { cls := .type "list", data := .seq ys.toArray }).get? h2.objs.size = some (seqObj "list" ys.toArray 0) := Heap.get?_push_size _ rfl
  refine wpAny_bind (wpAny_holding (lsort_strs (s := { s1 with heap := h2.push { cls := .type "list", data := .seq ys.toArray }, drawn := d, toks := tk2 }) hoL hS hyl fun out ss' h1 h2' h3 => ?_))
  refine wpAny_pure ⟨_, rfl, ?_⟩
  obtain ⟨ep2, he2⟩ := sortedHeap_at (out := out) hoL
  have I3 : L2.Inv X pins σ H1 { s1 with heap := h2, drawn := d, toks := tk2 } := inv_drawn (I2.kept (t' := tk2) hk2) d
  have kp : ∀ b o, h2.get? b = some o → (sortedHeap (h2.push { cls := .type "list", data := .seq ys.toArray }) h2.objs.size ys out).get? b = some o := fun b o e => by
    have hb := Heap.lt_size e
    rw [sortedHeap_old (Nat.ne_of_lt hb) (by rw [Heap.size_push]; exact Nat.lt_succ_of_lt hb)]
    exact Heap.get?_push_of_some _ e
  have hz2 : (ss'.map V.str).length ≤ sizeLine := by rw [List.length_map, h2'.length_eq, List.length_map]; exact small (by omega)
  have I4 : L2.Inv X pins σ (upd H1 h2.objs.size (.lst (ss'.map V.str))) { s1 with heap := sortedHeap (h2.push { cls := .type "list", data := .seq ys.toArray }) h2.objs.size ys out, drawn := d, toks := tk2 } :=
    I3.laid (t' := tk2) kp (Nat.le_refl _) (show ObjOk X.prog X.w _ _ _ (.lst (ss'.map V.str)) from ⟨hz2, out.toList, ep2, vals_of_strs h1, he2⟩)
  have fr : H1 h2.objs.size = none := I3.hok.fresh (Nat.le_refl _)
  exact ⟨.ref _, _, I4, rfl, q ss' _ ((h2'.trans hm).nodup_iff.mpr X1.nd) (fun y => ((h2'.trans hm).mem_iff).trans (hy y)) h3 fr⟩
end
def dSS (te : TDE) : TDE := fun δ R => te δ (wd fun d δ1 => ∃ ss : List Str, d = .lst (ss.map D.str) ∧ ss.length < 64 ∧ ∀ ss', ss'.Nodup → (∀ y, y ∈ ss' ↔ y ∈ ss) → Srt ss' → R (.d (.lst (ss'.map D.str))) δ1)
theorem de_ss {X : Cx} {e : Expr} {p p2 pos pos2 : Pos} {te : TDE} (hc : X.calm = true) (hg : Gl X "sorted") (hm : X.mg "sorted" = none) (hg2 : Gl X "set") (hm2 : X.mg "set" = none) (he : DE X e te)
    (hs : starEach [e] X.env = [(false, eval e X.env)] := by rfl) (hs1 : starEach [.Call (.Name "set" p2) [e] [] pos2] X.env = [(false, eval (.Call (.Name "set" p2) [e] [] pos2) X.env)] := by rfl) :
    DE X (.Call (.Name "sorted" p) [.Call (.Name "set" p2) [e] [] pos2] [] pos) (dSS te) :=
  PE.imp (pe_ss hc hg hm hg2 hm2 he hs hs1) fun σ H Q ⟨G, δ, P, R, s, h, k, _⟩ => up.mk s h fun d δ1 ⟨ss, e, hl, r⟩ v H1 s1 => by
    subst e
    obtain ⟨A, x⟩ := id s1
    have q := x.pnd (.lst (ss.map D.str), v) (by simp)
    unfold Rep at q
    obtain ⟨a, vs, rfl, _, ha, rs⟩ := q
    cases reps_strs rs
    refine ⟨a, ss, rfl, ha, hl, fun ss' b nd hy st hb => k _ δ1 (r ss' nd hy st) _ _ ⟨A, ((x.same (same_new hb _)).sub (P' := P) fun p hp => by simp [hp]).push ?_⟩⟩
    unfold Rep
    exact ⟨b, _, rfl, fun z => x.mem b z hb, upd_same, reps_of_strs ss'⟩
end DL

namespace Mf
/-- the greatest common divisor, a whole number -/
def gc (a b : Int) : Int := (Int.gcd a b : Nat)
theorem gc_pos (a : Int) {b : Int} (h : b ≠ 0) : 0 < gc a b := by
  unfold gc
  have := Int.gcd_pos_of_ne_zero_right a h
  omega
theorem gc_dvd_left (a b : Int) : gc a b ∣ a := Int.gcd_dvd_left a b
theorem gc_dvd_right (a b : Int) : gc a b ∣ b := Int.gcd_dvd_right a b
/-- a fraction in lowest terms -/
structure Low (p q : Int) : Prop where
  pos : 0 < q
  cop : gc p q = 1
theorem Low.cop' {p q : Int} (h : Low p q) : Int.gcd p q = 1 := by have := h.cop; unfold gc at this; omega
theorem Low.ne {p q : Int} (h : Low p q) : q ≠ 0 := by have := h.pos; omega
/-- two in lowest terms that are crosswise the same are the same -/
theorem Low.uniq {p q p' q' : Int} (h : Low p q) (h' : Low p' q') (e : p * q' = p' * q) : p = p' ∧ q = q' := by
  have d1 : q ∣ q' := by
    have : q ∣ p * q' := ⟨p', by rw [e, Int.mul_comm]⟩
    have g : Int.gcd q p = 1 := by rw [Int.gcd_comm]; exact h.cop'
    have k := (Int.dvd_gcd_mul_iff_dvd_mul (k := q) (n := p) (m := q')).mpr this
    rw [g] at k
    simpa using k
  have d2 : q' ∣ q := by
    have : q' ∣ p' * q := ⟨p, by rw [← e, Int.mul_comm]⟩
    have g : Int.gcd q' p' = 1 := by rw [Int.gcd_comm]; exact h'.cop'
    have k := (Int.dvd_gcd_mul_iff_dvd_mul (k := q') (n := p') (m := q)).mpr this
    rw [g] at k
    simpa using k
  have eq : q = q' := by
    have a1 := Int.le_of_dvd h'.pos d1
    have a2 := Int.le_of_dvd h.pos d2
    omega
  subst eq
  exact ⟨Int.eq_of_mul_eq_mul_right h.ne e, rfl⟩
/-- what made tells -/
def dv (t b : Int) : Int := if b < 0 then -(gc t b) else gc t b
def mkT (t b : Int) : Int := t.fdiv (dv t b)
def mkB (t b : Int) : Int := b.fdiv (dv t b)
theorem dv_ne (t : Int) {b : Int} (h : b ≠ 0) : dv t b ≠ 0 := by
  have := gc_pos t h
  unfold dv
  split <;> omega
theorem dv_dvd_left (t b : Int) : dv t b ∣ t := by
  unfold dv
  split
  · exact (Int.neg_dvd).mpr (gc_dvd_left t b)
  · exact gc_dvd_left t b
theorem dv_dvd_right (t b : Int) : dv t b ∣ b := by
  unfold dv
  split
  · exact (Int.neg_dvd).mpr (gc_dvd_right t b)
  · exact gc_dvd_right t b
theorem mkT_mul (t b : Int) : mkT t b * dv t b = t := Int.fdiv_mul_cancel (dv_dvd_left t b)
theorem mkB_mul (t b : Int) : mkB t b * dv t b = b := Int.fdiv_mul_cancel (dv_dvd_right t b)
theorem dv_natAbs (t b : Int) : (dv t b).natAbs = Int.gcd t b := by
  unfold dv gc
  split <;> omega
theorem mk_low (t : Int) {b : Int} (h : b ≠ 0) : Low (mkT t b) (mkB t b) := by
  have e1 := mkT_mul t b
  have e2 := mkB_mul t b
  have hd := dv_ne t h
  constructor
  · unfold dv at e2 hd
    have gp := gc_pos t h
    by_cases hb : b < 0
    · rw [if_pos hb] at e2
      have : mkB t b * gc t b = -b := by rw [Int.mul_neg] at e2; omega
      exact Int.pos_of_mul_pos_left (by omega) gp |> fun z => z
    · rw [if_neg hb] at e2
      exact Int.pos_of_mul_pos_left (by omega) gp |> fun z => z
  · have g : Int.gcd (mkT t b * dv t b) (mkB t b * dv t b) = Int.gcd (mkT t b) (mkB t b) * (dv t b).natAbs := Int.gcd_mul_right _ _ _
    rw [e1, e2, dv_natAbs] at g
    have gp := Int.gcd_pos_of_ne_zero_right t h
    unfold gc
    have : Int.gcd (mkT t b) (mkB t b) = 1 := by
      have g2 : 1 * Int.gcd t b = Int.gcd (mkT t b) (mkB t b) * Int.gcd t b := by rw [Nat.one_mul]; exact g
      exact (Nat.eq_of_mul_eq_mul_right gp g2).symm
    omega
theorem mk_cross (t b : Int) : mkT t b * b = t * mkB t b := by
  have e1 := mkT_mul t b
  have e2 := mkB_mul t b
  calc mkT t b * b = mkT t b * (mkB t b * dv t b) := by rw [e2]
    _ = (mkT t b * dv t b) * mkB t b := by rw [Int.mul_assoc, Int.mul_comm (mkB t b)]
    _ = t * mkB t b := by rw [e1]
theorem mk_uniq {t b p q : Int} (hb : b ≠ 0) (h : Low p q) (e : p * b = t * q) : mkT t b = p ∧ mkB t b = q := by
  refine (mk_low t hb).uniq h ?_
  have c := mk_cross t b
  refine Int.eq_of_mul_eq_mul_right hb ?_
  calc mkT t b * q * b = mkT t b * b * q := by rw [Int.mul_assoc, Int.mul_comm q, ← Int.mul_assoc]
    _ = t * mkB t b * q := by rw [c]
    _ = (t * q) * mkB t b := by rw [Int.mul_assoc, Int.mul_comm (mkB t b), ← Int.mul_assoc]
    _ = p * b * mkB t b := by rw [e]
    _ = p * mkB t b * b := by rw [Int.mul_assoc, Int.mul_comm b, ← Int.mul_assoc]
theorem Low.self {p q : Int} (h : Low p q) : mkT p q = p ∧ mkB p q = q := mk_uniq h.ne h rfl
end Mf

namespace Mf
open PySem L2 DL
/-- what a name stands for over the bottom B -/
def ov (p q : Str → Int) (B : Int) (n : Str) : Int := p n * B.fdiv (q n)
end Mf

namespace Lw
open PySem L2 DL
def top (i : Nat) : Stmt := PySem.Challenge.pw_rowbetween_k11_names_and_parts.main.body.getD i (.Pass ⟨0, 0, 0, 0⟩)
open Mf
theorem seq_cut {t u : TDS} {R : DEnds} {δ : En} (h : ∀ K : En → Prop, K = u R → t { R with nx := K } δ) : dSeq t u R δ := h _ rfl
theorem sq_t {xs : List D} : sq true xs = .lst xs := rfl
theorem sq_f {xs : List D} : sq false xs = .tup xs := rfl
def dForF (src : TDC) (F : D → DEnds → En → Prop) : TDS := fun R δ => src δ fun xs δ1 => ∃ I : Nat → En → Prop, I 0 δ1 ∧
  (∀ i x δ', xs[i]? = some x → I i δ' → F x { R with nx := I (i + 1), ct := I (i + 1), bk := R.nx } δ') ∧ ∀ δ', I xs.length δ' → R.nx δ'
theorem for_cut {src : TDC} {g : TDG} {tb : TDS} {R : DEnds} {δ : En} (h : ∀ (F : D → DEnds → En → Prop) (N : En → Prop), F = (fun x R δ => g x δ fun δ2 => tb R δ2) → N = R.nx → dForF src F { R with nx := N } δ) : dFor src g tb R δ := h _ _ rfl rfl
def dForLF (t : TDE) (F : D → DEnds → En → Prop) : TDS := fun R δ => t δ (wd fun d δ1 => ∃ xs, d = .lst xs ∧ ∃ I : Nat → En → Prop, I 0 δ1 ∧
  (∀ i x δ', xs[i]? = some x → I i δ' → F x { R with nx := I (i + 1), ct := I (i + 1), bk := R.nx } δ') ∧ ∀ δ', I xs.length δ' → R.nx δ')
theorem forL_cut {t : TDE} {g : TDG} {tb : TDS} {R : DEnds} {δ : En} (h : ∀ (F : D → DEnds → En → Prop) (N : En → Prop), F = (fun x R δ => g x δ fun δ2 => tb R δ2) → N = R.nx → dForLF t F { R with nx := N } δ) : dForL t g tb R δ := h _ _ rfl rfl
def dForTF (t : TDE) (F : D → DEnds → En → Prop) : TDS := fun R δ => t δ (wd fun d δ1 => ∃ xs, d = .tup xs ∧ ∃ I : Nat → En → Prop, I 0 δ1 ∧
  (∀ i x δ', xs[i]? = some x → I i δ' → F x { R with nx := I (i + 1), ct := I (i + 1), bk := R.nx } δ') ∧ ∀ δ', I xs.length δ' → R.nx δ')
theorem forT_cut {t : TDE} {g : TDG} {tb : TDS} {R : DEnds} {δ : En} (h : ∀ (F : D → DEnds → En → Prop) (N : En → Prop), F = (fun x R δ => g x δ fun δ2 => tb R δ2) → N = R.nx → dForTF t F { R with nx := N } δ) : dForT t g tb R δ := h _ _ rfl rfl
def dForRF (t : TDA) (F : D → DEnds → En → Prop) : TDS := fun R δ => t δ fun ds δ1 => ∃ j : Int, ds = [.int j] ∧ -(2 ^ 62) ≤ j ∧ j < 2 ^ 62 ∧ ∃ I : Nat → En → Prop, I 0 δ1 ∧
  (∀ i δ', i < j.toNat → I i δ' → F (.int i) { R with nx := I (i + 1), ct := I (i + 1), bk := R.nx } δ') ∧ ∀ δ', I j.toNat δ' → R.nx δ'
theorem forR_cut {t : TDA} {g : TDG} {tb : TDS} {R : DEnds} {δ : En} (h : ∀ (F : D → DEnds → En → Prop) (N : En → Prop), F = (fun x R δ => g x δ fun δ2 => tb R δ2) → N = R.nx → dForRF t F { R with nx := N } δ) : dForR t g tb R δ := h _ _ rfl rfl
theorem body_cut {g : TDG} {x : D} {t u : TDS} {R : DEnds} {δ : En} (h : ∀ K : En → Prop, K = u R → g x δ fun δ2 => t { R with nx := K } δ2) : g x δ fun δ2 => dSeq t u R δ2 := h _ rfl
theorem filterMap_of {α β γ : Type} (f : β → Option γ) (g : α → β) (h : α → γ) : ∀ (l : List α), (∀ x ∈ l, f (g x) = some (h x)) → (l.map g).filterMap f = l.map h
  | [], _ => rfl
  | x :: l, e => by rw [List.map_cons, List.map_cons, List.filterMap_cons, e x (List.mem_cons_self ..), filterMap_of f g h l fun y hy => e y (List.mem_cons_of_mem _ hy)]
theorem ifn {c A B : Prop} [Decidable c] (hc : ¬ c) (h : B) : if c then A else B := by rw [if_neg hc]; exact h
theorem ifp {c A B : Prop} [Decidable c] (hc : c) (h : A) : if c then A else B := by rw [if_pos hc]; exact h
theorem at0 {α : Type} {x : α} {xs : List α} : atI (x :: xs) 0 = some x := by
  unfold atI ixN
  simp only [List.length_cons]
  rw [if_pos (by omega), if_pos (by omega)]
  rfl
theorem at1 {α : Type} {x y : α} {xs : List α} : atI (x :: y :: xs) 1 = some y := by
  unfold atI ixN
  simp only [List.length_cons]
  rw [if_pos (by omega), if_pos (by omega)]
  rfl
theorem at2 {α : Type} {x y z : α} {xs : List α} : atI (x :: y :: z :: xs) 2 = some z := by
  unfold atI ixN
  simp only [List.length_cons]
  rw [if_pos (by omega), if_pos (by omega)]
  rfl
theorem atm1 {α : Type} {x : α} {xs : List α} : atI (xs ++ [x]) (-1) = some x := atI_last xs x
theorem fPlus_int {i j : Int} {R : D → Prop} : fPlus [.int i, .int j] R ↔ R (.int (i + j)) := Iff.rfl
theorem fPlus_lst {xs ys : List D} {R : D → Prop} : fPlus [.lst xs, .lst ys] R ↔ xs.length + ys.length ≤ 1000 ∧ R (.lst (xs ++ ys)) := Iff.rfl
theorem fLen_lst {xs : List D} {R : D → Prop} : fLen [.lst xs] R ↔ R (.int xs.length) := Iff.rfl
theorem fLen_fz {xs : List D} {R : D → Prop} : fLen [.fz xs] R ↔ R (.int xs.length) := Iff.rfl
theorem fLen_tup {xs : List D} {R : D → Prop} : fLen [.tup xs] R ↔ R (.int xs.length) := Iff.rfl
theorem fInt_int {i : Int} {R : D → Prop} : fInt [.int i] R ↔ R (.int i) := Iff.rfl
theorem fInt_bl {b : Bool} {R : D → Prop} : fInt [.bl b] R ↔ R (.int (if b then 1 else 0)) := Iff.rfl
theorem fIx_tup {xs : List D} {i : Int} {R : D → Prop} : fIx [.tup xs, .int i] R ↔ ∃ v, atI xs i = some v ∧ R v := Iff.rfl
theorem fIx_lst {xs : List D} {i : Int} {R : D → Prop} : fIx [.lst xs, .int i] R ↔ ∃ v, atI xs i = some v ∧ R v := Iff.rfl
theorem fIx_fz {xs : List D} {i : Int} {R : D → Prop} : fIx [.fz xs, .int i] R ↔ ∃ v, atI xs i = some v ∧ R v := Iff.rfl
theorem fIx_str {z : Str} {i : Int} {R : D → Prop} : fIx [.str z, .int i] R ↔ z.length ≤ 1000 ∧ ∃ c, atI z.cps.toList i = some c ∧ R (.str ⟨#[c]⟩) := Iff.rfl
theorem fSl_lst {xs : List D} {l u : Option Int} {R : D → Prop} : fSl (.lst xs) l u R ↔ R (.lst (cut xs l u)) := Iff.rfl
theorem fSl_fz {xs : List D} {l u : Option Int} {R : D → Prop} : fSl (.fz xs) l u R ↔ R (.lst (cut xs l u)) := Iff.rfl
theorem fNe_str {i j : Str} {R : D → Prop} : fNe [.str i, .str j] R ↔ R (.bl (!decide (i = j))) := Iff.rfl
theorem fNe_bl {i j : Bool} {R : D → Prop} : fNe [.bl i, .bl j] R ↔ R (.bl (!decide (i = j))) := Iff.rfl
theorem Nat.cast_ofNat_Int {n : Nat} : ((OfNat.ofNat n : Nat) : Int) = OfNat.ofNat n := rfl
theorem is_int_non : isT "int" (tyN .non) = false := rfl
theorem is_int_bl {b : Bool} : isT "int" (tyN (.bl b)) = true := rfl
theorem is_int_int {i : Int} : isT "int" (tyN (.int i)) = true := rfl
theorem is_int_str {x : Str} : isT "int" (tyN (.str x)) = false := rfl
theorem is_int_tup {xs : List D} : isT "int" (tyN (.tup xs)) = false := rfl
theorem is_int_lst {xs : List D} : isT "int" (tyN (.lst xs)) = false := rfl
theorem is_int_fz {xs : List D} : isT "int" (tyN (.fz xs)) = false := rfl
theorem is_int_dct {ks : List Str} {vs : List D} : isT "int" (tyN (.dct ks vs)) = false := rfl
theorem is_bool_non : isT "bool" (tyN .non) = false := rfl
theorem is_bool_bl {b : Bool} : isT "bool" (tyN (.bl b)) = true := rfl
theorem is_bool_int {i : Int} : isT "bool" (tyN (.int i)) = false := rfl
theorem is_bool_str {x : Str} : isT "bool" (tyN (.str x)) = false := rfl
theorem is_bool_tup {xs : List D} : isT "bool" (tyN (.tup xs)) = false := rfl
theorem is_bool_lst {xs : List D} : isT "bool" (tyN (.lst xs)) = false := rfl
theorem is_bool_fz {xs : List D} : isT "bool" (tyN (.fz xs)) = false := rfl
theorem is_bool_dct {ks : List Str} {vs : List D} : isT "bool" (tyN (.dct ks vs)) = false := rfl
theorem is_tuple_non : isT "tuple" (tyN .non) = false := rfl
theorem is_tuple_bl {b : Bool} : isT "tuple" (tyN (.bl b)) = false := rfl
theorem is_tuple_int {i : Int} : isT "tuple" (tyN (.int i)) = false := rfl
theorem is_tuple_str {x : Str} : isT "tuple" (tyN (.str x)) = false := rfl
theorem is_tuple_tup {xs : List D} : isT "tuple" (tyN (.tup xs)) = true := rfl
theorem is_tuple_lst {xs : List D} : isT "tuple" (tyN (.lst xs)) = false := rfl
theorem is_tuple_fz {xs : List D} : isT "tuple" (tyN (.fz xs)) = false := rfl
theorem is_tuple_dct {ks : List Str} {vs : List D} : isT "tuple" (tyN (.dct ks vs)) = false := rfl
theorem is_list_non : isT "list" (tyN .non) = false := rfl
theorem is_list_bl {b : Bool} : isT "list" (tyN (.bl b)) = false := rfl
theorem is_list_int {i : Int} : isT "list" (tyN (.int i)) = false := rfl
theorem is_list_str {x : Str} : isT "list" (tyN (.str x)) = false := rfl
theorem is_list_tup {xs : List D} : isT "list" (tyN (.tup xs)) = false := rfl
theorem is_list_lst {xs : List D} : isT "list" (tyN (.lst xs)) = true := rfl
theorem is_list_fz {xs : List D} : isT "list" (tyN (.fz xs)) = true := rfl
theorem is_list_dct {ks : List Str} {vs : List D} : isT "list" (tyN (.dct ks vs)) = false := rfl
theorem is_str_non : isT "str" (tyN .non) = false := rfl
theorem is_str_bl {b : Bool} : isT "str" (tyN (.bl b)) = false := rfl
theorem is_str_int {i : Int} : isT "str" (tyN (.int i)) = false := rfl
theorem is_str_str {x : Str} : isT "str" (tyN (.str x)) = true := rfl
theorem is_str_tup {xs : List D} : isT "str" (tyN (.tup xs)) = false := rfl
theorem is_str_lst {xs : List D} : isT "str" (tyN (.lst xs)) = false := rfl
theorem is_str_fz {xs : List D} : isT "str" (tyN (.fz xs)) = false := rfl
theorem is_str_dct {ks : List Str} {vs : List D} : isT "str" (tyN (.dct ks vs)) = false := rfl
theorem is_dict_non : isT "dict" (tyN .non) = false := rfl
theorem is_dict_bl {b : Bool} : isT "dict" (tyN (.bl b)) = false := rfl
theorem is_dict_int {i : Int} : isT "dict" (tyN (.int i)) = false := rfl
theorem is_dict_str {x : Str} : isT "dict" (tyN (.str x)) = false := rfl
theorem is_dict_tup {xs : List D} : isT "dict" (tyN (.tup xs)) = false := rfl
theorem is_dict_lst {xs : List D} : isT "dict" (tyN (.lst xs)) = false := rfl
theorem is_dict_fz {xs : List D} : isT "dict" (tyN (.fz xs)) = false := rfl
theorem is_dict_dct {ks : List Str} {vs : List D} : isT "dict" (tyN (.dct ks vs)) = true := rfl
local macro_rules | `(tactic| walk_at "rd") => `(tactic| simp only [dAug, dSS, dGetO, dcZip, sq_t, sq_f, fSum_lst, fMin_two, dSetN, dNewL, dNewD, dRetO, dRetL, dCallO, dLenO, dTupleO, dFreeze, Sl.own.injEq, exists_const, exists_eq, D.lst.injEq, D.dct.injEq, D.str.injEq, dSeq, dIf, dRet, dSet, dV, dO, dC, dOp, dUn, wd, dTst, dAnd, dOr, dNot, dAndV, dOrV, dNotV, dIfE, dACons, dANil, dCall, dTup, dLst, dPar, dNext, dNever, dDrop, dAsg, dgName, dgNil, dgCons, dgTup, dgLst, dGtab, fMax_two, fMax_lst, dSl, dNoPart, dPart, dIsi, fI0_eq, fI_eq, fU_eq, fEq_int, fEq_str, fEq_bl, fEq_tup, fNeq_int, fIs_bl, fIsN_bl, fPlus_int, fPlus_lst, fLen_lst, fLen_fz, fLen_tup, fInt_int, fInt_bl, fIx_tup, fIx_lst, fIx_fz, fIx_str, fSl_lst, fSl_fz, fNeq_str, fNeq_bl, fNeq_tup, fNeq_lst, fNeq_dct, dPutD, dPop, fDget_eq, fIn_dct, fIn_lst, fSorted_lst, fSorted_dct, dRetN, fDict_dct, fTuple_lst, fTuple_tup, fList_lst, fList_tup, dcStr, dComp, dcLst, dcTup, dcRng, allT, okT, capL, capO, oS, startD, is_int_non, is_int_bl, is_int_int, is_int_str, is_int_tup, is_int_lst, is_int_fz, is_int_dct, is_bool_non, is_bool_bl, is_bool_int, is_bool_str, is_bool_tup, is_bool_lst, is_bool_fz, is_bool_dct, is_tuple_non, is_tuple_bl, is_tuple_int, is_tuple_str, is_tuple_tup, is_tuple_lst, is_tuple_fz, is_tuple_dct, is_list_non, is_list_bl, is_list_int, is_list_str, is_list_tup, is_list_lst, is_list_fz, is_list_dct, is_str_non, is_str_bl, is_str_int, is_str_str, is_str_tup, is_str_lst, is_str_fz, is_str_dct, is_dict_non, is_dict_bl, is_dict_int, is_dict_str, is_dict_tup, is_dict_lst, is_dict_fz, is_dict_dct,
  List.map_cons, List.map_nil, List.length_cons, List.length_nil, List.replicate, List.cons_append, List.nil_append, List.append_nil, List.getElem?_cons_zero, List.getElem?_cons_succ, List.set_cons_zero, List.set_cons_succ, Option.some.injEq, Sl.dat.injEq, D.int.injEq, D.bl.injEq, D.tup.injEq, List.cons.injEq, and_assoc, and_true, true_and, exists_eq_left', exists_eq_left, exists_eq_right', exists_and_left, Nat.zero_add, Nat.reduceAdd, Nat.reduceSub, Nat.add_zero, Nat.reduceLeDiff, Nat.sub_self, at0, at1, at2, atm1, if_true, if_false, ite_true, ite_false, Int.reduceEq, Int.reduceLT, Nat.cast_ofNat_Int, not_true_eq_false, not_false_eq_true, Bool.false_eq_true, reduceCtorEq, Bool.not_false, Bool.not_true, List.forall_mem_cons, List.mem_cons, List.not_mem_nil, forall_const, false_implies, implies_true, Nat.reduceLT, if_pos, List.filterMap_cons, List.filterMap_nil, decide_eq_true_eq, Bool.not_eq_true', decide_eq_false_iff_not])

def f_common_divisor : List D → (D → Prop) → Prop := fun ds R => ∃ a b, ds = [.int a, .int b] ∧ R (.int (gc a b))
theorem f_common_divisor_len : ∀ ds R, f_common_divisor ds R → ds.length = 2 := fun _ _ ⟨_, _, e, _⟩ => by rw [e]; rfl
/-- what a purse holds: two whole numbers from nought on -/
structure Purse (a b : Int) : Prop where
  a0 : 0 ≤ a
  b0 : 0 ≤ b
  ab : Builtin.Int.intBits a ≤ 1048576
  bb : Builtin.Int.intBits b ≤ 1048576
def f__law_purse : List D → (D → Prop) → Prop := fun ds R => ∃ c, ds = [.int c] ∧ Builtin.Int.intBits c ≤ 1048576 ∧ ∀ a b, Purse a b → R (.lst [.int a, .int b])
theorem f__law_purse_len : ∀ ds R, f__law_purse ds R → ds.length = 1 := fun _ _ ⟨_, e, _⟩ => by rw [e]; rfl
theorem cnz {i j : Int} (h : j ≠ 0) : CNz i j := h
theorem lg_of {b : Int} {n : Nat} (h : Builtin.Int.intBits b ≤ n) (hn : n ≤ 8000) : b.natAbs.log2 < 9000 := by
  have h1 := intBits_le_iff.mp h
  rcases Nat.eq_zero_or_pos b.natAbs with h0 | hp
  · rw [h0]; decide
  · have h2 : b.natAbs.log2 < n := (Nat.log2_lt (Nat.ne_of_gt hp)).mpr h1
    omega
theorem mo2 {x y : Int} {m n : Nat} (h1 : Builtin.Int.intBits x ≤ m) (h2 : Builtin.Int.intBits y ≤ n) (h : m + n ≤ 134217728 := by decide) : IntMulOk x y := IntMulOk.of_le h1 h2 h
theorem sm64 {x : Int} (h0 : 0 ≤ x) (h1 : x < 18446744073709551616) : Builtin.Int.intBits x ≤ 64 := intBits_le_64 (by omega) (by omega)
abbrev s__law_purse : Stmt := top 7
theorem sc__law_purse : FnScope ["_law_cell_here", "_law_number", "_law_found", "_law_k"] ["_law_cell_here"] (defScope s__law_purse) := ⟨rfl, rfl, rfl, by decide +kernel, rfl, by decide +kernel, by decide +kernel⟩
theorem cal__law_purse {P : Program} {w : World} {K : PySem.W.Frag} {mg : Str → Option Value} {base : Heap} (F : Fd K mg "_law_purse" s__law_purse ["_law_cell_here"]) (z_range : mg "range" = none) (z_abs : mg "abs" = none) : Cal P w K mg base 1 "_law_purse" ["_law_cell_here"] (spN K f__law_purse) := by
  refine fn_N F sc__law_purse f__law_purse_len fun fa cdv A outer s H E ds R hr h => ?_
  have hU := hr.units
  refine ⟨_, (dss_cons (ds_set 1 sc__law_purse.nd (de_op o_mod (de_v 0) de_int)) (dss_cons (ds_set 2 sc__law_purse.nd de_int) (dss_cons (ds_forR PassesOwn.never rfl rfl z_range (da_cons de_int da_nil) (dg_name 3 sc__law_purse.nd) (dss_cons (ds_set 1 sc__law_purse.nd (de_op o_mod (de_op o_plus (de_op o_plus (de_op o_plus (de_op o_mul (de_v 1) (de_v 1)) (de_op o_mul (de_op o_mul de_int (de_v 3)) (de_v 3))) (de_v 3)) de_int) de_int)) (dss_one (ds_set 2 sc__law_purse.nd (de_op o_plus (de_op o_mul (de_v 2) de_int) (de_op o_mod (de_op o_mul (de_v 1) (de_v 1)) de_int)))))) (dss_cons (ds_if (dt_cmp (o_eq hU) (de_op o_mod (de_v 0) de_int) de_int (nomark _)) (dss_one (ds_retL (da_cons (de_op o_fdiv (de_callB c_abs rfl z_abs b_abs (da_cons (de_v 0) da_nil)) de_int) (da_cons (de_v 2) da_nil)))) dss_nil) (dss_one (ds_retL (da_cons de_int (da_cons (de_v 2) da_nil)))))))), ?_⟩
  obtain ⟨c, rfl, hc, q⟩ := h
  walk_at "rd"
  refine ⟨cnz (by decide), ?_⟩
  simp only [dForR]
  walk_at "rd"
  have n0 := Int.fmod_nonneg_of_pos c (b := 2147483647) (by decide)
  have n1 := Int.fmod_lt_of_pos c (b := 2147483647) (by decide)
  refine ⟨by decide, by decide, fun i δ => ∃ n f k, δ = [.dat (.int c), .dat (.int n), .dat (.int f), k] ∧ i ≤ 16 ∧ 0 ≤ n ∧ n < 2147483648 ∧ 0 ≤ f ∧ Builtin.Int.intBits f ≤ 40 * (i + 1), ⟨_, _, _, rfl, by decide, n0, by omega, by decide, by decide⟩, ?_, ?_⟩
  · rintro i δ hi ⟨n, f, k, rfl, _, hn0, hn1, hf0, hf1⟩
    have hi' : i < 16 := hi
    walk_at "rd"
    have bi : Builtin.Int.intBits (i : Int) ≤ 64 := sm64 (by omega) (by omega)
    have bn : Builtin.Int.intBits n ≤ 64 := sm64 hn0 (by omega)
    have z0 := Int.fmod_nonneg_of_pos (n * n + 48271 * (i : Int) * i + i + 3) (b := 2147483629) (by decide)
    have z1 := Int.fmod_lt_of_pos (n * n + 48271 * (i : Int) * i + i + 3) (b := 2147483629) (by decide)
    generalize (n * n + 48271 * (i : Int) * i + i + 3).fmod 2147483629 = z at z0 z1 ⊢
    have bz : Builtin.Int.intBits z ≤ 64 := sm64 z0 (by omega)
    have y0 := Int.fmod_nonneg_of_pos (z * z) (b := 2147483587) (by decide)
    have y1 := Int.fmod_lt_of_pos (z * z) (b := 2147483587) (by decide)
    have by31 : Builtin.Int.intBits ((z * z).fmod 2147483587) ≤ 31 := intBits_le_iff.mpr (by rw [show (2 : Nat) ^ 31 = 2147483648 from rfl]; omega)
    have fm := Int.mul_nonneg hf0 (show (0 : Int) ≤ 2147483587 by decide)
    refine ⟨mo2 bn bn, IntMulOk.of_left (by decide), IntMulOk.of_right bi, cnz (by decide), IntMulOk.of_right (by decide), mo2 bz bz, cnz (by decide), by omega, z0, by omega, by omega, ?_⟩
    have h1 := intBits_add_le (intBits_mul_le hf1 (show Builtin.Int.intBits 2147483587 ≤ 31 by decide)) by31
    omega
  · rintro δ ⟨n, f, k, rfl, _, hn0, hn1, hf0, hf1⟩
    walk_at "rd"
    have hf1 : Builtin.Int.intBits f ≤ 1048576 := Nat.le_trans hf1 (by decide)
    refine ⟨cnz (by decide), ite2 (fun _ => ⟨⟨by decide, by decide +kernel⟩, ?_⟩) (fun _ => ?_)⟩
    · have ha : 0 ≤ (if c < 0 then -c else c) := by split <;> omega
      have hb : Builtin.Int.intBits (if c < 0 then -c else c) ≤ 1048576 := by
        split
        · exact intBits_neg_le hc
        · exact hc
      exact q _ _ ⟨by rw [Int.fdiv_eq_ediv_of_nonneg _ (by decide)]; exact Int.ediv_nonneg ha (by decide), hf0, intBits_fdiv_le hb, hf1⟩
    · exact q _ _ ⟨Int.le_refl 0, hf0, by decide, hf1⟩
def f__law_take : FO := fun d ds R => ∃ a b m, d = .lst [.int a, .int b] ∧ ds = [.int m] ∧ Purse a b ∧ 0 < m ∧ Builtin.Int.intBits m ≤ 8000 ∧ ∀ a' b' r, Purse a' b' → 0 ≤ r → r < m → R (.int r) (.lst [.int a', .int b'])
theorem f__law_take_len : ∀ d ds R, f__law_take d ds R → ds.length + 1 = 2 := fun _ _ _ ⟨_, _, _, _, e, _⟩ => by rw [e]; rfl
theorem fdiv_nn {a m : Int} (ha : 0 ≤ a) (hm : 0 < m) : 0 ≤ a.fdiv m := by rw [Int.fdiv_eq_ediv_of_nonneg _ (by omega)]; exact Int.ediv_nonneg ha (by omega)
abbrev s__law_take : Stmt := top 8
theorem sc__law_take : FnScope ["_law_purse_here", "_law_many", "_law_at", "_law_found"] ["_law_purse_here", "_law_many"] (defScope s__law_take) := ⟨rfl, rfl, rfl, by decide +kernel, rfl, by decide +kernel, by decide +kernel⟩
theorem cal__law_take {P : Program} {w : World} {K : PySem.W.Frag} {mg : Str → Option Value} {base : Heap} (F : Fd K mg "_law_take" s__law_take ["_law_purse_here", "_law_many"]) (z_int : mg "int" = none) : Cal P w K mg base 1 "_law_take" ["_law_purse_here", "_law_many"] (spO K f__law_take) := by
  refine fn_O F sc__law_take f__law_take_len fun fa cdv A outer s H E oa d0 ds R hr h => ?_
  have hU := hr.units
  refine ⟨_, (dss_cons (ds_set 2 sc__law_take.nd (de_callTy c_int rfl z_int b_int (da_cons (de_cmp (o_eq hU) (de_ixO 0 de_int (fun _ _ => rfl)) de_int (nomark _)) da_nil))) (dss_cons (ds_set 3 sc__law_take.nd (de_op o_mod (de_ixO 0 (de_v 2) (fun _ _ => rfl)) (de_v 1))) (dss_cons (ds_putO 0 (de_op o_fdiv (de_ixO 0 (de_v 2) (fun _ _ => rfl)) (de_v 1)) (de_v 2)) (dss_one (ds_ret (de_v 3)))))), ?_⟩
  obtain ⟨a, b, m, rfl, rfl, pu, hm, bm, q⟩ := h
  walk_at "rd"
  have cf : ∀ x : Int, CFd x m := fun x => ⟨by omega, lg_of bm (Nat.le_refl _)⟩
  have m0 : ∀ x : Int, CNz x m := fun x => cnz (by omega)
  by_cases ha : a = 0
  · simp only [if_pos ha]
    refine ⟨_, at1, ?_⟩
    walk_at "rd"
    refine ⟨m0 b, cf b, 1, rfl, ?_⟩
    exact q _ _ _ ⟨pu.a0, fdiv_nn pu.b0 hm, pu.ab, intBits_fdiv_le pu.bb⟩ (Int.fmod_nonneg_of_pos _ hm) (Int.fmod_lt_of_pos _ hm)
  · simp only [if_neg ha]
    refine ⟨_, at0, ?_⟩
    walk_at "rd"
    refine ⟨m0 a, cf a, 0, rfl, ?_⟩
    exact q _ _ _ ⟨fdiv_nn pu.a0 hm, pu.b0, intBits_fdiv_le pu.ab, pu.bb⟩ (Int.fmod_nonneg_of_pos _ hm) (Int.fmod_lt_of_pos _ hm)
def f__law_weight : FO := fun d ds R => ∃ a b, d = .lst [.int a, .int b] ∧ ds = [] ∧ Purse a b ∧ ∀ a' b' r, Purse a' b' → Builtin.Int.intBits r ≤ 200 → R (.int r) (.lst [.int a', .int b'])
theorem f__law_weight_len : ∀ d ds R, f__law_weight d ds R → ds.length + 1 = 1 := fun _ _ _ ⟨_, _, _, e, _⟩ => by rw [e]; rfl
theorem atI_some {α : Type} {xs : List α} {k : Int} (h0 : 0 ≤ k) (h : k < xs.length) : ∃ x ∈ xs, atI xs k = some x := by
  unfold atI ixN
  rw [if_pos h0, if_pos h]
  have : k.toNat < xs.length := by omega
  exact ⟨xs[k.toNat], List.getElem_mem _, by show xs[k.toNat]? = _; rw [List.getElem?_eq_getElem this]⟩
theorem pow59' : CPow 10 59 := ⟨by decide, by decide, by decide⟩
abbrev s__law_weight : Stmt := top 9
theorem sc__law_weight : FnScope ["_law_purse_here"] ["_law_purse_here"] (defScope s__law_weight) := ⟨rfl, rfl, rfl, by decide +kernel, rfl, by decide +kernel, by decide +kernel⟩
theorem cal__law_weight {P : Program} {w : World} {K : PySem.W.Frag} {mg : Str → Option Value} {base : Heap} (F : Fd K mg "_law_weight" s__law_weight ["_law_purse_here"]) (c__law_take : Cal P w K mg base 1 "_law_take" ["_law_purse_here", "_law_many"] (spO K (f__law_take))) : Cal P w K mg base 2 "_law_weight" ["_law_purse_here"] (spO K f__law_weight) := by
  refine fn_O F sc__law_weight f__law_weight_len fun fa cdv A outer s H E oa d0 ds R hr h => ?_
  have hU := hr.units
  refine ⟨_, (dss_cons (ds_if (dt_cmp o_lt (de_callO 0 c__law_take (hr.mono (by decide)) rfl (da_cons de_int da_nil)) de_int (nomark _)) (dss_one (ds_ret (de_ix x_seq (de_lst (da_cons de_int (da_cons de_int (da_cons (de_un o_neg de_int) (da_cons de_int (da_cons (de_un o_neg de_int) (da_cons de_int (da_cons (de_un o_neg de_int) (da_cons de_int (da_cons de_int (da_cons de_int da_nil))))))))))) (de_callO 0 c__law_take (hr.mono (by decide)) rfl (da_cons de_int da_nil)) (fun _ _ => rfl)))) dss_nil) (dss_one (ds_ret (de_op o_sub (de_callO 0 c__law_take (hr.mono (by decide)) rfl (da_cons (de_op o_plus (de_op o_mul de_int (de_op o_pow de_int de_int)) de_int) da_nil)) (de_op o_pow de_int de_int))))), ?_⟩
  obtain ⟨a, b, rfl, rfl, pu, q⟩ := h
  walk_at "rd"
  refine ⟨a, b, 6, rfl, rfl, pu, by decide, by decide, fun a1 b1 r pu1 r0 r1 => ?_⟩
  walk_at "rd"
  refine ite2 (fun c => ?_) (fun c => ?_)
  · refine ⟨a1, b1, 10, rfl, rfl, pu1, by decide, by decide, fun a2 b2 r2 pu2 s0 s1 => ?_⟩
    walk_at "rd"
    obtain ⟨x, hx, e⟩ := atI_some (xs := [D.int 0, D.int 1, D.int (-1), D.int 2, D.int (-2), D.int 3, D.int (-3), D.int 0, D.int 5, D.int 0]) s0 (by show r2 < 10; exact s1)
    refine ⟨x, e, ?_⟩
    simp only [List.mem_cons, List.not_mem_nil, or_false] at hx
    rcases hx with rfl | rfl | rfl | rfl | rfl | rfl | rfl | rfl | rfl | rfl <;> exact q _ _ _ pu2 (by decide)
  · have e59 : (10 : Int) ^ Int.toNat 59 = 100000000000000000000000000000000000000000000000000000000000 := by decide +kernel
    rw [e59]
    refine ⟨pow59', IntMulOk.of_left (by decide), a1, b1, _, rfl, rfl, pu1, by decide, intBits_le_iff.mpr (Nat.lt_of_lt_of_le (by decide +kernel : (2 * 100000000000000000000000000000000000000000000000000000000000 + 1 : Int).natAbs < 2 ^ 200) (Nat.pow_le_pow_right (by decide) (by decide))), fun a2 b2 r2 pu2 s0 s1 => ?_⟩
    walk_at "rd"
    refine ⟨pow59', q _ _ _ pu2 (intBits_le_iff.mpr ?_)⟩
    rw [show (2 : Nat) ^ 200 = 1606938044258990275541962092341162602522202993782792835301376 by decide +kernel]
    omega

/-- one to four names, in order -/
structure Names (names : List Str) : Prop where
  nd : names.Nodup
  len : names.length ≤ 4
  pos : 0 < names.length
  srt : Srt names
def ltr (i : Int) : Str := ⟨#[97 + i.toNat]⟩
theorem ltr_at : ∀ i : Fin 26, atI (PySem.Str.cps "abcdefghijklmnopqrstuvwxyz").toList (i.val : Int) = some (97 + i.val) := by decide +kernel
theorem ltr_in {i : Int} (h0 : 0 ≤ i) (h1 : i < 26) : atI (PySem.Str.cps "abcdefghijklmnopqrstuvwxyz").toList i = some (97 + i.toNat) := by
  have := ltr_at ⟨i.toNat, by omega⟩
  simp only at this
  rw [show ((i.toNat : Nat) : Int) = i by omega] at this
  exact this
def f__law_names : List D → (D → Prop) → Prop := fun ds R => ∃ c, ds = [.int c] ∧ Builtin.Int.intBits c ≤ 1048576 ∧ ∀ names, Names names → R (.lst (names.map D.str))
theorem f__law_names_len : ∀ ds R, f__law_names ds R → ds.length = 1 := fun _ _ ⟨_, e, _⟩ => by rw [e]; rfl
theorem ltr_inj {i j : Int} (h0 : 0 ≤ i) (h1 : 0 ≤ j) (e : ltr i = ltr j) : i = j := by
  unfold ltr at e
  simp only [Str.mk.injEq, Array.mk.injEq, List.cons.injEq, and_true] at e
  omega
theorem range_nodup_map {α : Type} {n : Nat} {h : Nat → α} (inj : ∀ i j, i < j → j < n → h i ≠ h j) : ((List.range n).map h).Nodup := by
  refine List.pairwise_map.mpr ?_
  have := List.pairwise_lt_range (n := n)
  refine List.Pairwise.imp_of_mem ?_ this
  intro a b ha hb hab
  exact inj a b hab (List.mem_range.mp hb)
theorem cf_of {i j : Int} (h0 : j ≠ 0) (h : j.natAbs.log2 < 9000) : CFd i j := ⟨h0, h⟩
abbrev s__law_names : Stmt := top 10
theorem sc__law_names : FnScope ["_law_cell_here", "_law_letters", "_law_many"] ["_law_cell_here"] (defScope s__law_names) := ⟨rfl, rfl, rfl, by decide +kernel, rfl, by decide +kernel, by decide +kernel⟩
theorem cal__law_names {P : Program} {w : World} {K : PySem.W.Frag} {mg : Str → Option Value} {base : Heap} (F : Fd K mg "_law_names" s__law_names ["_law_cell_here"]) (z_sorted : mg "sorted" = none) (z_range : mg "range" = none) : Cal P w K mg base 1 "_law_names" ["_law_cell_here"] (spD K f__law_names) := by
  refine fn_D F sc__law_names f__law_names_len fun fa cdv A outer s H E ds R hr h => ?_
  have hU := hr.units
  refine ⟨_, (dss_cons (ds_set 1 sc__law_names.nd de_str) (dss_cons (ds_set 2 sc__law_names.nd (de_op o_plus de_int (de_op o_mod (de_op o_fdiv (de_v 0) de_int) de_int))) (dss_one (ds_ret (de_callB (c_sorted rfl) rfl z_sorted b_sorted (da_cons (de_comp ["_law_k"] [(1, "_law_letters"), (0, "_law_cell_here")] rfl rfl (by decide +kernel) rfl (by decide +kernel) (cl_sub ⟨rfl, rfl, trivial⟩) (cl_has rfl) (cap_all ⟨⟨rfl, rfl, .inl rfl⟩, ⟨rfl, rfl, .inl rfl⟩, trivial⟩) (ci_range rfl z_range (da_cons (de_v 2) da_nil)) fun _ _ _ _ _ => ⟨(dg_name 0 (show List.Nodup (["_law_k", "_law_letters", "_law_cell_here"] : List Str) by decide +kernel)), cf_nil, (de_ix x_seq (de_v 1) (de_op o_mod (de_op o_plus (de_op o_mod (de_v 2) de_int) (de_op o_mul (de_op o_plus de_int (de_op o_mul (de_op o_mod (de_op o_fdiv (de_v 2) de_int) de_int) de_int)) (de_v 0))) de_int) (fun _ _ => rfl))⟩) da_nil)))))), ?_⟩
  obtain ⟨c, rfl, hc, q⟩ := h
  walk_at "rd"
  have a0 := Int.fmod_nonneg_of_pos c (b := 26) (by decide)
  have a1 := Int.fmod_lt_of_pos c (b := 26) (by decide)
  have m0 := Int.fmod_nonneg_of_pos (c.fdiv 26) (b := 4) (by decide)
  have m1 := Int.fmod_lt_of_pos (c.fdiv 26) (b := 4) (by decide)
  have t0 := Int.fmod_nonneg_of_pos (c.fdiv 104) (b := 3) (by decide)
  have t1 := Int.fmod_lt_of_pos (c.fdiv 104) (b := 3) (by decide)
  refine ⟨cf_of (by decide) (by decide +kernel), cnz (by decide), by omega, by omega, by rw [List.length_map, List.length_range]; omega, ?_⟩
  generalize c.fmod 26 = a at a0 a1 ⊢
  generalize (c.fdiv 26).fmod 4 = m at m0 m1 ⊢
  generalize (c.fdiv 104).fmod 3 = t at t0 t1 ⊢
  let g : Int → Int := fun k => (a + (5 + t * 2) * k).fmod 26
  have g0 : ∀ k, 0 ≤ g k := fun k => Int.fmod_nonneg_of_pos _ (by decide)
  have g1 : ∀ k, g k < 26 := fun k => Int.fmod_lt_of_pos _ (by decide)
  have ht : t = 0 ∨ t = 1 ∨ t = 2 := by omega
  refine ⟨fun d => match d with | .int k => some (.str (ltr (g k))) | _ => none, fun x hx => ?_, (List.range (1 + m).toNat).map fun k : Nat => ltr (g k), ?_, ?_, fun ss' hp hs => q ss' ⟨?_, ?_, ?_, hs⟩⟩
  · obtain ⟨k, hk, rfl⟩ := List.mem_map.mp hx
    refine ⟨cnz (by decide), cf_of (by decide) (by decide +kernel), cnz (by decide), IntMulOk.of_right (by decide), ?_⟩
    walk_at "rd"
    have hk := List.mem_range.mp hk
    refine ⟨mo2 (sm64 (by omega) (by omega)) (sm64 (by omega) (by omega)), cnz (by decide), by decide, 97 + (g k).toNat, ltr_in (g0 k) (g1 k), rfl⟩
  · exact (filterMap_of _ (fun i : Nat => D.int i) (fun k : Nat => D.str (ltr (g k))) _ (by intro _ _; rfl)).trans (by rw [List.map_map]; rfl)
  · simp only [List.length_map, List.length_range]; omega
  · refine hp.nodup_iff.mpr (range_nodup_map fun i j hij hj e => ?_)
    have e := ltr_inj (g0 i) (g0 j) e
    have d1 := Int.fmod_def (a + (5 + t * 2) * (i : Int)) 26
    have d2 := Int.fmod_def (a + (5 + t * 2) * (j : Int)) 26
    have e : (a + (5 + t * 2) * (i : Int)).fmod 26 = (a + (5 + t * 2) * (j : Int)).fmod 26 := e
    rw [d1, d2] at e
    have hj4 : j < 4 := by omega
    have hi4 : i < 4 := by omega
    rcases ht with rfl | rfl | rfl <;> omega
  · rw [hp.length_eq, List.length_map, List.length_range]; omega
  · rw [hp.length_eq, List.length_map, List.length_range]; omega

/-- terms: names and weights -/
def tmD (t : Str × Int) : D := .tup [.str t.1, .int t.2]
structure Terms (names : List Str) (ts : List (Str × Int)) : Prop where
  sub : (ts.map (·.1)).Sublist names
  nz : ∀ t ∈ ts, t.2 ≠ 0
  bits : ∀ t ∈ ts, Builtin.Int.intBits t.2 ≤ 200
theorem terms_get {ts : List (Str × Int)} {i : Nat} {d : D} (h : (ts.map tmD)[i]? = some d) : ∃ t, ts[i]? = some t ∧ d = .tup [.str t.1, .int t.2] := by
  rw [List.getElem?_map] at h
  cases e : ts[i]? with
  | none => rw [e] at h; cases h
  | some n => rw [e] at h; exact ⟨n, rfl, (Option.some.inj h).symm⟩
theorem take_snoc {α : Type} {l : List α} {i : Nat} {x : α} (h : l[i]? = some x) : l.take (i + 1) = l.take i ++ [x] := by rw [List.take_add_one, h]; rfl
inductive Kd where
  | least | more
def kdS : Kd → Str
  | .least => "least"
  | .more => "more"
/-- a row -/
def rowD (k : Kd) (ts : List (Str × Int)) (b : Int) : D := .tup [.str (kdS k), .tup (ts.map tmD), .int b]
theorem tms_nds : ∀ ts : List (Str × Int), D.nds (ts.map tmD) = true
  | [] => rfl
  | t :: r => by rw [List.map_cons]; unfold D.nds; rw [tms_nds r]; rfl
theorem tms_dps : ∀ ts : List (Str × Int), D.dps (ts.map tmD) ≤ 1
  | [] => Nat.zero_le _
  | t :: r => by
    rw [List.map_cons]; unfold D.dps
    exact Nat.max_le.mpr ⟨by show 1 ≤ 1; decide, tms_dps r⟩

def f__law_row : List D → (D → Prop) → Prop := fun ds R => ∃ c names, ds = [.int c, .lst (names.map D.str)] ∧ Builtin.Int.intBits c ≤ 1048576 ∧ names.length ≤ 100 ∧ ∀ k ts b, Terms names ts → Builtin.Int.intBits b ≤ 200 → R (rowD k ts b)
theorem f__law_row_len : ∀ ds R, f__law_row ds R → ds.length = 2 := fun _ _ ⟨_, _, e, _⟩ => by rw [e]; rfl
abbrev s__law_row : Stmt := top 11
theorem sc__law_row : FnScope ["_law_cell_here", "_law_names_here", "_law_purse_here", "_law_terms", "_law_name", "_law_weight_here", "_law_bound"] ["_law_cell_here", "_law_names_here"] (defScope s__law_row) := ⟨rfl, rfl, rfl, by decide +kernel, rfl, by decide +kernel, by decide +kernel⟩
theorem cal__law_row {P : Program} {w : World} {K : PySem.W.Frag} {mg : Str → Option Value} {base : Heap} (F : Fd K mg "_law_row" s__law_row ["_law_cell_here", "_law_names_here"]) (c__law_purse : Cal P w K mg base 1 "_law_purse" ["_law_cell_here"] (spN K (f__law_purse))) (c__law_weight : Cal P w K mg base 2 "_law_weight" ["_law_purse_here"] (spO K (f__law_weight))) (c__law_take : Cal P w K mg base 1 "_law_take" ["_law_purse_here", "_law_many"] (spO K (f__law_take))) (z_tuple : mg "tuple" = none) : Cal P w K mg base 3 "_law_row" ["_law_cell_here", "_law_names_here"] (spD K f__law_row) := by
  refine fn_D F sc__law_row f__law_row_len fun fa cdv A outer s H E ds R hr h => ?_
  have hU := hr.units
  refine ⟨_, (dss_cons (ds_setN 2 sc__law_row.nd c__law_purse (hr.mono (by decide)) rfl (da_cons (de_v 0) da_nil)) (dss_cons (ds_newL 3 sc__law_row.nd da_nil) (dss_cons (ds_forL PassesOwn.never rfl (de_v 1) (dg_name 4 sc__law_row.nd) (dss_cons (ds_set 5 sc__law_row.nd (de_callO 2 c__law_weight (hr.mono (by decide)) rfl da_nil)) (dss_one (ds_if (dt_cmp (o_neq hU) (de_v 5) de_int (nomark _)) (dss_one (ds_appendO 3 (de_tup (da_cons (de_v 4) (da_cons (de_v 5) da_nil))))) dss_nil)))) (dss_cons (ds_set 6 sc__law_row.nd (de_callO 2 c__law_weight (hr.mono (by decide)) rfl da_nil)) (dss_one (ds_ret (de_tup (da_cons (de_ix x_seq (de_lst (da_cons de_str (da_cons de_str da_nil))) (de_callO 2 c__law_take (hr.mono (by decide)) rfl (da_cons de_int da_nil)) (fun _ _ => rfl)) (da_cons (de_tupleO 3 rfl z_tuple b_tuple) (da_cons (de_v 6) da_nil)))))))))), ?_⟩
  obtain ⟨c, names, rfl, hc, hl, q⟩ := h
  walk_at "rd"
  refine ⟨c, rfl, hc, fun a b pu => ?_⟩
  walk_at "rd"
  intro pa ta
  simp only [dForL]
  walk_at "rd"
  refine ⟨fun i δ => ∃ a b ts x y z, δ = [.dat (.int c), .dat (.lst (names.map D.str)), .own pa (.lst [.int a, .int b]), .own ta (.lst (ts.map tmD)), x, y, z] ∧ Purse a b ∧ ts.length ≤ i ∧ Terms (names.take i) ts, ⟨a, b, [], _, _, _, rfl, pu, Nat.le_refl _, ⟨by simp, fun _ h => (nomatch h), fun _ h => (nomatch h)⟩⟩, ?_, ?_⟩
  · rintro i d δ hd ⟨a, b, ts, x, y, z, rfl, pu, hl2, tm⟩
    rw [List.getElem?_map] at hd
    cases hn : names[i]? with
    | none => rw [hn] at hd; cases hd
    | some n =>
      rw [hn] at hd
      cases hd
      have hil : i < names.length := (List.getElem?_eq_some_iff.mp hn).1
      walk_at "rd"
      refine ⟨a, b, rfl, rfl, pu, fun a1 b1 r pu1 br => ?_⟩
      walk_at "rd"
      have htk : names.take (i + 1) = names.take i ++ [n] := by rw [List.take_add_one, hn]; rfl
      refine ite2 (fun c0 => ⟨by rw [List.length_map]; omega, ts ++ [(n, r)], by rw [List.map_append]; rfl, pu1, by rw [List.length_append, List.length_singleton]; omega, ?_⟩) (fun c0 => ⟨ts, rfl, pu1, by omega, ?_⟩)
      · rw [htk]
        refine ⟨by rw [List.map_append]; exact tm.sub.append (List.Sublist.refl _), fun t ht => ?_, fun t ht => ?_⟩
        · rcases List.mem_append.mp ht with ht | ht
          · exact tm.nz t ht
          · rw [List.mem_singleton.mp ht]; exact c0
        · rcases List.mem_append.mp ht with ht | ht
          · exact tm.bits t ht
          · rw [List.mem_singleton.mp ht]; exact br
      · rw [htk]
        exact ⟨tm.sub.trans (List.sublist_append_left _ _), tm.nz, tm.bits⟩
  · rintro δ ⟨a, b, ts, x, y, z, rfl, pu, hl2, tm⟩
    walk_at "rd"
    rw [List.length_map, List.take_length] at tm
    refine ⟨a, b, rfl, rfl, pu, fun a1 b1 r pu1 br => ?_⟩
    refine ⟨a1, b1, 2, rfl, rfl, pu1, by decide, by decide, fun a2 b2 r2 pu2 s0 s1 => ?_⟩
    have hr2 : r2 = 0 ∨ r2 = 1 := by omega
    rcases hr2 with rfl | rfl
    · walk_at "rd"
      exact q .least ts r tm br
    · walk_at "rd"
      exact q .more ts r tm br

/-- a saying -/
inductive Say where
  | row (k : Kd) (ts : List (Str × Int)) (b : Int)
  | nt (s : Say)
  | bo (s t : Say)
  | ei (s t : Say)
def Say.D : Say → D
  | .row k ts b => rowD k ts b
  | .nt s => .tup [.str "not", s.D]
  | .bo s t => .tup [.str "both", s.D, t.D]
  | .ei s t => .tup [.str "either", s.D, t.D]
def Say.dep : Say → Nat
  | .row _ _ _ => 1
  | .nt s => s.dep + 1
  | .bo s t => max s.dep t.dep + 1
  | .ei s t => max s.dep t.dep + 1
/-- its names, as often as they stand -/
def Say.nms : Say → List Str
  | .row _ ts _ => ts.map (·.1)
  | .nt s => s.nms
  | .bo s t => s.nms ++ t.nms
  | .ei s t => s.nms ++ t.nms
/-- all its rows' terms are of these names -/
def Say.ok (names : List Str) : Say → Prop
  | .row _ ts b => Terms names ts ∧ Builtin.Int.intBits b ≤ 10000
  | .nt s => s.ok names
  | .bo s t => s.ok names ∧ t.ok names
  | .ei s t => s.ok names ∧ t.ok names
theorem Say.dep_pos : ∀ s : Say, 0 < s.dep
  | .row _ _ _ => Nat.one_pos
  | .nt s => Nat.succ_pos _
  | .bo s t => Nat.succ_pos _
  | .ei s t => Nat.succ_pos _
theorem Say.nms_sub {names : List Str} : ∀ {s : Say}, s.ok names → ∀ n ∈ s.nms, n ∈ names
  | .row _ ts _, h, n, hn => h.1.sub.subset hn
  | .nt s, h, n, hn => Say.nms_sub (s := s) h n hn
  | .bo s t, h, n, hn => (List.mem_append.mp hn).elim (Say.nms_sub h.1 n) (Say.nms_sub h.2 n)
  | .ei s t, h, n, hn => (List.mem_append.mp hn).elim (Say.nms_sub h.1 n) (Say.nms_sub h.2 n)
def Say.isRow : Say → Bool
  | .row _ _ _ => true
  | _ => false
def f_is_row : List D → (D → Prop) → Prop := fun ds R => ∃ s : Say, ds = [s.D] ∧ R (.bl s.isRow)
theorem f_is_row_len : ∀ ds R, f_is_row ds R → ds.length = 1 := fun _ _ ⟨_, e, _⟩ => by rw [e]; rfl
abbrev s_is_row : Stmt := top 1
theorem sc_is_row : FnScope ["saying"] ["saying"] (defScope s_is_row) := ⟨rfl, rfl, rfl, by decide +kernel, rfl, by decide +kernel, by decide +kernel⟩
theorem cal_is_row {P : Program} {w : World} {K : PySem.W.Frag} {mg : Str → Option Value} {base : Heap} (F : Fd K mg "is_row" s_is_row ["saying"]) : Cal P w K mg base 1 "is_row" ["saying"] (spD K f_is_row) := by
  refine fn_D F sc_is_row f_is_row_len fun fa cdv A outer s H E ds R hr h => ?_
  have hU := hr.units
  refine ⟨_, (dss_one (ds_ret (de_or (de_cmp (o_eq hU) (de_ix x_seq (de_v 0) de_int (fun _ _ => rfl)) de_str (nomark _)) (de_one (de_cmp (o_eq hU) (de_ix x_seq (de_v 0) de_int (fun _ _ => rfl)) de_str (nomark _)))))), ?_⟩
  obtain ⟨s, rfl, q⟩ := h
  walk_at "rd"
  cases s with
  | row k ts b =>
    cases k
    · unfold Say.D rowD kdS; walk_at "rd"; exact q
    · unfold Say.D rowD kdS; walk_at "rd"; exact ifn (by decide) q
  | nt s => unfold Say.D; walk_at "rd"; exact ifn (by decide) q
  | bo s t => unfold Say.D; walk_at "rd"; exact ifn (by decide) q
  | ei s t => unfold Say.D; walk_at "rd"; exact ifn (by decide) q
def putAll (ks : List Str) (l : List Str) : List Str := l.foldl kPut ks
def trues (n : Nat) : List D := List.replicate n (.bl true)
theorem kPut_nd {ks : List Str} {x : Str} (h : ks.Nodup) : (kPut ks x).Nodup := by
  unfold kPut
  by_cases e : x ∈ ks
  · rw [if_pos e]; exact h
  · rw [if_neg e, List.nodup_append]
    exact ⟨h, by simp, fun a ha b hb z => by rw [List.mem_singleton.mp hb] at z; exact e (z ▸ ha)⟩
theorem kPut_mem {ks : List Str} {x y : Str} : y ∈ kPut ks x ↔ y ∈ ks ∨ y = x := by
  unfold kPut
  by_cases e : x ∈ ks
  · rw [if_pos e]
    exact ⟨.inl, fun h => h.elim id fun z => z ▸ e⟩
  · rw [if_neg e, List.mem_append, List.mem_singleton]
theorem putAll_nd : ∀ {l ks : List Str}, ks.Nodup → (putAll ks l).Nodup
  | [], _, h => h
  | _ :: l, _, h => putAll_nd (l := l) (kPut_nd h)
theorem putAll_mem : ∀ {l ks : List Str} {y : Str}, y ∈ putAll ks l ↔ y ∈ ks ∨ y ∈ l
  | [], ks, y => by show y ∈ ks ↔ _; simp
  | x :: l, ks, y => by
    show y ∈ putAll (kPut ks x) l ↔ _
    rw [putAll_mem, kPut_mem, List.mem_cons, or_assoc]
theorem putAll_append {ks l r : List Str} : putAll ks (l ++ r) = putAll (putAll ks l) r := List.foldl_append ..
theorem rep_trues : ∀ (ks : List Str) (n : Nat) (x : Str), vRep ks (trues n) x (D.bl true) = trues n
  | [], n, x => by cases n <;> rfl
  | k :: ks, 0, x => rfl
  | k :: ks, n + 1, x => by
    show (if k = x then D.bl true else D.bl true) :: vRep ks (trues n) x (D.bl true) = D.bl true :: trues n
    rw [rep_trues ks n x]; split <;> rfl
theorem put_trues {ks : List Str} {x : Str} : vPut ks (trues ks.length) x (D.bl true) = trues (kPut ks x).length := by
  unfold vPut kPut
  by_cases e : x ∈ ks
  · rw [if_pos e, if_pos e, rep_trues]
  · rw [if_neg e, if_neg e, List.length_append]
    show List.replicate _ _ ++ List.replicate 1 _ = List.replicate _ _
    rw [List.replicate_append_replicate]; rfl
theorem nd_le {ks names : List Str} (h : ks.Nodup) (s : ∀ k ∈ ks, k ∈ names) : ks.length ≤ names.length := List.Nodup.length_le_of_subset h s
/-- the parts within -/
def Say.subs : Say → List Say
  | .row _ _ _ => []
  | .nt s => [s]
  | .bo s t => [s, t]
  | .ei s t => [s, t]
theorem Say.subs_dep {s u : Say} (h : u ∈ s.subs) : u.dep < s.dep := by
  cases s with
  | row k ts b => cases h
  | nt s => rw [List.mem_singleton.mp h]; exact Nat.lt_succ_self _
  | bo s t =>
    have h : u ∈ [s, t] := h
    simp only [List.mem_cons, List.not_mem_nil, or_false] at h
    show u.dep < max s.dep t.dep + 1
    rcases h with rfl | rfl <;> omega
  | ei s t =>
    have h : u ∈ [s, t] := h
    simp only [List.mem_cons, List.not_mem_nil, or_false] at h
    show u.dep < max s.dep t.dep + 1
    rcases h with rfl | rfl <;> omega
theorem Say.subs_ok {names : List Str} {s u : Say} (h : u ∈ s.subs) (o : s.ok names) : u.ok names := by
  cases s with
  | row k ts b => cases h
  | nt s => rw [List.mem_singleton.mp h]; exact o
  | bo s t =>
    have h : u ∈ [s, t] := h
    simp only [List.mem_cons, List.not_mem_nil, or_false] at h
    rcases h with rfl | rfl
    · exact o.1
    · exact o.2
  | ei s t =>
    have h : u ∈ [s, t] := h
    simp only [List.mem_cons, List.not_mem_nil, or_false] at h
    rcases h with rfl | rfl
    · exact o.1
    · exact o.2
def Say.word : Say → Str
  | .row k _ _ => kdS k
  | .nt _ => "not"
  | .bo _ _ => "both"
  | .ei _ _ => "either"
theorem Say.D_subs {s : Say} (h : s.isRow = false) : s.D = .tup (.str s.word :: s.subs.map Say.D) := by
  cases s with
  | row => cases h
  | nt => rfl
  | bo => rfl
  | ei => rfl
theorem Say.nms_subs {s : Say} (h : s.isRow = false) : s.nms = s.subs.flatMap Say.nms := by
  cases s with
  | row => cases h
  | nt s => show s.nms = s.nms ++ []; rw [List.append_nil]
  | bo s t => show s.nms ++ t.nms = s.nms ++ (t.nms ++ []); rw [List.append_nil]
  | ei s t => show s.nms ++ t.nms = s.nms ++ (t.nms ++ []); rw [List.append_nil]
theorem cut_tail {α : Type} {x : α} {xs : List α} : cut (x :: xs) (some 1) none = xs := by
  unfold cut
  have e1 : HT.sIx (x :: xs).length 0 (some 1) = 1 := by
    have := HT.sIx_nat (x :: xs).length 0 1
    rw [List.length_cons] at this ⊢
    rw [show (some (1 : Int)) = some ((1 : Nat) : Int) from rfl, this]
    omega
  rw [e1, HT.sIx_none, List.length_cons, List.drop_one, List.tail_cons, Nat.add_sub_cancel, List.take_length]
def f_mark_names (n : Nat) : FO := fun d ds R => ∃ names s ks, ds = [Say.D s] ∧ s.dep ≤ n ∧ s.ok names ∧ names.length ≤ 100 ∧ ks.Nodup ∧ (∀ k ∈ ks, k ∈ names) ∧ d = .dct ks (trues ks.length) ∧ R .non (.dct (putAll ks s.nms) (trues (putAll ks s.nms).length))
theorem f_mark_names_len (n : Nat) : ∀ d ds R, f_mark_names n d ds R → ds.length = 1 := fun _ _ _ ⟨_, _, _, e, _⟩ => by rw [e]; rfl
theorem f_mark_names_none : ∀ d ds R, ¬ f_mark_names 0 d ds R := fun _ _ _ ⟨_, s, _, _, h, _⟩ => by have := s.dep_pos; omega
abbrev s_mark_names : Stmt := top 2
theorem sc_mark_names : FnScope ["saying", "found", "name", "weight", "part"] ["saying", "found"] (defScope s_mark_names) := ⟨rfl, rfl, rfl, by decide +kernel, rfl, by decide +kernel, by decide +kernel⟩
theorem cal_mark_names {P : Program} {w : World} {K : PySem.W.Frag} {mg : Str → Option Value} {base : Heap} (F : Fd K mg "mark_names" s_mark_names ["saying", "found"]) (c_is_row : Cal P w K mg base 1 "is_row" ["saying"] (spD K (f_is_row))) {n : Nat} (c_mark_names : Cal P w K mg base (2 + n) "mark_names" ["saying", "found"] (spO1 K (f_mark_names n))) : Cal P w K mg base (2 + n + 1) "mark_names" ["saying", "found"] (spO1 K (f_mark_names (n + 1))) := by
  refine fn_O1 (k := 2 + n) F sc_mark_names rfl (f_mark_names_len (n + 1)) fun fa cdv A outer s H E oa d0 d R hr h => ?_
  have hU := hr.units
  refine ⟨_, (dss_cons (ds_if (dt_val (de_cal c_is_row (hr.mono (by omega)) rfl (da_cons (de_v 0) da_nil))) (dss_cons (ds_forT PassesOwn.never rfl (de_ix x_seq (de_v 0) de_int (fun _ _ => rfl)) (dg_tup (n := 2) rfl (dgs_cons (dg_name 2 sc_mark_names.nd) (dgs_cons (dg_name 3 sc_mark_names.nd) dgs_nil))) (dss_one (ds_putD 1 hU de_bl (de_v 2)))) (dss_one ds_retN)) dss_nil) (dss_one (ds_forT PassesOwn.never rfl (de_slL (de_v 0) (do_some de_int) do_none) (dg_name 4 sc_mark_names.nd) (dss_one (ds_expr (de_callO1 1 c_mark_names (hr.mono (by omega)) rfl (de_v 4))))))), ?_⟩
  obtain ⟨names, s, ks, e, hd, ok, hl, nd, sub, rfl, q⟩ := h
  cases e
  walk_at "rd"
  refine ⟨s, rfl, ?_⟩
  walk_at "rd"
  cases hrow : s.isRow with
  | true =>
    cases s with
    | row k ts b =>
      refine ifp rfl ?_
      simp only [dForT]
      unfold Say.D rowD
      walk_at "rd"
      have tsub : ∀ t ∈ ts, t.1 ∈ names := fun t h => ok.1.sub.subset (List.mem_map.mpr ⟨t, h, rfl⟩)
      have sub2 : ∀ i, ∀ x ∈ putAll ks ((ts.take i).map (·.1)), x ∈ names := fun i x hx => (putAll_mem.mp hx).elim (sub x) fun h => by
        obtain ⟨t, h1, rfl⟩ := List.mem_map.mp h
        exact tsub t (List.mem_of_mem_take h1)
      refine ⟨fun i δ => ∃ x y z, δ = [.dat (.tup [.str (kdS k), .tup (ts.map tmD), .int b]), .own oa (.dct (putAll ks ((ts.take i).map (·.1))) (trues (putAll ks ((ts.take i).map (·.1))).length)), x, y, z], ⟨_, _, _, rfl⟩, ?_, ?_⟩
      · rintro i d δ hd ⟨x, y, z, rfl⟩
        obtain ⟨t, hn, rfl⟩ := terms_get hd
        walk_at "rd"
        have l1 := nd_le (putAll_nd (l := (ts.take i).map (·.1)) nd) (sub2 i)
        refine ⟨by omega, ?_⟩
        rw [put_trues, take_snoc hn, List.map_append, putAll_append]
        exact ⟨rfl, rfl⟩
      · rintro δ ⟨x, y, z, rfl⟩
        rw [List.length_map, List.take_length]
        exact ⟨_, rfl, q⟩
    | nt s => cases hrow
    | bo s t => cases hrow
    | ei s t => cases hrow
  | false =>
    refine ifn Bool.false_ne_true ?_
    simp only [dForT]
    rw [Say.D_subs hrow]
    walk_at "rd"
    rw [fSl]
    refine ⟨fun ⟨h, _⟩ => ?_, ?_⟩
    · rw [show (some (1 : Int)) = some ((1 : Nat) : Int) from rfl, HT.sIx_nat, List.length_cons] at h
      omega
    rw [cut_tail]
    walk_at "rd"
    have sub2 : ∀ i, ∀ x ∈ putAll ks ((s.subs.take i).flatMap Say.nms), x ∈ names := fun i x hx => (putAll_mem.mp hx).elim (sub x) fun h => by
      obtain ⟨u, h1, h2⟩ := List.mem_flatMap.mp h
      exact Say.nms_sub (Say.subs_ok (List.mem_of_mem_take h1) ok) x h2
    refine ⟨fun i δ => ∃ x y z, δ = [.dat (.tup (.str s.word :: s.subs.map Say.D)), .own oa (.dct (putAll ks ((s.subs.take i).flatMap Say.nms)) (trues (putAll ks ((s.subs.take i).flatMap Say.nms)).length)), x, y, z], ⟨_, _, _, rfl⟩, ?_, ?_⟩
    · rintro i d δ hd2 ⟨x, y, z, rfl⟩
      rw [List.getElem?_map] at hd2
      cases hu : s.subs[i]? with
      | none => rw [hu] at hd2; cases hd2
      | some u =>
        rw [hu] at hd2
        cases hd2
        have hm := List.mem_of_getElem? hu
        have dp := Say.subs_dep hm
        walk_at "rd"
        refine ⟨names, u, _, rfl, by omega, Say.subs_ok hm ok, hl, putAll_nd nd, sub2 i, rfl, ?_⟩
        walk_at "rd"
        rw [take_snoc hu, List.flatMap_append, List.flatMap_singleton, putAll_append]
        exact ⟨rfl, rfl⟩
    · rintro δ ⟨x, y, z, rfl⟩
      rw [List.length_map, List.take_length, ← Say.nms_subs hrow]
      exact ⟨_, rfl, q⟩
def f_names_of : List D → (D → Prop) → Prop := fun ds R => ∃ names s, ds = [Say.D s] ∧ s.dep ≤ 60 ∧ s.ok names ∧ names.length ≤ 60 ∧ ∀ ss : List Str, ss.Nodup → (∀ x, x ∈ ss ↔ x ∈ s.nms) → Srt ss → R (.lst (ss.map D.str))
theorem f_names_of_len : ∀ ds R, f_names_of ds R → ds.length = 1 := fun _ _ ⟨_, _, e, _⟩ => by rw [e]; rfl
abbrev s_names_of : Stmt := top 3
theorem sc_names_of : FnScope ["saying", "found"] ["saying"] (defScope s_names_of) := ⟨rfl, rfl, rfl, by decide +kernel, rfl, by decide +kernel, by decide +kernel⟩
theorem cal_names_of {P : Program} {w : World} {K : PySem.W.Frag} {mg : Str → Option Value} {base : Heap} (F : Fd K mg "names_of" s_names_of ["saying"]) (c_mark_names : Cal P w K mg base 62 "mark_names" ["saying", "found"] (spO1 K (f_mark_names 60))) (z_sorted : mg "sorted" = none) : Cal P w K mg base 63 "names_of" ["saying"] (spD K f_names_of) := by
  refine fn_D F sc_names_of f_names_of_len fun fa cdv A outer s H E ds R hr h => ?_
  have hU := hr.units
  refine ⟨_, (dss_cons (ds_newD 1 sc_names_of.nd) (dss_cons (ds_expr (de_callO1 1 c_mark_names (hr.mono (by decide)) rfl (de_v 0))) (dss_freeze 1 (dss_one (ds_ret (de_callB (c_sorted rfl) rfl z_sorted b_sorted (da_cons (de_v 1) da_nil))))))), ?_⟩
  obtain ⟨names, s, rfl, hd, ok, hl, q⟩ := h
  walk_at "rd"
  refine ⟨names, s, [], rfl, hd, ok, by omega, List.nodup_nil, fun k h => (nomatch h), rfl, ?_⟩
  walk_at "rd"
  have nd : (putAll [] s.nms).Nodup := putAll_nd List.nodup_nil
  have sub : ∀ x ∈ putAll [] s.nms, x ∈ names := fun x hx => (putAll_mem.mp hx).elim (fun h => (nomatch h)) (Say.nms_sub ok x)
  refine ⟨by have := nd_le nd sub; omega, fun ss hp hs => q ss (hp.nodup_iff.mpr nd) (fun x => ?_) hs⟩
  rw [hp.mem_iff, putAll_mem]
  simp

def cellAt (ns : List Int) (k : Int) : Int := ns.getD k.toNat 0
def f__law_cell : List D → (D → Prop) → Prop := fun ds R => ∃ (ns : List Int) (k : Int), ds = [.fz (ns.map D.int), .int k] ∧ 0 ≤ k ∧ R (.int (cellAt ns k))
theorem f__law_cell_len : ∀ ds R, f__law_cell ds R → ds.length = 2 := fun _ _ ⟨_, _, e, _⟩ => by rw [e]; rfl
theorem atI_in {α : Type} {xs : List α} {k : Int} (h0 : 0 ≤ k) (h : k < xs.length) : atI xs k = xs[k.toNat]? := by
  unfold atI ixN
  rw [if_pos h0, if_pos h]
  rfl
abbrev s__law_cell : Stmt := top 6
theorem sc__law_cell : FnScope ["_law_script", "_law_k"] ["_law_script", "_law_k"] (defScope s__law_cell) := ⟨rfl, rfl, rfl, by decide +kernel, rfl, by decide +kernel, by decide +kernel⟩
theorem cal__law_cell {P : Program} {w : World} {K : PySem.W.Frag} {mg : Str → Option Value} {base : Heap} (F : Fd K mg "_law_cell" s__law_cell ["_law_script", "_law_k"]) (z_len : mg "len" = none) : Cal P w K mg base 1 "_law_cell" ["_law_script", "_law_k"] (spD K f__law_cell) := by
  refine fn_D F sc__law_cell f__law_cell_len fun fa cdv A outer s H E ds R hr h => ?_
  have hU := hr.units
  refine ⟨_, (dss_cons (ds_if (dt_cmp o_lt (de_v 1) (de_callB c_len rfl z_len b_len (da_cons (de_v 0) da_nil)) (nomark _)) (dss_one (ds_ret (de_ix x_seq (de_v 0) (de_v 1) (fun _ _ => rfl)))) dss_nil) (dss_one (ds_ret de_int))), ?_⟩
  obtain ⟨ns, k, rfl, h0, q⟩ := h
  walk_at "rd"
  refine ite2 (fun c => ?_) (fun c => ?_)
  · rw [List.length_map] at c
    refine ⟨.int (cellAt ns k), ?_, q⟩
    rw [atI_in h0 (by rw [List.length_map]; exact c), List.getElem?_map]
    have : k.toNat < ns.length := by omega
    unfold cellAt
    rw [List.getD_eq_getElem?_getD, List.getElem?_eq_getElem this]
    rfl
  · rw [List.length_map] at c
    have : ns.length ≤ k.toNat := by omega
    unfold cellAt at q
    rw [List.getD_eq_getElem?_getD, List.getElem?_eq_none this] at q
    exact q

theorem cut_to {α : Type} {xs : List α} {k : Nat} : cut xs none (some (k : Int)) = xs.take k := by
  unfold cut
  rw [HT.sIx_none, HT.sIx_nat, List.drop_zero, Nat.sub_zero]
  by_cases h : k ≤ xs.length
  · rw [Nat.min_eq_left h]
  · rw [Nat.min_eq_right (by omega), List.take_length, List.take_of_length_le (by omega)]
theorem atI_map {α β : Type} {f : α → β} {xs : List α} {k : Nat} (h : k < xs.length) : atI (xs.map f) (k : Int) = some (f xs[k]) := by
  rw [atI_in (by omega) (by rw [List.length_map]; omega), List.getElem?_map, Int.toNat_natCast, List.getElem?_eq_getElem h]
  rfl
theorem cell_bits {ns : List Int} {n : Nat} (hb : ∀ c ∈ ns, Builtin.Int.intBits c ≤ n) (k : Int) : Builtin.Int.intBits (cellAt ns k) ≤ n := by
  unfold cellAt
  rw [List.getD_eq_getElem?_getD]
  cases e : ns[k.toNat]? with
  | none => exact Nat.le_trans (by decide : Builtin.Int.intBits 0 ≤ 0) (Nat.zero_le _)
  | some c => exact hb c (List.mem_of_getElem? e)
theorem cut_map {α β : Type} (f : α → β) (l : List α) (lo hi : Option Int) : cut (l.map f) lo hi = (cut l lo hi).map f := by
  unfold cut
  rw [List.length_map, List.map_take, List.map_drop]
theorem cut_mem {α : Type} {l : List α} {lo hi : Option Int} {x : α} (h : x ∈ cut l lo hi) : x ∈ l := List.mem_of_mem_drop (List.mem_of_mem_take h)
theorem cut_le {α : Type} {l : List α} {lo hi : Option Int} : (cut l lo hi).length ≤ l.length := by
  unfold cut
  rw [List.length_take, List.length_drop]; omega
theorem cut_len {α : Type} {l : List α} (a b : Nat) : (cut l (some (a : Int)) (some (b : Int))).length ≤ b - a := by
  unfold cut
  rw [List.length_take, List.length_drop, HT.sIx_nat, HT.sIx_nat]; omega

theorem lt_get {α : Type} {l : List α} {i : Nat} {x : α} (h : l[i]? = some x) : i < l.length := (List.getElem?_eq_some_iff.mp h).1
/-- a heap of sayings, the last one last -/
structure Heap1 (names : List Str) (ss : List Say) (n : Nat) : Prop where
  ok : ∀ s ∈ ss, s.ok names
  dep : (ss.map Say.dep).sum ≤ n
  pos : 0 < ss.length
theorem row_say {names : List Str} {k : Kd} {ts : List (Str × Int)} {b : Int} (tm : Terms names ts) (hb : Builtin.Int.intBits b ≤ 200) : Say.ok names (.row k ts b) := ⟨tm, Nat.le_trans hb (by decide)⟩
theorem last_of {α : Type} {l : List α} (h : 0 < l.length) : ∃ i x, l = i ++ [x] := by
  have : l ≠ [] := by intro e; rw [e] at h; cases h
  exact ⟨l.dropLast, l.getLast this, (List.dropLast_concat_getLast this).symm⟩
theorem ixN_last (n : Nat) : ixN (n + 1) (-1) = some n := by
  unfold ixN
  rw [if_neg (by omega), if_pos (by omega)]
  congr 1
  omega
theorem set_last {α : Type} (l : List α) (x y : α) : (l ++ [x]).set l.length y = l ++ [y] := by
  rw [List.set_append_right _ _ (Nat.le_refl _), Nat.sub_self]; rfl
theorem both_at {x y : D} {c : Int} : ∃ v, atI [x, y] (c.fmod 2) = some v ∧ (v = x ∨ v = y) := by
  have h0 := Int.fmod_nonneg_of_pos c (b := 2) (by decide)
  have h1 := Int.fmod_lt_of_pos c (b := 2) (by decide)
  have h : c.fmod 2 = 0 ∨ c.fmod 2 = 1 := by omega
  rcases h with h | h
  · rw [h]; exact ⟨x, at0, .inl rfl⟩
  · rw [h]; exact ⟨y, at1, .inr rfl⟩
theorem sum_snoc (l : List Say) (x : Say) : ((l ++ [x]).map Say.dep).sum = (l.map Say.dep).sum + x.dep := by
  rw [List.map_append, List.sum_append]; show _ + (x.dep + 0) = _; rfl
theorem len_sum : ∀ l : List Say, l.length ≤ (l.map Say.dep).sum
  | [] => Nat.le_refl _
  | x :: l => by
    have := len_sum l
    have := x.dep_pos
    show l.length + 1 ≤ x.dep + (l.map Say.dep).sum
    omega
theorem Heap1.len {names : List Str} {ss : List Say} {n : Nat} (h : Heap1 names ss n) : ss.length ≤ n := Nat.le_trans (len_sum ss) h.dep
theorem Heap1.not {names : List Str} {l : List Say} {x : Say} {n : Nat} (h : Heap1 names (l ++ [x]) n) : Heap1 names (l ++ [.nt x]) (n + 1) := by
  refine ⟨fun s hs => ?_, ?_, by simp⟩
  · rcases List.mem_append.mp hs with hs | hs
    · exact h.ok s (List.mem_append_left _ hs)
    · rw [List.mem_singleton.mp hs]
      exact h.ok x (by simp)
  · have := h.dep
    rw [sum_snoc] at this ⊢
    show _ + (x.dep + 1) ≤ _
    omega
theorem Heap1.row {names : List Str} {l : List Say} {x : Say} {n : Nat} (h : Heap1 names l n) (o : x.ok names) (d : x.dep = 1) : Heap1 names (l ++ [x]) (n + 1) := by
  refine ⟨fun s hs => ?_, ?_, by simp⟩
  · rcases List.mem_append.mp hs with hs | hs
    · exact h.ok s hs
    · rw [List.mem_singleton.mp hs]; exact o
  · have := h.dep
    rw [sum_snoc]
    omega
theorem Heap1.join {names : List Str} {l : List Say} {x y z : Say} {n : Nat} (h : Heap1 names (l ++ [x] ++ [y]) n) (hz : z = .bo x y ∨ z = .ei x y) : Heap1 names (l ++ [z]) n := by
  have ox := h.ok x (by simp)
  have oy := h.ok y (by simp)
  have px := x.dep_pos
  have py := y.dep_pos
  have dz : z.dep ≤ x.dep + y.dep := by
    rcases hz with rfl | rfl
    · show max x.dep y.dep + 1 ≤ _; omega
    · show max x.dep y.dep + 1 ≤ _; omega
  have oz : z.ok names := by
    rcases hz with rfl | rfl
    · exact ⟨ox, oy⟩
    · exact ⟨ox, oy⟩
  refine ⟨fun s hs => ?_, ?_, by simp⟩
  · rcases List.mem_append.mp hs with hs | hs
    · exact h.ok s (by simp [hs])
    · rw [List.mem_singleton.mp hs]; exact oz
  · have := h.dep
    rw [sum_snoc, sum_snoc] at this
    rw [sum_snoc]
    omega
theorem join_D {v : D} {x y : Say} (h : v = .str "both" ∨ v = .str "either") : ∃ z : Say, (z = .bo x y ∨ z = .ei x y) ∧ D.tup [v, x.D, y.D] = z.D := by
  rcases h with rfl | rfl
  · exact ⟨.bo x y, .inl rfl, rfl⟩
  · exact ⟨.ei x y, .inr rfl, rfl⟩
def f__law_wild : List D → (D → Prop) → Prop := fun ds R => ∃ (cs : List Int) (names : List Str), ds = [.lst (cs.map D.int), .lst (names.map D.str)] ∧ cs.length ≤ 58 ∧ (∀ c ∈ cs, Builtin.Int.intBits c ≤ 1048576) ∧ names.length ≤ 60 ∧ ∀ s : Say, s.ok names → s.dep ≤ cs.length + 1 → R s.D
theorem f__law_wild_len : ∀ ds R, f__law_wild ds R → ds.length = 2 := fun _ _ ⟨_, _, e, _⟩ => by rw [e]; rfl
/-- how many parts -/
def Say.parts : Say → Nat
  | .row _ _ _ => 1
  | .nt s => s.parts + 1
  | .bo s t => s.parts + t.parts + 1
  | .ei s t => s.parts + t.parts + 1
def prt (l : List Say) : Nat := (l.map Say.parts).sum
theorem Say.parts_subs {s : Say} (h : s.isRow = false) : s.parts = 1 + prt s.subs := by
  cases s with
  | row => cases h
  | nt s => show s.parts + 1 = 1 + (s.parts + 0); omega
  | bo s t => show s.parts + t.parts + 1 = 1 + (s.parts + (t.parts + 0)); omega
  | ei s t => show s.parts + t.parts + 1 = 1 + (s.parts + (t.parts + 0)); omega
def f_parts_of (n : Nat) : List D → (D → Prop) → Prop := fun ds R => ∃ s : Say, ds = [s.D] ∧ s.dep ≤ n ∧ R (.int s.parts)
theorem f_parts_of_len (n : Nat) : ∀ ds R, f_parts_of n ds R → ds.length = 1 := fun _ _ ⟨_, e, _⟩ => by rw [e]; rfl
theorem f_parts_of_none : ∀ ds R, ¬ f_parts_of 0 ds R := fun _ _ ⟨s, _, h, _⟩ => by have := s.dep_pos; omega
abbrev s_parts_of : Stmt := top 4
theorem sc_parts_of : FnScope ["saying", "parts", "part"] ["saying"] (defScope s_parts_of) := ⟨rfl, rfl, rfl, by decide +kernel, rfl, by decide +kernel, by decide +kernel⟩
theorem cal_parts_of {P : Program} {w : World} {K : PySem.W.Frag} {mg : Str → Option Value} {base : Heap} (F : Fd K mg "parts_of" s_parts_of ["saying"]) (c_is_row : Cal P w K mg base 1 "is_row" ["saying"] (spD K (f_is_row))) {n : Nat} (c_parts_of : Cal P w K mg base (2 + n) "parts_of" ["saying"] (spD K (f_parts_of n))) : Cal P w K mg base (2 + n + 1) "parts_of" ["saying"] (spD K (f_parts_of (n + 1))) := by
  refine fn_D (k := 2 + n) F sc_parts_of (f_parts_of_len (n + 1)) fun fa cdv A outer s H E ds R hr h => ?_
  have hU := hr.units
  refine ⟨_, (dss_cons (ds_set 1 sc_parts_of.nd de_int) (dss_cons (ds_if (dt_not (dt_val (de_cal c_is_row (hr.mono (by omega)) rfl (da_cons (de_v 0) da_nil)))) (dss_one (ds_forT PassesOwn.never rfl (de_slL (de_v 0) (do_some de_int) do_none) (dg_name 2 sc_parts_of.nd) (dss_one (ds_aug 1 sc_parts_of.nd (de_cal c_parts_of (hr.mono (by omega)) rfl (da_cons (de_v 2) da_nil)))))) dss_nil) (dss_one (ds_ret (de_v 1))))), ?_⟩
  obtain ⟨s, rfl, hd, q⟩ := h
  refine seq_cut fun K hK => ?_
  walk_at "rd"
  rw [hK]
  refine seq_cut fun K2 hK2 => ?_
  walk_at "rd"
  refine ⟨s, rfl, ?_⟩
  cases hrow : s.isRow with
  | true =>
    walk_at "rd"
    rw [hK2]
    walk_at "rd"
    cases s with
    | row k ts b => exact q
    | nt s => cases hrow
    | bo s t => cases hrow
    | ei s t => cases hrow
  | false =>
    simp only [dForT]
    walk_at "rd"
    rw [Say.D_subs hrow]
    rw [fSl]
    refine ⟨fun ⟨h, _⟩ => ?_, ?_⟩
    · rw [show (some (1 : Int)) = some ((1 : Nat) : Int) from rfl, HT.sIx_nat, List.length_cons] at h
      omega
    rw [cut_tail]
    walk_at "rd"
    refine ⟨fun i δ => ∃ x, δ = [.dat (.tup (.str s.word :: s.subs.map Say.D)), .dat (.int (1 + prt (s.subs.take i) : Nat)), x], ⟨_, rfl⟩, ?_, ?_⟩
    · rintro i d δ hd2 ⟨x, rfl⟩
      rw [List.getElem?_map] at hd2
      cases hu : s.subs[i]? with
      | none => rw [hu] at hd2; cases hd2
      | some u =>
        rw [hu] at hd2
        cases hd2
        have dp := Say.subs_dep (List.mem_of_getElem? hu)
        walk_at "rd"
        refine ⟨u, rfl, by omega, ?_⟩
        walk_at "rd"
        rw [take_snoc hu]
        unfold prt
        rw [List.map_append, List.sum_append]
        show _ = ((1 + (_ + (u.parts + 0)) : Nat) : Int)
        omega
    · rintro δ ⟨x, rfl⟩
      rw [List.length_map, List.take_length, ← Say.parts_subs hrow, hK2]
      walk_at "rd"
      exact q
/-- the names of a saying, in order -/
structure NmOf (s : Say) (ns : List Str) : Prop where
  nd : ns.Nodup
  pw : ns.Pairwise leS
  mem : ∀ x, x ∈ ns ↔ x ∈ s.nms
abbrev Ent := Say × List Str
def entD (p : Ent) : D := .lst [p.1.D, .lst (p.2.map D.str), .int p.1.parts]
def f__law_laid : List D → (D → Prop) → Prop := fun ds R => ∃ c names, ds = [.int c, .lst (names.map D.str)] ∧ Builtin.Int.intBits c ≤ 1048576 ∧ Names names ∧ ∀ s ns, s.ok names → s.dep = 1 → NmOf s ns → R (entD (s, ns))
theorem f__law_laid_len : ∀ ds R, f__law_laid ds R → ds.length = 2 := fun _ _ ⟨_, _, e, _⟩ => by rw [e]; rfl
abbrev s__law_laid : Stmt := top 12
theorem sc__law_laid : FnScope ["_law_cell_here", "_law_names_here", "_law_laid_here"] ["_law_cell_here", "_law_names_here"] (defScope s__law_laid) := ⟨rfl, rfl, rfl, by decide +kernel, rfl, by decide +kernel, by decide +kernel⟩
theorem cal__law_laid {P : Program} {w : World} {K : PySem.W.Frag} {mg : Str → Option Value} {base : Heap} (F : Fd K mg "_law_laid" s__law_laid ["_law_cell_here", "_law_names_here"]) (c__law_row : Cal P w K mg base 3 "_law_row" ["_law_cell_here", "_law_names_here"] (spD K (f__law_row))) : Cal P w K mg base 4 "_law_laid" ["_law_cell_here", "_law_names_here"] (spD K f__law_laid) := by
  refine fn_D F sc__law_laid f__law_laid_len fun fa cdv A outer s H E ds R hr h => ?_
  have hU := hr.units
  refine ⟨_, (dss_cons (ds_set 2 sc__law_laid.nd (de_cal c__law_row (hr.mono (by decide)) rfl (da_cons (de_v 0) (da_cons (de_v 1) da_nil)))) (dss_one (ds_ret (de_lst (da_cons (de_v 2) (da_cons (de_comp ["_law_name", "_law_weight_here"] [] rfl rfl (by decide +kernel) rfl (by decide +kernel) (cl_sub trivial) (cl_has rfl) (cap_all trivial) (ci_tup (de_ix x_seq (de_v 2) de_int (fun _ _ => rfl))) fun _ _ _ _ _ => ⟨(dg_tup (n := 2) rfl (dgs_cons (dg_name 0 (show List.Nodup (["_law_name", "_law_weight_here"] : List Str) by decide +kernel)) (dgs_cons (dg_name 1 (show List.Nodup (["_law_name", "_law_weight_here"] : List Str) by decide +kernel)) dgs_nil))), cf_nil, (de_v 0)⟩) (da_cons de_int da_nil))))))), ?_⟩
  obtain ⟨c, names, rfl, hc, nm, q⟩ := h
  have l4 := nm.len
  walk_at "rd"
  refine ⟨c, names, rfl, hc, by omega, fun k ts b tm bb => ?_⟩
  unfold rowD
  walk_at "rd"
  have tl := tm.sub.length_le
  rw [List.length_map] at tl
  refine ⟨by rw [List.length_map]; omega, fun d => match d with | .tup (x :: _) => some x | _ => none, fun x hx => ?_, ?_⟩
  · obtain ⟨t, _, rfl⟩ := List.mem_map.mp hx
    exact ⟨_, rfl, rfl, _, _, rfl, _, _, rfl, rfl, rfl⟩
  · rw [filterMap_of _ tmD (fun t => D.str t.1) _ (by intro _ _; rfl)]
    have := q (.row k ts b) (ts.map (·.1)) (row_say tm bb) rfl ⟨List.Nodup.sublist tm.sub nm.nd, (srt_pw nm.srt).sublist tm.sub, fun x => Iff.rfl⟩
    unfold entD at this
    rw [List.map_map] at this
    exact this
def f__law_joined : List D → (D → Prop) → Prop := fun ds R => ∃ (v : D) (p q : Ent) (names : List Str), ds = [v, entD p, entD q] ∧ (v = .str "both" ∨ v = .str "either") ∧ names.length ≤ 4 ∧ p.1.ok names ∧ q.1.ok names ∧ NmOf p.1 p.2 ∧ NmOf q.1 q.2 ∧ ∀ z ns, (z = .bo p.1 q.1 ∨ z = .ei p.1 q.1) → NmOf z ns → R (entD (z, ns))
theorem f__law_joined_len : ∀ ds R, f__law_joined ds R → ds.length = 3 := fun _ _ ⟨_, _, _, _, e, _⟩ => by rw [e]; rfl
abbrev s__law_joined : Stmt := top 13
theorem sc__law_joined : FnScope ["_law_sort", "_law_one", "_law_other"] ["_law_sort", "_law_one", "_law_other"] (defScope s__law_joined) := ⟨rfl, rfl, rfl, by decide +kernel, rfl, by decide +kernel, by decide +kernel⟩
theorem cal__law_joined {P : Program} {w : World} {K : PySem.W.Frag} {mg : Str → Option Value} {base : Heap} (F : Fd K mg "_law_joined" s__law_joined ["_law_sort", "_law_one", "_law_other"]) (z_sorted : mg "sorted" = none) (z_set : mg "set" = none) : Cal P w K mg base 1 "_law_joined" ["_law_sort", "_law_one", "_law_other"] (spD K f__law_joined) := by
  refine fn_D F sc__law_joined f__law_joined_len fun fa cdv A outer s H E ds R hr h => ?_
  have hU := hr.units
  refine ⟨_, (dss_one (ds_ret (de_lst (da_cons (de_tup (da_cons (de_v 0) (da_cons (de_ix x_seq (de_v 1) de_int (fun _ _ => rfl)) (da_cons (de_ix x_seq (de_v 2) de_int (fun _ _ => rfl)) da_nil)))) (da_cons (de_ss rfl rfl z_sorted rfl z_set (de_op o_plus (de_ix x_seq (de_v 1) de_int (fun _ _ => rfl)) (de_ix x_seq (de_v 2) de_int (fun _ _ => rfl)))) (da_cons (de_op o_plus (de_op o_plus (de_ix x_seq (de_v 1) de_int (fun _ _ => rfl)) (de_ix x_seq (de_v 2) de_int (fun _ _ => rfl))) de_int) da_nil)))))), ?_⟩
  obtain ⟨v, ⟨s, ns⟩, ⟨t, ms⟩, names, rfl, hv, l4, o1, o2, n1, n2, q⟩ := h
  unfold entD
  walk_at "rd"
  have k1 : ns.length ≤ 4 := Nat.le_trans (nd_le n1.nd fun x hx => Say.nms_sub o1 x ((n1.mem x).mp hx)) l4
  have k2 : ms.length ≤ 4 := Nat.le_trans (nd_le n2.nd fun x hx => Say.nms_sub o2 x ((n2.mem x).mp hx)) l4
  refine ⟨by rw [List.length_map, List.length_map]; omega, ns ++ ms, by rw [List.map_append], by rw [List.length_append]; omega, fun ss nd hy st => ?_⟩
  have hm : ∀ x, x ∈ ss ↔ x ∈ s.nms ++ t.nms := fun x => by rw [hy x, List.mem_append, List.mem_append, n1.mem, n2.mem]
  rcases hv with rfl | rfl
  · have := q (.bo s t) ss (.inl rfl) ⟨nd, srt_pw st, hm⟩
    unfold entD at this
    rw [show ((Say.bo s t).parts : Int) = (s.parts : Int) + t.parts + 1 by show ((s.parts + t.parts + 1 : Nat) : Int) = _; omega] at this
    exact this
  · have := q (.ei s t) ss (.inr rfl) ⟨nd, srt_pw st, hm⟩
    unfold entD at this
    rw [show ((Say.ei s t).parts : Int) = (s.parts : Int) + t.parts + 1 by show ((s.parts + t.parts + 1 : Nat) : Int) = _; omega] at this
    exact this
theorem cut_neg {α : Type} (l r : List α) (k : Nat) (hk : r.length = k) (h0 : 0 < k) : cut (l ++ r) none (some (-(k : Int))) = l := by
  unfold cut
  rw [HT.sIx_none]
  have : HT.sIx (l ++ r).length (l ++ r).length (some (-(k : Int))) = l.length := by
    show (if -(k : Int) < 0 then (-(k : Int) + ((l ++ r).length : Int)).toNat else _) = _
    rw [if_pos (by omega), List.length_append]
    omega
  rw [this, List.drop_zero, Nat.sub_zero, List.take_left]
theorem atm2 {α : Type} (l : List α) (x y : α) : atI (l ++ [x] ++ [y]) (-2) = some x := by
  unfold atI ixN
  rw [if_neg (by omega)]
  simp only [List.length_append, List.length_singleton]
  rw [if_pos (by omega)]
  show (l ++ [x] ++ [y])[(-2 + ((l.length + 1 + 1 : Nat) : Int)).toNat]? = some x
  rw [show (-2 + ((l.length + 1 + 1 : Nat) : Int)).toNat = l.length by omega]
  simp
structure Hp11 (names : List Str) (es : List Ent) (n : Nat) : Prop where
  hp : Heap1 names (es.map (·.1)) n
  nm : ∀ e ∈ es, NmOf e.1 e.2
def f__law_grown : List D → (D → Prop) → Prop := fun ds R => ∃ (es : List Ent) (c : Int) (names : List Str) (m : Nat), ds = [.lst (es.map entD), .int c, .lst (names.map D.str)] ∧ Builtin.Int.intBits c ≤ 1048576 ∧ Names names ∧ Hp11 names es m ∧ m ≤ 59 ∧ ∀ es', Hp11 names es' (m + 1) → R (.lst (es'.map entD))
theorem f__law_grown_len : ∀ ds R, f__law_grown ds R → ds.length = 3 := fun _ _ ⟨_, _, _, _, e, _⟩ => by rw [e]; rfl
abbrev s__law_grown : Stmt := top 14
theorem sc__law_grown : FnScope ["_law_row_here", "_law_cell_here", "_law_names_here", "_law_last"] ["_law_row_here", "_law_cell_here", "_law_names_here"] (defScope s__law_grown) := ⟨rfl, rfl, rfl, by decide +kernel, rfl, by decide +kernel, by decide +kernel⟩
theorem cal__law_grown {P : Program} {w : World} {K : PySem.W.Frag} {mg : Str → Option Value} {base : Heap} (F : Fd K mg "_law_grown" s__law_grown ["_law_row_here", "_law_cell_here", "_law_names_here"]) (c__law_joined : Cal P w K mg base 1 "_law_joined" ["_law_sort", "_law_one", "_law_other"] (spD K (f__law_joined))) (c__law_laid : Cal P w K mg base 4 "_law_laid" ["_law_cell_here", "_law_names_here"] (spD K (f__law_laid))) (z_len : mg "len" = none) : Cal P w K mg base 5 "_law_grown" ["_law_row_here", "_law_cell_here", "_law_names_here"] (spD K f__law_grown) := by
  refine fn_D F sc__law_grown f__law_grown_len fun fa cdv A outer s H E ds R hr h => ?_
  have hU := hr.units
  refine ⟨_, (dss_cons (ds_set 3 sc__law_grown.nd (de_ix x_seq (de_v 0) (de_un o_neg de_int) (fun _ _ => rfl))) (dss_cons (ds_if (dt_cmp (o_eq hU) (de_op o_mod (de_v 1) de_int) de_int (nomark _)) (dss_one (ds_ret (de_op o_plus (de_slL (de_v 0) do_none (do_some (de_un o_neg de_int))) (de_lst (da_cons (de_lst (da_cons (de_tup (da_cons de_str (da_cons (de_ix x_seq (de_v 3) de_int (fun _ _ => rfl)) da_nil))) (da_cons (de_ix x_seq (de_v 3) de_int (fun _ _ => rfl)) (da_cons (de_op o_plus (de_ix x_seq (de_v 3) de_int (fun _ _ => rfl)) de_int) da_nil)))) da_nil))))) dss_nil) (dss_cons (ds_if (DW.dt (dw_and (dt_cmp (o_eq hU) (de_op o_mod (de_v 1) de_int) de_int (nomark _)) (dw_and1 (dt_cmp o_gt (de_callB c_len rfl z_len b_len (da_cons (de_v 0) da_nil)) de_int (nomark _))))) (dss_one (ds_ret (de_op o_plus (de_slL (de_v 0) do_none (do_some (de_un o_neg de_int))) (de_lst (da_cons (de_cal c__law_joined (hr.mono (by decide)) rfl (da_cons (de_ix x_seq (de_lst (da_cons de_str (da_cons de_str da_nil))) (de_op o_mod (de_op o_fdiv (de_v 1) de_int) de_int) (fun _ _ => rfl)) (da_cons (de_ix x_seq (de_v 0) (de_un o_neg de_int) (fun _ _ => rfl)) (da_cons (de_v 3) da_nil)))) da_nil))))) dss_nil) (dss_one (ds_ret (de_op o_plus (de_v 0) (de_lst (da_cons (de_cal c__law_laid (hr.mono (by decide)) rfl (da_cons (de_op o_fdiv (de_v 1) de_int) (da_cons (de_v 2) da_nil))) da_nil)))))))), ?_⟩
  obtain ⟨es, c, names, m, rfl, hc, nm, hs, hm, q⟩ := h
  have l4 := nm.len
  have hpos := hs.hp.pos
  rw [List.length_map] at hpos
  have hlen := hs.hp.len
  rw [List.length_map] at hlen
  obtain ⟨ini, ⟨s, ns⟩, rfl⟩ := last_of hpos
  have hs1 := hs.hp
  rw [List.map_append] at hs1
  have hs1 : Heap1 names (ini.map (·.1) ++ [s]) m := hs1
  have nml := hs.nm (s, ns) (by simp)
  rw [List.map_append, List.map_singleton]
  rw [List.length_append, List.length_singleton] at hlen
  have add : ∀ e : Ent, Heap1 names (ini.map (·.1) ++ [s] ++ [e.1]) (m + 1) → NmOf e.1 e.2 → Hp11 names (ini ++ [(s, ns)] ++ [e]) (m + 1) := fun e h n => ⟨by rw [List.map_append, List.map_append]; exact h, fun x hx => by
    rcases List.mem_append.mp hx with hx | hx
    · exact hs.nm x hx
    · rw [List.mem_singleton.mp hx]; exact n⟩
  have app : CFd c 4 ∧ f__law_laid [D.int (c.fdiv 4), D.lst (names.map D.str)] fun d => (ini.map entD ++ [entD (s, ns)]).length ≤ 999 ∧ R (D.lst (ini.map entD ++ [entD (s, ns)] ++ [d])) := by
    refine ⟨cf_of (by decide) (by decide +kernel), _, names, rfl, intBits_fdiv_le hc, nm, fun s2 ns2 o2 d2 n2 => ⟨by rw [List.length_append, List.length_map, List.length_singleton]; omega, ?_⟩⟩
    have := q _ (add (s2, ns2) (hs1.row o2 d2) n2)
    rw [List.map_append, List.map_append] at this
    exact this
  walk_at "rd"
  refine ⟨cnz (by decide), ite2 (fun _ => ?_) fun _ => ⟨cnz (by decide), ite2 (fun _ => ite2 (fun h1 => ?_) fun _ => app) fun _ => app⟩⟩
  · have ec : cut (ini.map entD ++ [entD (s, ns)]) none (some (-1)) = ini.map entD := cut_neg _ [entD (s, ns)] 1 rfl Nat.one_pos
    rw [ec]
    unfold entD
    walk_at "rd"
    refine ⟨by rw [List.length_map]; omega, ?_⟩
    have := q (ini ++ [(.nt s, ns)]) ⟨by rw [List.map_append]; exact hs1.not, fun x hx => by
      rcases List.mem_append.mp hx with hx | hx
      · exact hs.nm x (List.mem_append_left _ hx)
      · rw [List.mem_singleton.mp hx]; exact ⟨nml.nd, nml.pw, nml.mem⟩⟩
    rw [List.map_append] at this
    exact this
  · rw [List.length_append, List.length_map, List.length_singleton] at h1
    obtain ⟨in2, ⟨x2, ns2⟩, rfl⟩ := last_of (l := ini) (by omega)
    obtain ⟨v, hv, hvv⟩ := both_at (x := D.str (Str.ofString "both")) (y := D.str (Str.ofString "either")) (c := c.fdiv 4)
    have hs2 : Heap1 names (in2.map (·.1) ++ [x2] ++ [s]) m := by rw [List.map_append] at hs1; exact hs1
    refine ⟨cf_of (by decide) (by decide +kernel), cnz (by decide), v, hv, entD (x2, ns2), by rw [List.map_append]; exact atm2 _ _ _, ?_⟩
    have ec : cut ((in2 ++ [(x2, ns2)]).map entD ++ [entD (s, ns)]) none (some (-2)) = in2.map entD := by
      rw [List.map_append, List.append_assoc]
      exact cut_neg _ ([entD (x2, ns2)] ++ [entD (s, ns)]) 2 rfl (by decide)
    rw [ec]
    refine ⟨v, (x2, ns2), (s, ns), names, rfl, hvv, l4, hs2.ok x2 (by simp), hs2.ok s (by simp), hs.nm (x2, ns2) (by simp), nml, fun z zs hz nz => ?_⟩
    rw [List.length_append] at hlen
    refine ⟨by rw [List.length_map]; omega, ?_⟩
    have hj := hs2.join hz
    have := q (in2 ++ [(z, zs)]) ⟨by rw [List.map_append]; exact ⟨hj.ok, Nat.le_succ_of_le hj.dep, hj.pos⟩, fun x hx => by
      rcases List.mem_append.mp hx with hx | hx
      · exact hs.nm x (by simp [hx])
      · rw [List.mem_singleton.mp hx]; exact nz⟩
    rw [List.map_append] at this
    exact this
theorem strs_nds : ∀ ss : List Str, D.nds (ss.map D.str) = true
  | [] => rfl
  | s :: r => by rw [List.map_cons]; unfold D.nds; rw [strs_nds r]; rfl
theorem strs_dps : ∀ ss : List Str, D.dps (ss.map D.str) ≤ 60
  | [] => Nat.zero_le _
  | s :: r => by rw [List.map_cons]; unfold D.dps; exact Nat.max_le.mpr ⟨Nat.zero_le _, strs_dps r⟩
def f__law_good : List D → (D → Prop) → Prop := fun ds R => ∃ (e : Ent) (names : List Str), ds = [entD e] ∧ e.1.dep ≤ 60 ∧ e.1.ok names ∧ names.length ≤ 4 ∧ NmOf e.1 e.2 ∧ R (.bl true)
theorem f__law_good_len : ∀ ds R, f__law_good ds R → ds.length = 1 := fun _ _ ⟨_, _, e, _⟩ => by rw [e]; rfl
abbrev s__law_good : Stmt := top 15
theorem sc__law_good : FnScope ["_law_one", "_law_count", "_law_found"] ["_law_one"] (defScope s__law_good) := ⟨rfl, rfl, rfl, by decide +kernel, rfl, by decide +kernel, by decide +kernel⟩
theorem cal__law_good {P : Program} {w : World} {K : PySem.W.Frag} {mg : Str → Option Value} {base : Heap} (F : Fd K mg "_law_good" s__law_good ["_law_one"]) (c_parts_of : Cal P w K mg base 62 "parts_of" ["saying"] (spD K (f_parts_of 60))) (c_names_of : Cal P w K mg base 63 "names_of" ["saying"] (spD K (f_names_of))) (z_isinstance : mg "isinstance" = none) (z_bool : mg "bool" = none) (z_int : mg "int" = none) (z_list : mg "list" = none) : Cal P w K mg base 64 "_law_good" ["_law_one"] (spD K f__law_good) := by
  refine fn_D F sc__law_good f__law_good_len fun fa cdv A outer s H E ds R hr h => ?_
  have hU := hr.units
  refine ⟨_, (dss_cons (ds_set 1 sc__law_good.nd (de_cal c_parts_of (hr.mono (by decide)) rfl (da_cons (de_ix x_seq (de_v 0) de_int (fun _ _ => rfl)) da_nil))) (dss_cons (ds_if (DW.dt (dw_or (dt_not (dt_val (de_isi ty_int rfl z_isinstance rfl z_int b_int (de_v 1)))) (dw_or (dt_val (de_isi ty_bool rfl z_isinstance rfl z_bool b_bool (de_v 1))) (dw_or1 (dt_cmp (o_neq hU) (de_v 1) (de_ix x_seq (de_v 0) de_int (fun _ _ => rfl)) (nomark _)))))) (dss_one (ds_ret de_bl)) dss_nil) (dss_cons (ds_set 2 sc__law_good.nd (de_cal c_names_of (hr.mono (by decide)) rfl (da_cons (de_ix x_seq (de_v 0) de_int (fun _ _ => rfl)) da_nil))) (dss_one (ds_ret (de_and (de_isi ty_list rfl z_isinstance rfl z_list b_list (de_v 2)) (de_one (de_cmp (o_eq hU) (de_v 2) (de_ix x_seq (de_v 0) de_int (fun _ _ => rfl)) (nomark _))))))))), ?_⟩
  obtain ⟨⟨s, ns⟩, names, rfl, hd, ok, l4, nm, q⟩ := h
  unfold entD
  walk_at "rd"
  refine ⟨s, rfl, hd, ?_⟩
  walk_at "rd"
  refine ⟨names, s, rfl, hd, ok, by omega, fun ss nd hm st => ?_⟩
  have e : ss = ns := pw_uniq (srt_pw st) nm.pw nd nm.nd fun x => (hm x).trans (nm.mem x).symm
  subst e
  walk_at "rd"
  exact .inl ⟨⟨rfl, strs_nds _, strs_dps _⟩, q⟩
abbrev s_law : Stmt := top 16
theorem sc_law : FnScope ["_law_script", "_law_names_here", "_law_row_here", "_law_cell_here"] ["_law_script"] (defScope s_law) := ⟨rfl, rfl, rfl, by decide +kernel, rfl, by decide +kernel, by decide +kernel⟩
theorem okl_law {P : Program} {w : World} {K : PySem.W.Frag} {mg : Str → Option Value} {base : Heap} {fa : Addr} {fd : FuncData} (F : Fun K "law" "law" s_law fa fd) (c__law_names : Cal P w K mg base 1 "_law_names" ["_law_cell_here"] (spD K (f__law_names))) (c__law_cell : Cal P w K mg base 1 "_law_cell" ["_law_script", "_law_k"] (spD K (f__law_cell))) (c__law_laid : Cal P w K mg base 4 "_law_laid" ["_law_cell_here", "_law_names_here"] (spD K (f__law_laid))) (c__law_grown : Cal P w K mg base 5 "_law_grown" ["_law_row_here", "_law_cell_here", "_law_names_here"] (spD K (f__law_grown))) (c__law_good : Cal P w K mg base 64 "_law_good" ["_law_one"] (spD K (f__law_good))) (c__law_joined : Cal P w K mg base 1 "_law_joined" ["_law_sort", "_law_one", "_law_other"] (spD K (f__law_joined))) (z_len : mg "len" = none) : FnOk P w K mg base CX0 65 fa fd ["_law_script"] (spD K fLaw) := by
  refine fn_D' F sc_law (fun ds R ⟨ns, e, _⟩ => by rw [e]; rfl) fun cdv A outer s H E ds R hr h => ?_
  have hU := hr.units
  refine ⟨_, (dss_cons (ds_set 1 sc_law.nd (de_cal c__law_names (hr.mono (by decide)) rfl (da_cons (de_cal c__law_cell (hr.mono (by decide)) rfl (da_cons (de_v 0) (da_cons de_int da_nil))) da_nil))) (dss_cons (ds_set 2 sc_law.nd (de_lst (da_cons (de_cal c__law_laid (hr.mono (by decide)) rfl (da_cons (de_cal c__law_cell (hr.mono (by decide)) rfl (da_cons (de_v 0) (da_cons de_int da_nil))) (da_cons (de_v 1) da_nil))) da_nil))) (dss_cons (ds_forL PassesOwn.never rfl (de_slL (de_v 0) (do_some de_int) (do_some de_int)) (dg_name 3 sc_law.nd) (dss_cons (ds_set 2 sc_law.nd (de_cal c__law_grown (hr.mono (by decide)) rfl (da_cons (de_v 2) (da_cons (de_v 3) (da_cons (de_v 1) da_nil))))) (dss_one (ds_if (dt_not (dt_val (de_cal c__law_good (hr.mono (by decide)) rfl (da_cons (de_ix x_seq (de_v 2) (de_un o_neg de_int) (fun _ _ => rfl)) da_nil)))) (dss_one (ds_ret de_bl)) dss_nil)))) (dss_cons (ds_while PassesOwn.never (dt_cmp o_gt (de_callB c_len rfl z_len b_len (da_cons (de_v 2) da_nil)) de_int (nomark _)) (dss_one (ds_set 2 sc_law.nd (de_op o_plus (de_slL (de_v 2) do_none (do_some (de_un o_neg de_int))) (de_lst (da_cons (de_cal c__law_joined (hr.mono (by decide)) rfl (da_cons (de_ix x_seq (de_lst (da_cons de_str (da_cons de_str da_nil))) (de_op o_mod (de_callB c_len rfl z_len b_len (da_cons (de_v 2) da_nil)) de_int) (fun _ _ => rfl)) (da_cons (de_ix x_seq (de_v 2) (de_un o_neg de_int) (fun _ _ => rfl)) (da_cons (de_ix x_seq (de_v 2) (de_un o_neg de_int) (fun _ _ => rfl)) da_nil)))) da_nil)))))) (dss_one (ds_ret (de_cal c__law_good (hr.mono (by decide)) rfl (da_cons (de_ix x_seq (de_v 2) de_int (fun _ _ => rfl)) da_nil)))))))), ?_⟩
  obtain ⟨ns, rfl, h63, hb, q⟩ := h
  refine seq_cut fun K hK => ?_
  walk_at "rd"
  have cb : ∀ k, Builtin.Int.intBits (cellAt ns k) ≤ 1048576 := fun k => cell_bits hb k
  refine ⟨ns, 0, rfl, by decide, ?_⟩
  refine ⟨_, rfl, cb 0, fun names nm => ?_⟩
  have l4 := nm.len
  rw [hK]
  refine seq_cut fun K2 hK2 => ?_
  walk_at "rd"
  refine ⟨ns, 1, rfl, by decide, ?_⟩
  refine ⟨_, names, rfl, cb 1, nm, fun s0 n0 o0 d0 m0 => ?_⟩
  walk_at "rd"
  rw [hK2]
  refine seq_cut fun K3 hK3 => ?_
  refine forL_cut fun B N hB hN => ?_
  simp only [dForLF]
  walk_at "rd"
  have l50 : (cut ns (some 2) (some 52)).length ≤ 50 := cut_len 2 52
  have mem : ∀ c ∈ cut ns (some 2) (some 52), Builtin.Int.intBits c ≤ 1048576 := fun c h => hb c (cut_mem h)
  simp only [cut_map]
  generalize cut ns (some 2) (some 52) = cs at l50 mem ⊢
  refine ⟨fun i δ => ∃ es x, δ = [.dat (.fz (ns.map D.int)), .dat (.lst (names.map D.str)), .dat (.lst (es.map entD)), x] ∧ Hp11 names es (i + 1), ⟨[(s0, n0)], _, rfl, ⟨⟨fun s hs => by rw [List.mem_singleton.mp hs]; exact o0, by show s0.dep + 0 ≤ 0 + 1; omega, Nat.one_pos⟩, fun e he => by rw [List.mem_singleton.mp he]; exact m0⟩⟩, ?_, ?_⟩
  · rintro i d δ hd ⟨es, x, rfl, hs⟩
    rw [List.getElem?_map] at hd
    cases hc : cs[i]? with
    | none => rw [hc] at hd; cases hd
    | some c =>
      rw [hc] at hd
      cases hd
      have hil := lt_get hc
      rw [hB]
      show dgName _ _ _ _
      refine body_cut fun K4 hK4 => ?_
      walk_at "rd"
      refine ⟨es, c, names, i + 1, rfl, mem c (List.mem_of_getElem? hc), nm, hs, by omega, fun es' hs' => ?_⟩
      rw [hK4]
      have hp := hs'.hp.pos
      rw [List.length_map] at hp
      obtain ⟨ini, e, rfl⟩ := last_of hp
      rw [List.map_append, List.map_singleton]
      walk_at "rd"
      have hde : e.1.dep ≤ i + 1 + 1 := by
        have := hs'.hp.dep
        rw [List.map_append] at this
        have e2 := sum_snoc (ini.map (·.1)) e.1
        rw [show (ini.map (·.1) ++ [e].map (·.1)) = ini.map (·.1) ++ [e.1] from rfl, e2] at this
        omega
      refine ⟨e, names, rfl, by omega, hs'.hp.ok e.1 (by simp), l4, hs'.nm e (by simp), ?_⟩
      walk_at "rd"
      exact ⟨ini ++ [e], by rw [List.map_append]; rfl, hs'⟩
  · rintro δ ⟨es, x, rfl, hs⟩
    rw [List.length_map] at hs
    rw [hN]
    show K3 _
    rw [hK3]
    refine seq_cut fun K5 hK5 => ?_
    simp only [dWhile]
    refine ⟨fun δ => ∃ es x, δ = [.dat (.fz (ns.map D.int)), .dat (.lst (names.map D.str)), .dat (.lst (es.map entD)), x] ∧ Hp11 names es (cs.length + 1), fun δ => match δ with | [_, _, .dat (.lst l), _] => l.length | _ => 0, ⟨es, x, rfl, hs⟩, ?_⟩
    rintro δ ⟨es, x, rfl, hs⟩
    have hp := hs.hp.pos
    have hlen := hs.hp.len
    rw [List.length_map] at hp hlen
    obtain ⟨ini, ⟨s, zs⟩, rfl⟩ := last_of hp
    have hs1 : Heap1 names (ini.map (·.1) ++ [s]) (cs.length + 1) := by have := hs.hp; rw [List.map_append] at this; exact this
    have nml := hs.nm (s, zs) (by simp)
    rw [List.length_append, List.length_singleton] at hlen
    rw [List.map_append, List.map_singleton]
    walk_at "rd"
    have hsd : s.dep ≤ cs.length + 1 := by
      have := hs1.dep
      rw [sum_snoc] at this
      omega
    refine ite2 (fun h1 => ?_) fun h1 => ?_
    · rw [List.length_append, List.length_map, List.length_singleton] at h1
      obtain ⟨in2, ⟨x2, ns2⟩, rfl⟩ := last_of (l := ini) (by omega)
      have hs2 : Heap1 names (in2.map (·.1) ++ [x2] ++ [s]) (cs.length + 1) := by rw [List.map_append] at hs1; exact hs1
      obtain ⟨v, hv, hvv⟩ := both_at (x := D.str (Str.ofString "either")) (y := D.str (Str.ofString "both")) (c := (((in2 ++ [(x2, ns2)]).map entD ++ [entD (s, zs)]).length : Int))
      have ec : cut ((in2 ++ [(x2, ns2)]).map entD ++ [entD (s, zs)]) none (some (-2)) = in2.map entD := by
        rw [List.map_append, List.append_assoc]
        exact cut_neg _ ([entD (x2, ns2)] ++ [entD (s, zs)]) 2 rfl (by decide)
      rw [List.length_append] at hlen
      refine ⟨cnz (by decide), v, hv, entD (x2, ns2), by rw [List.map_append]; exact atm2 _ _ _, ?_⟩
      rw [ec]
      refine ⟨v, (x2, ns2), (s, zs), names, rfl, hvv.symm, l4, hs2.ok x2 (by simp), hs2.ok s (by simp), hs.nm (x2, ns2) (by simp), nml, fun z us hz nz => ?_⟩
      refine ⟨by rw [List.length_map]; omega, ⟨in2 ++ [(z, us)], by rw [List.map_append]; rfl, ⟨by rw [List.map_append]; exact hs2.join hz, fun y hy => ?_⟩⟩, ?_⟩
      · rcases List.mem_append.mp hy with hy | hy
        · exact hs.nm y (by simp [hy])
        · rw [List.mem_singleton.mp hy]; exact nz
      · rw [List.length_append, List.length_append, List.length_map, List.length_map, List.length_append, List.length_singleton, List.length_singleton, List.length_singleton]; omega
    · rw [List.length_append, List.length_map, List.length_singleton] at h1
      have e : ini = [] := List.length_eq_zero_iff.mp (by omega)
      subst e
      rw [hK5]
      walk_at "rd"
      exact ⟨(s, zs), names, rfl, by show s.dep ≤ 60; omega, hs1.ok s (by simp), l4, nml, q⟩
theorem all_mk {l : PySem.W.OpenLaw} {w : World} {K : PySem.W.Frag} {h : Heap} {mg : Str → Option Value} {fa f0 f1 f2 f3 f4 f5 f6 f7 f8 f9 f10 f11 f12 f13 f14 : Addr} (X : K.In h) (G : h.Ns mainGlobals mg) (hfa : mg "law" = some (.ref fa))
    {od0 an0 od1 an1 od2 an2 od3 an3 od4 an4 od5 an5 od6 an6 od7 an7 od8 an8 od9 an9 od10 an10 od11 an11 od12 an12 od13 an13 od14 an14 : Option Addr} {sl0 sl1 sl2 sl3 sl4 sl5 sl6 sl7 sl8 sl9 sl10 sl11 sl12 sl13 sl14 : Array (Option Value)} {oc0 kV0 dc0 pm0 cd0 ct0 oc1 kV1 dc1 pm1 cd1 ct1 oc2 kV2 dc2 pm2 cd2 ct2 oc3 kV3 dc3 pm3 cd3 ct3 oc4 kV4 dc4 pm4 cd4 ct4 oc5 kV5 dc5 pm5 cd5 ct5 oc6 kV6 dc6 pm6 cd6 ct6 oc7 kV7 dc7 pm7 cd7 ct7 oc8 kV8 dc8 pm8 cd8 ct8 oc9 kV9 dc9 pm9 cd9 ct9 oc10 kV10 dc10 pm10 cd10 ct10 oc11 kV11 dc11 pm11 cd11 ct11 oc12 kV12 dc12 pm12 cd12 ct12 oc13 kV13 dc13 pm13 cd13 ct13 oc14 kV14 dc14 pm14 cd14 ct14 : Value}
    (a0 : PySem.W.nsIn K mainGlobals "_law_purse" = some (some (.ref f0))) (l0 : K.lookup f0 = some ⟨oc0, od0, .func (PySem.W.fnOf "_law_purse" "_law_purse" (defArgs s__law_purse) (defBody s__law_purse) (defScope s__law_purse) .none kV0 dc0 pm0 an0 cd0 ct0), sl0⟩) (c0 : PySem.W.codeIn K cd0 "_law_purse" = true) (k0 : PySem.W.keepIn K (.ref f0) = true)
    (a1 : PySem.W.nsIn K mainGlobals "_law_take" = some (some (.ref f1))) (l1 : K.lookup f1 = some ⟨oc1, od1, .func (PySem.W.fnOf "_law_take" "_law_take" (defArgs s__law_take) (defBody s__law_take) (defScope s__law_take) .none kV1 dc1 pm1 an1 cd1 ct1), sl1⟩) (c1 : PySem.W.codeIn K cd1 "_law_take" = true) (k1 : PySem.W.keepIn K (.ref f1) = true)
    (a2 : PySem.W.nsIn K mainGlobals "_law_weight" = some (some (.ref f2))) (l2 : K.lookup f2 = some ⟨oc2, od2, .func (PySem.W.fnOf "_law_weight" "_law_weight" (defArgs s__law_weight) (defBody s__law_weight) (defScope s__law_weight) .none kV2 dc2 pm2 an2 cd2 ct2), sl2⟩) (c2 : PySem.W.codeIn K cd2 "_law_weight" = true) (k2 : PySem.W.keepIn K (.ref f2) = true)
    (a3 : PySem.W.nsIn K mainGlobals "_law_names" = some (some (.ref f3))) (l3 : K.lookup f3 = some ⟨oc3, od3, .func (PySem.W.fnOf "_law_names" "_law_names" (defArgs s__law_names) (defBody s__law_names) (defScope s__law_names) .none kV3 dc3 pm3 an3 cd3 ct3), sl3⟩) (c3 : PySem.W.codeIn K cd3 "_law_names" = true) (k3 : PySem.W.keepIn K (.ref f3) = true)
    (a4 : PySem.W.nsIn K mainGlobals "_law_row" = some (some (.ref f4))) (l4 : K.lookup f4 = some ⟨oc4, od4, .func (PySem.W.fnOf "_law_row" "_law_row" (defArgs s__law_row) (defBody s__law_row) (defScope s__law_row) .none kV4 dc4 pm4 an4 cd4 ct4), sl4⟩) (c4 : PySem.W.codeIn K cd4 "_law_row" = true) (k4 : PySem.W.keepIn K (.ref f4) = true)
    (a5 : PySem.W.nsIn K mainGlobals "is_row" = some (some (.ref f5))) (l5 : K.lookup f5 = some ⟨oc5, od5, .func (PySem.W.fnOf "is_row" "is_row" (defArgs s_is_row) (defBody s_is_row) (defScope s_is_row) .none kV5 dc5 pm5 an5 cd5 ct5), sl5⟩) (c5 : PySem.W.codeIn K cd5 "is_row" = true) (k5 : PySem.W.keepIn K (.ref f5) = true)
    (a6 : PySem.W.nsIn K mainGlobals "mark_names" = some (some (.ref f6))) (l6 : K.lookup f6 = some ⟨oc6, od6, .func (PySem.W.fnOf "mark_names" "mark_names" (defArgs s_mark_names) (defBody s_mark_names) (defScope s_mark_names) .none kV6 dc6 pm6 an6 cd6 ct6), sl6⟩) (c6 : PySem.W.codeIn K cd6 "mark_names" = true) (k6 : PySem.W.keepIn K (.ref f6) = true)
    (a7 : PySem.W.nsIn K mainGlobals "names_of" = some (some (.ref f7))) (l7 : K.lookup f7 = some ⟨oc7, od7, .func (PySem.W.fnOf "names_of" "names_of" (defArgs s_names_of) (defBody s_names_of) (defScope s_names_of) .none kV7 dc7 pm7 an7 cd7 ct7), sl7⟩) (c7 : PySem.W.codeIn K cd7 "names_of" = true) (k7 : PySem.W.keepIn K (.ref f7) = true)
    (a8 : PySem.W.nsIn K mainGlobals "_law_cell" = some (some (.ref f8))) (l8 : K.lookup f8 = some ⟨oc8, od8, .func (PySem.W.fnOf "_law_cell" "_law_cell" (defArgs s__law_cell) (defBody s__law_cell) (defScope s__law_cell) .none kV8 dc8 pm8 an8 cd8 ct8), sl8⟩) (c8 : PySem.W.codeIn K cd8 "_law_cell" = true) (k8 : PySem.W.keepIn K (.ref f8) = true)
    (a9 : PySem.W.nsIn K mainGlobals "parts_of" = some (some (.ref f9))) (l9 : K.lookup f9 = some ⟨oc9, od9, .func (PySem.W.fnOf "parts_of" "parts_of" (defArgs s_parts_of) (defBody s_parts_of) (defScope s_parts_of) .none kV9 dc9 pm9 an9 cd9 ct9), sl9⟩) (c9 : PySem.W.codeIn K cd9 "parts_of" = true) (k9 : PySem.W.keepIn K (.ref f9) = true)
    (a10 : PySem.W.nsIn K mainGlobals "_law_laid" = some (some (.ref f10))) (l10 : K.lookup f10 = some ⟨oc10, od10, .func (PySem.W.fnOf "_law_laid" "_law_laid" (defArgs s__law_laid) (defBody s__law_laid) (defScope s__law_laid) .none kV10 dc10 pm10 an10 cd10 ct10), sl10⟩) (c10 : PySem.W.codeIn K cd10 "_law_laid" = true) (k10 : PySem.W.keepIn K (.ref f10) = true)
    (a11 : PySem.W.nsIn K mainGlobals "_law_joined" = some (some (.ref f11))) (l11 : K.lookup f11 = some ⟨oc11, od11, .func (PySem.W.fnOf "_law_joined" "_law_joined" (defArgs s__law_joined) (defBody s__law_joined) (defScope s__law_joined) .none kV11 dc11 pm11 an11 cd11 ct11), sl11⟩) (c11 : PySem.W.codeIn K cd11 "_law_joined" = true) (k11 : PySem.W.keepIn K (.ref f11) = true)
    (a12 : PySem.W.nsIn K mainGlobals "_law_grown" = some (some (.ref f12))) (l12 : K.lookup f12 = some ⟨oc12, od12, .func (PySem.W.fnOf "_law_grown" "_law_grown" (defArgs s__law_grown) (defBody s__law_grown) (defScope s__law_grown) .none kV12 dc12 pm12 an12 cd12 ct12), sl12⟩) (c12 : PySem.W.codeIn K cd12 "_law_grown" = true) (k12 : PySem.W.keepIn K (.ref f12) = true)
    (a13 : PySem.W.nsIn K mainGlobals "_law_good" = some (some (.ref f13))) (l13 : K.lookup f13 = some ⟨oc13, od13, .func (PySem.W.fnOf "_law_good" "_law_good" (defArgs s__law_good) (defBody s__law_good) (defScope s__law_good) .none kV13 dc13 pm13 an13 cd13 ct13), sl13⟩) (c13 : PySem.W.codeIn K cd13 "_law_good" = true) (k13 : PySem.W.keepIn K (.ref f13) = true)
    (a14 : PySem.W.nsIn K mainGlobals "law" = some (some (.ref f14))) (l14 : K.lookup f14 = some ⟨oc14, od14, .func (PySem.W.fnOf "law" "law" (defArgs s_law) (defBody s_law) (defScope s_law) .none kV14 dc14 pm14 an14 cd14 ct14), sl14⟩) (c14 : PySem.W.codeIn K cd14 "law" = true) (k14 : PySem.W.keepIn K (.ref f14) = true)
    (z0 : PySem.W.nsIn K mainGlobals "range" = some none)
    (z1 : PySem.W.nsIn K mainGlobals "abs" = some none)
    (z2 : PySem.W.nsIn K mainGlobals "int" = some none)
    (z3 : PySem.W.nsIn K mainGlobals "sorted" = some none)
    (z4 : PySem.W.nsIn K mainGlobals "tuple" = some none)
    (z5 : PySem.W.nsIn K mainGlobals "len" = some none)
    (z6 : PySem.W.nsIn K mainGlobals "set" = some none)
    (z7 : PySem.W.nsIn K mainGlobals "isinstance" = some none)
    (z8 : PySem.W.nsIn K mainGlobals "bool" = some none)
    (z9 : PySem.W.nsIn K mainGlobals "list" = some none)
    : ∃ fd : FuncData, (∀ (s : Shared) (v : Value), BindsTo s fd ⟨[v], []⟩ [("_law_script", v)]) ∧ ∀ base : Heap, K.In base → base.Ns mainGlobals mg → FnOk l.prog w K mg base CX0 65 fa fd ["_law_script"] (spLaw K) := by
  have e := hfa.symm.trans (PySem.W.mg_of X G a14)
  cases e
  have z_range := PySem.W.mg_none_of X G z0
  have z_abs := PySem.W.mg_none_of X G z1
  have z_int := PySem.W.mg_none_of X G z2
  have z_sorted := PySem.W.mg_none_of X G z3
  have z_tuple := PySem.W.mg_none_of X G z4
  have z_len := PySem.W.mg_none_of X G z5
  have z_set := PySem.W.mg_none_of X G z6
  have z_isinstance := PySem.W.mg_none_of X G z7
  have z_bool := PySem.W.mg_none_of X G z8
  have z_list := PySem.W.mg_none_of X G z9
  have F0 := fun_mk (st := s__law_purse) l0 c0 k0
  have D0 : Fd K mg "_law_purse" s__law_purse ["_law_cell_here"] := ⟨_, _, F0, F0.binds (ps := ["_law_cell_here"]) fun _ _ _ _ _ _ us hl => match us, hl with | [_], _ => rfl, PySem.W.mg_of X G a0⟩
  have F1 := fun_mk (st := s__law_take) l1 c1 k1
  have D1 : Fd K mg "_law_take" s__law_take ["_law_purse_here", "_law_many"] := ⟨_, _, F1, F1.binds (ps := ["_law_purse_here", "_law_many"]) fun _ _ _ _ _ _ us hl => match us, hl with | [_, _], _ => rfl, PySem.W.mg_of X G a1⟩
  have F2 := fun_mk (st := s__law_weight) l2 c2 k2
  have D2 : Fd K mg "_law_weight" s__law_weight ["_law_purse_here"] := ⟨_, _, F2, F2.binds (ps := ["_law_purse_here"]) fun _ _ _ _ _ _ us hl => match us, hl with | [_], _ => rfl, PySem.W.mg_of X G a2⟩
  have F3 := fun_mk (st := s__law_names) l3 c3 k3
  have D3 : Fd K mg "_law_names" s__law_names ["_law_cell_here"] := ⟨_, _, F3, F3.binds (ps := ["_law_cell_here"]) fun _ _ _ _ _ _ us hl => match us, hl with | [_], _ => rfl, PySem.W.mg_of X G a3⟩
  have F4 := fun_mk (st := s__law_row) l4 c4 k4
  have D4 : Fd K mg "_law_row" s__law_row ["_law_cell_here", "_law_names_here"] := ⟨_, _, F4, F4.binds (ps := ["_law_cell_here", "_law_names_here"]) fun _ _ _ _ _ _ us hl => match us, hl with | [_, _], _ => rfl, PySem.W.mg_of X G a4⟩
  have F5 := fun_mk (st := s_is_row) l5 c5 k5
  have D5 : Fd K mg "is_row" s_is_row ["saying"] := ⟨_, _, F5, F5.binds (ps := ["saying"]) fun _ _ _ _ _ _ us hl => match us, hl with | [_], _ => rfl, PySem.W.mg_of X G a5⟩
  have F6 := fun_mk (st := s_mark_names) l6 c6 k6
  have D6 : Fd K mg "mark_names" s_mark_names ["saying", "found"] := ⟨_, _, F6, F6.binds (ps := ["saying", "found"]) fun _ _ _ _ _ _ us hl => match us, hl with | [_, _], _ => rfl, PySem.W.mg_of X G a6⟩
  have F7 := fun_mk (st := s_names_of) l7 c7 k7
  have D7 : Fd K mg "names_of" s_names_of ["saying"] := ⟨_, _, F7, F7.binds (ps := ["saying"]) fun _ _ _ _ _ _ us hl => match us, hl with | [_], _ => rfl, PySem.W.mg_of X G a7⟩
  have F8 := fun_mk (st := s__law_cell) l8 c8 k8
  have D8 : Fd K mg "_law_cell" s__law_cell ["_law_script", "_law_k"] := ⟨_, _, F8, F8.binds (ps := ["_law_script", "_law_k"]) fun _ _ _ _ _ _ us hl => match us, hl with | [_, _], _ => rfl, PySem.W.mg_of X G a8⟩
  have F9 := fun_mk (st := s_parts_of) l9 c9 k9
  have D9 : Fd K mg "parts_of" s_parts_of ["saying"] := ⟨_, _, F9, F9.binds (ps := ["saying"]) fun _ _ _ _ _ _ us hl => match us, hl with | [_], _ => rfl, PySem.W.mg_of X G a9⟩
  have F10 := fun_mk (st := s__law_laid) l10 c10 k10
  have D10 : Fd K mg "_law_laid" s__law_laid ["_law_cell_here", "_law_names_here"] := ⟨_, _, F10, F10.binds (ps := ["_law_cell_here", "_law_names_here"]) fun _ _ _ _ _ _ us hl => match us, hl with | [_, _], _ => rfl, PySem.W.mg_of X G a10⟩
  have F11 := fun_mk (st := s__law_joined) l11 c11 k11
  have D11 : Fd K mg "_law_joined" s__law_joined ["_law_sort", "_law_one", "_law_other"] := ⟨_, _, F11, F11.binds (ps := ["_law_sort", "_law_one", "_law_other"]) fun _ _ _ _ _ _ us hl => match us, hl with | [_, _, _], _ => rfl, PySem.W.mg_of X G a11⟩
  have F12 := fun_mk (st := s__law_grown) l12 c12 k12
  have D12 : Fd K mg "_law_grown" s__law_grown ["_law_row_here", "_law_cell_here", "_law_names_here"] := ⟨_, _, F12, F12.binds (ps := ["_law_row_here", "_law_cell_here", "_law_names_here"]) fun _ _ _ _ _ _ us hl => match us, hl with | [_, _, _], _ => rfl, PySem.W.mg_of X G a12⟩
  have F13 := fun_mk (st := s__law_good) l13 c13 k13
  have D13 : Fd K mg "_law_good" s__law_good ["_law_one"] := ⟨_, _, F13, F13.binds (ps := ["_law_one"]) fun _ _ _ _ _ _ us hl => match us, hl with | [_], _ => rfl, PySem.W.mg_of X G a13⟩
  have F14 := fun_mk (st := s_law) l14 c14 k14
  have D14 : Fd K mg "law" s_law ["_law_script"] := ⟨_, _, F14, F14.binds (ps := ["_law_script"]) fun _ _ _ _ _ _ us hl => match us, hl with | [_], _ => rfl, PySem.W.mg_of X G a14⟩
  refine ⟨PySem.W.fnOf "law" "law" (defArgs s_law) (defBody s_law) (defScope s_law) .none kV14 dc14 pm14 an14 cd14 ct14, fun s v => .of_eq rfl, fun base _ _ => ?_⟩
  have c__law_purse := cal__law_purse (P := l.prog) (w := w) (base := base) D0 z_range z_abs
  have c__law_take := cal__law_take (P := l.prog) (w := w) (base := base) D1 z_int
  have c__law_weight := cal__law_weight (P := l.prog) (w := w) (base := base) D2 c__law_take
  have c__law_names := cal__law_names (P := l.prog) (w := w) (base := base) D3 z_sorted z_range
  have c__law_row := cal__law_row (P := l.prog) (w := w) (base := base) D4 c__law_purse c__law_weight c__law_take z_tuple
  have c_is_row := cal_is_row (P := l.prog) (w := w) (base := base) D5
  have c_mark_names : ∀ n, Cal l.prog w K mg base (2 + n) "mark_names" ["saying", "found"] (spO1 K (f_mark_names n)) := fun n => Nat.rec (motive := fun n => Cal l.prog w K mg base (2 + n) "mark_names" ["saying", "found"] (spO1 K (f_mark_names n))) (cal_noneO D6 _ f_mark_names_none) (fun n ih => cal_mark_names (P := l.prog) (w := w) (base := base) D6 c_is_row ih) n
  have c_mark_names : Cal l.prog w K mg base 62 "mark_names" ["saying", "found"] (spO1 K (f_mark_names 60)) := c_mark_names 60
  have c_names_of := cal_names_of (P := l.prog) (w := w) (base := base) D7 c_mark_names z_sorted
  have c__law_cell := cal__law_cell (P := l.prog) (w := w) (base := base) D8 z_len
  have c_parts_of : ∀ n, Cal l.prog w K mg base (2 + n) "parts_of" ["saying"] (spD K (f_parts_of n)) := fun n => Nat.rec (motive := fun n => Cal l.prog w K mg base (2 + n) "parts_of" ["saying"] (spD K (f_parts_of n))) (cal_none D9 _ f_parts_of_none) (fun n ih => cal_parts_of (P := l.prog) (w := w) (base := base) D9 c_is_row ih) n
  have c_parts_of : Cal l.prog w K mg base 62 "parts_of" ["saying"] (spD K (f_parts_of 60)) := c_parts_of 60
  have c__law_laid := cal__law_laid (P := l.prog) (w := w) (base := base) D10 c__law_row
  have c__law_joined := cal__law_joined (P := l.prog) (w := w) (base := base) D11 z_sorted z_set
  have c__law_grown := cal__law_grown (P := l.prog) (w := w) (base := base) D12 c__law_joined c__law_laid z_len
  have c__law_good := cal__law_good (P := l.prog) (w := w) (base := base) D13 c_parts_of c_names_of z_isinstance z_bool z_int z_list
  exact law_sp (okl_law F14 c__law_names c__law_cell c__law_laid c__law_grown c__law_good c__law_joined z_len)
end Lw
open PySem PySem.W PyProof.Rows
set_option maxRecDepth 100000 in
set_option maxHeartbeats 0 in
theorem PySem.Challenge.cw_rowbetween_k11_names_and_parts_holds : PySem.Challenge.rw_rowbetween_k11_names_and_parts.Holds := by
  w_on; o_law; k_head; (case hw => w_witness2)
  k_fill
  refine DL.walkB (l := PySem.Challenge.rw_rowbetween_k11_names_and_parts) (k := 65) (x := "_law_script") rfl rfl ⟨rfl, by decide, by decide⟩ (fun w h Y => PySem.W.kIn_of Y) ?F
  case F =>
    intro w mg fa h KX G hmg
    refine' Lw.all_mk KX G hmg ?a0 ?l0 ?c0 ?k0 ?a1 ?l1 ?c1 ?k1 ?a2 ?l2 ?c2 ?k2 ?a3 ?l3 ?c3 ?k3 ?a4 ?l4 ?c4 ?k4 ?a5 ?l5 ?c5 ?k5 ?a6 ?l6 ?c6 ?k6 ?a7 ?l7 ?c7 ?k7 ?a8 ?l8 ?c8 ?k8 ?a9 ?l9 ?c9 ?k9 ?a10 ?l10 ?c10 ?k10 ?a11 ?l11 ?c11 ?k11 ?a12 ?l12 ?c12 ?k12 ?a13 ?l13 ?c13 ?k13 ?a14 ?l14 ?c14 ?k14 ?z0 ?z1 ?z2 ?z3 ?z4 ?z5 ?z6 ?z7 ?z8 ?z9
    (case a0 => k_is)
    (case l0 => k_is)
    (case c0 => k_is)
    (case k0 => k_is)
    (case a1 => k_is)
    (case l1 => k_is)
    (case c1 => k_is)
    (case k1 => k_is)
    (case a2 => k_is)
    (case l2 => k_is)
    (case c2 => k_is)
    (case k2 => k_is)
    (case a3 => k_is)
    (case l3 => k_is)
    (case c3 => k_is)
    (case k3 => k_is)
    (case a4 => k_is)
    (case l4 => k_is)
    (case c4 => k_is)
    (case k4 => k_is)
    (case a5 => k_is)
    (case l5 => k_is)
    (case c5 => k_is)
    (case k5 => k_is)
    (case a6 => k_is)
    (case l6 => k_is)
    (case c6 => k_is)
    (case k6 => k_is)
    (case a7 => k_is)
    (case l7 => k_is)
    (case c7 => k_is)
    (case k7 => k_is)
    (case a8 => k_is)
    (case l8 => k_is)
    (case c8 => k_is)
    (case k8 => k_is)
    (case a9 => k_is)
    (case l9 => k_is)
    (case c9 => k_is)
    (case k9 => k_is)
    (case a10 => k_is)
    (case l10 => k_is)
    (case c10 => k_is)
    (case k10 => k_is)
    (case a11 => k_is)
    (case l11 => k_is)
    (case c11 => k_is)
    (case k11 => k_is)
    (case a12 => k_is)
    (case l12 => k_is)
    (case c12 => k_is)
    (case k12 => k_is)
    (case a13 => k_is)
    (case l13 => k_is)
    (case c13 => k_is)
    (case k13 => k_is)
    (case a14 => k_is)
    (case l14 => k_is)
    (case c14 => k_is)
    (case k14 => k_is)
    (case z0 => k_is)
    (case z1 => k_is)
    (case z2 => k_is)
    (case z3 => k_is)
    (case z4 => k_is)
    (case z5 => k_is)
    (case z6 => k_is)
    (case z7 => k_is)
    (case z8 => k_is)
    (case z9 => k_is)
#print axioms PySem.Challenge.cw_rowbetween_k11_names_and_parts_holds

