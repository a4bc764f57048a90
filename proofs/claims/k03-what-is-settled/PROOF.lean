import PyProof.Rows.All
import Wide.All
import OpenK.AllK
import Wide.FinOn
import Lean
import PyProof.EqAt
import PyProof.EqKinds
import PyProof.TupleCall
import PySem.Challenge.RW_scriberow_k03_what_is_settled
set_option Elab.async false
set_option linter.all false
set_option maxRecDepth 100000
set_option Elab.async false
set_option linter.all false
set_option maxRecDepth 100000
/-! THE HAND LAYER, for ints, bools, texts, own classes, LISTS and tuples (index, slices, in, append, pop ..), calls, loops. Paste it whole ahead of your own text; what your proof does not reach may be deleted. -/
namespace L2
open PySem PySem.Spec PyProof.Rows

/-- a key: an int or a str -/
abbrev Key := Sum Int Str
def keyIs : Key → Value → Bool
  | .inl k, v => Value.isInt k v
  | .inr x, v => Value.isStrOf x v
def keyH (w : World) : Key → Int
  | .inl k => hashInt k
  | .inr x => hashStr w x
theorem keyIs_shape : ∀ {k : Key} {v : Value}, keyIs k v = true → (∃ i t, k = Sum.inl i ∧ v = Value.int i t) ∨ (∃ x t, k = Sum.inr x ∧ v = Value.str x t)
  | .inl i, v, h => by
    obtain ⟨t, e⟩ := Value.isInt_shape (k := i) (v := v) h
    exact .inl ⟨i, t, rfl, e⟩
  | .inr x, v, h => by
    obtain ⟨t, e⟩ := Value.isStrOf_shape (x := x) (v := v) h
    exact .inr ⟨x, t, rfl, e⟩
theorem keyIs_int (i : Int) (t : Tok) : keyIs (.inl i) (.int i t) = true := by simp [keyIs, Value.isInt]
theorem keyIs_str (x : Str) (t : Tok) : keyIs (.inr x) (.str x t) = true := by simp [keyIs, Value.isStrOf]
theorem key_ll (a b : Int) : decide ((Sum.inl a : Key) = Sum.inl b) = (a == b) := by
  by_cases e : a = b
  · subst e; simp
  · have h : ¬ (Sum.inl a : Key) = Sum.inl b := fun q => e (Sum.inl.inj q)
    rw [decide_eq_false h]
    exact (beq_eq_false_iff_ne.mpr e).symm
theorem key_rr (a b : Str) : decide ((Sum.inr a : Key) = Sum.inr b) = decide (a = b) := by
  by_cases e : a = b
  · subst e; simp
  · have h : ¬ (Sum.inr a : Key) = Sum.inr b := fun q => e (Sum.inr.inj q)
    rw [decide_eq_false h, decide_eq_false e]
theorem key_lr (a : Int) (b : Str) : decide ((Sum.inl a : Key) = Sum.inr b) = false := decide_eq_false (fun q => nomatch q)
theorem key_rl (a : Str) (b : Int) : decide ((Sum.inr a : Key) = Sum.inl b) = false := decide_eq_false (fun q => nomatch q)

def mixKind (prog : Program) (w : World) : PySem.KeyKind prog w Key where
  is := keyIs
  hash := keyH w
  inj := fun v a b ha hb => by
    rcases keyIs_shape ha with ⟨i, t, rfl, rfl⟩ | ⟨x, t, rfl, rfl⟩
    · rcases keyIs_shape hb with ⟨j, u, rfl, e⟩ | ⟨y, u, rfl, e⟩
      · injection e with e1 _; rw [e1]
      · exact nomatch e
    · rcases keyIs_shape hb with ⟨j, u, rfl, e⟩ | ⟨y, u, rfl, e⟩
      · exact nomatch e
      · injection e with e1 _; rw [e1]
  byValue := fun k v h => by
    rcases keyIs_shape h with ⟨i, t, rfl, rfl⟩ | ⟨x, t, rfl, rfl⟩ <;> rfl
  pyHash := fun hv h => by
    rcases keyIs_shape hv with ⟨i, t, rfl, rfl⟩ | ⟨x, t, rfl, rfl⟩
    · exact wpAny_pyHash_int h
    · exact wpAny_pyHash_str h
  eqBool := fun hu hv h => by
    rcases keyIs_shape hu with ⟨i, t, rfl, rfl⟩ | ⟨x, t, rfl, rfl⟩
    · rcases keyIs_shape hv with ⟨j, u, rfl, rfl⟩ | ⟨y, u, rfl, rfl⟩
      · rw [key_ll] at h; exact wpAny_eqBool_int h
      · rw [key_lr] at h; exact SeqAt.EqAt.int_str i t y u _ _ _ _ h
    · rcases keyIs_shape hv with ⟨j, u, rfl, rfl⟩ | ⟨y, u, rfl, rfl⟩
      · rw [key_rl] at h; exact SeqAt.EqAt.str_int x t j u _ _ _ _ h
      · rw [key_rr] at h; exact wpAny_eqBool_str h
  «strs» := fun k x t v h => by
    rcases keyIs_shape h with ⟨i, u, rfl, e⟩ | ⟨y, u, rfl, e⟩
    · exact nomatch e
    · injection e with e1 _
      subst e1
      cases v <;> rfl

theorem mixKind_int (prog : Program) (w : World) (i : Int) (t : Tok) : (mixKind prog w).is (.inl i) (.int i t) = true := keyIs_int i t
theorem mixKind_str (prog : Program) (w : World) (x : Str) (t : Tok) : (mixKind prog w).is (.inr x) (.str x t) = true := keyIs_str x t
end L2

namespace L2
open PySem PySem.Spec PyProof.Rows

/-- a value, without the heap -/
inductive V where
  | non | bl (b : Bool) | int (i : Int) | str (x : Str) | byt (b : Array UInt8) | flt (b : UInt64) | ref (a : Addr) | ty (n : String)
  deriving DecidableEq

def RelV : V → Value → Prop
  | .non, u => u = Value.none
  | .bl b, u => u = Value.bool b
  | .int i, u => ∃ t, u = Value.int i t
  | .str x, u => ∃ t, u = Value.str x t
  | .byt b, u => ∃ t, u = Value.bytes b t
  | .flt b, u => ∃ t, u = Value.float b t
  | .ref a, u => u = Value.ref a
  | .ty n, u => u = Value.type n

abbrev Vals : List V → List Value → Prop := Paired RelV
theorem Vals.length {xs : List V} {us : List Value} (r : Vals xs us) : xs.length = us.length := Paired.length r
theorem Vals.get : ∀ {xs : List V} {us : List Value} {i : Nat} {x : V}, Vals xs us → xs[i]? = some x → ∃ u, us[i]? = some u ∧ RelV x u
  | _, _, _, _, .nil, e => by simp at e
  | _, _, 0, _, .cons r _, e => by simp at e; subst e; exact ⟨_, rfl, r⟩
  | _, _, i + 1, x, .cons _ t, e => by
    obtain ⟨u, h1, h2⟩ := Vals.get (i := i) (x := x) t (by simpa using e)
    exact ⟨u, by simpa using h1, h2⟩
theorem Vals.set {x : V} {u : Value} (r : RelV x u) : ∀ {xs : List V} {us : List Value} (i : Nat), Vals xs us → Vals (xs.set i x) (us.set i u)
  | _, _, _, .nil => .nil
  | _, _, 0, .cons _ t => .cons r t
  | _, _, i + 1, .cons q t => .cons q (Vals.set r i t)
theorem Vals.append : ∀ {xs ys : List V} {us ws : List Value}, Vals xs us → Vals ys ws → Vals (xs ++ ys) (us ++ ws)
  | _, _, _, _, .nil, s => s
  | _, _, _, _, .cons r t, s => .cons r (Vals.append t s)
theorem Vals.take : ∀ {xs : List V} {us : List Value} (n : Nat), Vals xs us → Vals (xs.take n) (us.take n)
  | _, _, 0, _ => .nil
  | _, _, _ + 1, .nil => .nil
  | _, _, n + 1, .cons r t => .cons r (Vals.take n t)
theorem Vals.drop : ∀ {xs : List V} {us : List Value} (n : Nat), Vals xs us → Vals (xs.drop n) (us.drop n)
  | _, _, 0, r => r
  | _, _, _ + 1, .nil => .nil
  | _, _, n + 1, .cons _ t => Vals.drop n t
def RelO : Option V → Option Value → Prop
  | some v, some u => RelV v u
  | none, none => True
  | _, _ => False
def KV {κ : Type} : List (κ × V) → List (κ × Value) → Prop := Paired fun (p : κ × V) (q : κ × Value) => p.1 = q.1 ∧ RelV p.2 q.2

/-- a key of a dict (00_mix): an int or a text -/
def kV : Key → V
  | .inl i => .int i
  | .inr x => .str x

/-- what stands at a tracked address -/
inductive HO where
  /-- a list -/
  | lst (xs : List V)
  /-- a tuple (never changes) -/
  | tup (xs : List V)
  /-- a dict whose keys are ints and texts; one whose keys are tuples of ints and texts (the empty one is both) -/
  | dK (kvs : List (Key × V)) | dT (kvs : List (List Key × V))
  /-- a set of ints: its members, its size -/
  | set (S : Int → Bool) (n : Nat)
  /-- an instance of the class at C, its dict at dx, its attributes -/
  | ins (C dx : Addr) (fs : List (Str × V))
  /-- the dict of the instance at x -/
  | own (x : Addr)
  /-- the dict of an exception -/
  | xd (fs : List (Str × V))
  /-- a bound method, f of x -/
  | met (f x : Addr)
  /-- a range object lo, lo + 1, .. below hi -/
  | rng (lo hi : Int)
  /-- a thing that is known to the object (the script; a dict while a loop walks it): read, never written while it is so -/
  | frz (o : Obj) (u : HO)
  /-- a code object's table -/
  | tbl (ps : Array Value)
  /-- any other thing, by what is true of its one object (a def of one's own: SetO a S n := HO.ext fun h => ..) -/
  | ext (φ : Heap → Prop)

abbrev Hp := Addr → Option HO
def upd (H : Hp) (a : Addr) (o : HO) : Hp := fun b => if b = a then some o else H b
theorem upd_same {H : Hp} {a : Addr} {o : HO} : upd H a o a = some o := by unfold upd; rw [if_pos rfl]
theorem upd_ne {H : Hp} {a b : Addr} {o : HO} (h : b ≠ a) : upd H a o b = H b := by unfold upd; rw [if_neg h]
/-- two objects of different content stand apart -/
theorem ne_of {H : Hp} {a b : Addr} {o u : HO} (h : H a = some o) (h' : H b = some u) (d : o ≠ u) : a ≠ b := by
  intro e; subst e; rw [h] at h'; exact d (Option.some.inj h')
theorem ne_of_none {H : Hp} {a b : Addr} {o : HO} (h : H a = some o) (h' : H b = none) : a ≠ b := by
  intro e; subst e; rw [h] at h'; cases h'

section
variable (P : Program) (w : World)
def ObjOk (H : Hp) (h : Heap) (a : Addr) : HO → Prop
  | .lst xs => xs.length ≤ sizeLine ∧ ∃ (its : List Value) (n : Nat), Vals xs its ∧ h.get? a = some { cls := .type "list", data := .seq its.toArray n }
  | .tup xs => xs.length ≤ sizeLine ∧ ∃ its : List Value, Vals xs its ∧ IsTup h a its.toArray
  | .dK kvs => kvs.length ≤ sizeLine ∧ (a == sysModules) = false ∧ ∃ vs, KV kvs vs ∧ h.DictOf (mixKind P w) a vs
  | .dT kvs => kvs.length ≤ sizeLine ∧ (a == sysModules) = false ∧ ∃ xs : List (List Key × Addr × Value),
      Paired (fun (p : List Key × V) (q : List Key × Addr × Value) => p.1 = q.1 ∧ H q.2.1 = some (.tup (p.1.map kV)) ∧ RelV p.2 q.2.2) kvs xs ∧
      ∃ o es ep, h.get? a = some o ∧ o.ExactDict ∧ o.data = .dict es ep ∧ es.toList = xs.map (entryOfKey (tupleKind (mixKind P w))) ∧ (xs.map (·.1)).Nodup
  | .set S n => h.SetOf (intKind P w) a S n
  | .ins C dx fs => H dx = some (.own a) ∧ fs.length ≤ 1000 ∧ dx ≠ a ∧ h.get? a = some (PySem.W.instObj C dx) ∧
      ∃ mA, h.Ns1 dx mA ∧ (∀ f, RelO (fs.lookup f) (mA f)) ∧ PySem.Within mA (fs.map (·.1))
  | .own _ => ∃ o, h.get? a = some o
  | .xd fs => ∃ mA, h.Ns1 a mA ∧ ∀ f, RelO (fs.lookup f) (mA f)
  | .rng lo hi => ∃ t u v, h.get? a = some { cls := .type "range", data := .fields #[.int lo t, .int hi u, .int 1 v] }
  | .frz o u => h.get? a = some o ∧ ObjOk H h a u
  | .tbl ps => h.get? a = some { cls := .none, data := .fields ps }
  | .met f x => h.get? a = some (PySem.W.methodObj (.ref f) (.ref x))
  | .ext φ => φ h ∧ (∃ o, h.get? a = some o) ∧ ∀ h1 h2 : Heap, φ h1 → (∀ o, h1.get? a = some o → h2.get? a = some o) → φ h2
/-- the abstract heap is held -/
def HOk (H : Hp) (h : Heap) : Prop := ∀ a o, H a = some o → ObjOk P w H h a o
end

section
variable {P : Program} {w : World} {H H' : Hp} {h h' : Heap} {a : Addr} {o : HO}
theorem ObjOk.lt (x : ObjOk P w H h a o) : a < h.objs.size := by
  cases o with
  | lst xs => obtain ⟨_, _, _, _, e⟩ := x; exact Heap.lt_size e
  | tup xs => obtain ⟨_, _, _, p⟩ := x; exact p.lt
  | dK kvs => obtain ⟨_, _, _, _, o, _, _, e, _⟩ := x; exact Heap.lt_size e
  | dT kvs => obtain ⟨_, _, _, _, o, _, _, e, _⟩ := x; exact Heap.lt_size e
  | set S n => obtain ⟨o, _, _, _, e, _⟩ := x; exact Heap.lt_size e
  | ins C dx fs => obtain ⟨_, _, _, e, _⟩ := x; exact Heap.lt_size e
  | own y => obtain ⟨_, e⟩ := x; exact Heap.lt_size e
  | xd fs => obtain ⟨_, ⟨_, _, _, e, _⟩, _⟩ := x; exact Heap.lt_size e
  | rng lo hi => obtain ⟨_, _, _, e⟩ := x; exact Heap.lt_size e
  | frz ob u => obtain ⟨e, _⟩ := x; exact Heap.lt_size e
  | tbl ps => exact Heap.lt_size (show h.get? a = some _ from x)
  | met f y => exact Heap.lt_size (show h.get? a = some _ from x)
  | ext φ => obtain ⟨_, ⟨_, e⟩, _⟩ := x; exact Heap.lt_size e
theorem Paired.mapP {α β : Type} {F G : α → β → Prop} : ∀ {l₁ : List α} {l₂ : List β}, Paired F l₁ l₂ → (∀ a b, F a b → G a b) → Paired G l₁ l₂
  | _, _, .nil, _ => .nil
  | _, _, .cons r t, f => .cons (f _ _ r) (Paired.mapP t f)
/-- what an object's description leans on: its own object, its own dict, the tuples -/
theorem ObjOk.stay (x : ObjOk P w H h a o) (k : ∀ b u, (b = a ∨ H b = some (.own a)) → h.get? b = some u → h'.get? b = some u)
    (ho : ∀ b, H b = some (.own a) → H' b = some (.own a)) (ht : ∀ b xs, H b = some (.tup xs) → H' b = some (.tup xs)) : ObjOk P w H' h' a o := by
  induction o with
  | lst xs => obtain ⟨z, its, n, r, e⟩ := x; exact ⟨z, its, n, r, k _ _ (.inl rfl) e⟩
  | tup xs => obtain ⟨z, its, r, ob, e, c⟩ := x; exact ⟨z, its, r, ob, k _ _ (.inl rfl) e, c⟩
  | dK kvs => obtain ⟨z, y, vs, r, ob, es, ep, e, c⟩ := x; exact ⟨z, y, vs, r, ob, es, ep, k _ _ (.inl rfl) e, c⟩
  | dT kvs =>
    obtain ⟨z, y, xs, r, ob, es, ep, e, c⟩ := x
    exact ⟨z, y, xs, Paired.mapP r fun p q z => ⟨z.1, ht _ _ z.2.1, z.2.2⟩, ob, es, ep, k _ _ (.inl rfl) e, c⟩
  | set S n => obtain ⟨ob, es, ep, t, e, c⟩ := x; exact ⟨ob, es, ep, t, k _ _ (.inl rfl) e, c⟩
  | ins C dx fs =>
    obtain ⟨d, z, ne, e, mA, ⟨od, es, ep, e2, c⟩, r⟩ := x
    exact ⟨ho _ d, z, ne, k _ _ (.inl rfl) e, mA, ⟨od, es, ep, k _ _ (.inr d) e2, c⟩, r⟩
  | own y => obtain ⟨ob, e⟩ := x; exact ⟨ob, k _ _ (.inl rfl) e⟩
  | xd fs => obtain ⟨mA, ⟨od, es, ep, e, c⟩, r⟩ := x; exact ⟨mA, ⟨od, es, ep, k _ _ (.inl rfl) e, c⟩, r⟩
  | rng lo hi => obtain ⟨t, u, v, e⟩ := x; exact ⟨t, u, v, k _ _ (.inl rfl) e⟩
  | frz ob u ih => obtain ⟨e, q⟩ := x; exact ⟨k _ _ (.inl rfl) e, ih q⟩
  | tbl ps =>
    have e : h.get? a = some { cls := .none, data := .fields ps } := x
    show h'.get? a = some { cls := .none, data := .fields ps }
    exact k a _ (.inl rfl) e
  | met f y =>
    have e : h.get? a = some (PySem.W.methodObj (.ref f) (.ref y)) := x
    show h'.get? a = some (PySem.W.methodObj (.ref f) (.ref y))
    exact k a _ (.inl rfl) e
  | ext φ => obtain ⟨p, ⟨o, e⟩, st⟩ := x; exact ⟨st _ _ p fun o q => k _ _ (.inl rfl) q, ⟨o, k _ _ (.inl rfl) e⟩, st⟩
theorem HOk.lt (x : HOk P w H h) (e : H a = some o) : a < h.objs.size := (x a o e).lt
theorem HOk.fresh (x : HOk P w H h) (e : h.objs.size ≤ a) : H a = none := by
  cases q : H a with
  | none => rfl
  | some u => exact absurd (Nat.lt_of_lt_of_le (x.lt q) e) (Nat.lt_irrefl _)
/-- every object of the heap is kept -/
theorem HOk.kept (x : HOk P w H h) (k : ∀ b u, h.get? b = some u → h'.get? b = some u) : HOk P w H h' := fun a o e =>
  (x a o e).stay (fun b u _ q => k b u q) (fun _ q => q) fun _ _ q => q
/-- a new object is laid and tracked -/
theorem HOk.laid (x : HOk P w H h) (k : ∀ b u, h.get? b = some u → h'.get? b = some u) (hp : h.objs.size ≤ a) (new : ObjOk P w (upd H a o) h' a o) : HOk P w (upd H a o) h' := fun b u e => by
  have hn := x.fresh hp
  by_cases hb : b = a
  · subst hb; rw [upd_same] at e; cases e; exact new
  · rw [upd_ne hb] at e
    exact (x b u e).stay (fun c v _ q => k c v q) (fun c q => by rw [upd_ne (ne_of_none q hn)]; exact q) fun c xs q => by rw [upd_ne (ne_of_none q hn)]; exact q
end

/-- what may be read as u: it is u, or a known u -/
def Rd (H : Hp) (a : Addr) (u : HO) : Prop := H a = some u ∨ ∃ o, H a = some (.frz o u)
theorem Rd.of {H : Hp} {a : Addr} {u : HO} (h : H a = some u) : Rd H a u := .inl h
theorem Rd.ok {P : Program} {w : World} {H : Hp} {h : Heap} {a : Addr} {u : HO} (r : Rd H a u) (x : HOk P w H h) : ObjOk P w H h a u := by
  rcases r with r | ⟨o, r⟩
  · exact x a u r
  · obtain ⟨_, q⟩ := x a _ r
    exact q
/-- what may be written -/
def Mut : Option HO → Prop
  | some (.lst _) => True
  | some (.dK _) => True
  | some (.dT _) => True
  | some (.set _ _) => True
  | some (.ins _ _ _) => True
  | some (.ext _) => True
  | _ => False
section
variable {P : Program} {w : World} {H : Hp} {h h' : Heap} {x e : Addr} {o' : HO}
/-- the object at e is changed: x itself, or the dict of the instance x -/
theorem HOk.write (ok : HOk P w H h) (mu : Mut (H x)) (he : e = x ∨ H e = some (.own x)) (k : ∀ b u, b ≠ e → h.get? b = some u → h'.get? b = some u) (heo : ∃ u, h'.get? e = some u)
    (new : ObjOk P w (upd H x o') h' x o') : HOk P w (upd H x o') h' := fun b u q => by
  have nown : ∀ c y, H c = some (.own y) → c ≠ x := fun c y r z => by subst z; rw [r] at mu; exact mu
  have ntup : ∀ c xs, H c = some (.tup xs) → c ≠ x := fun c xs r z => by subst z; rw [r] at mu; exact mu
  by_cases hb : b = x
  · subst hb; rw [upd_same] at q; cases q; exact new
  · rw [upd_ne hb] at q
    by_cases hbe : b = e
    · have q' : H b = some (.own x) := by
        rcases he with z | z
        · exact absurd (hbe.trans z) hb
        · rw [hbe]; exact z
      rw [q] at q'; cases q'
      obtain ⟨v, hv⟩ := heo
      exact ⟨v, by rw [hbe]; exact hv⟩
    · refine (ok b u q).stay (fun c v hc r => k c v ?_ r) (fun c r => by rw [upd_ne (nown c b r)]; exact r) fun c xs r => by rw [upd_ne (ntup c xs r)]; exact r
      rcases hc with rfl | hc
      · exact hbe
      · rintro rfl
        rcases he with z | z
        · exact nown c b hc z
        · rw [hc] at z; cases z; exact hb rfl
end

/-! ### kept unless tracked; of the frames at fs (the callers') the slots may change (an exception that passes writes there); of the records at ex (iterators) nothing is said -/
structure Un (fs ex : List Addr) (H H' : Hp) (h h' : Heap) : Prop where
  keep : ∀ b o, h.get? b = some o → H b = none → b ∉ fs → b ∉ ex → h'.get? b = some o
  slot : ∀ b o, h.get? b = some o → H b = none → b ∈ fs → b ∉ ex → ∃ sl, h'.get? b = some { o with slots := sl }
  free : ∀ b o, h.get? b = some o → H b = none → b ∉ ex → H' b = none
  there : ∀ b o, h.get? b = some o → b ∉ ex → ∃ o', h'.get? b = some o'
  tups : ∀ b xs, H b = some (.tup xs) → H' b = some (.tup xs)
  frzs : ∀ b o u, H b = some (.frz o u) → H' b = some (.frz o u)
  tbls : ∀ b ps, H b = some (.tbl ps) → ∃ more, H' b = some (.tbl (ps ++ more))
section
variable {fs fs' ex ex' : List Addr} {H H1 H2 : Hp} {h h1 h2 h' : Heap} {a x e : Addr} {o : HO}
theorem Un.any (u : Un fs ex H H1 h h1) {b : Addr} {ob : Obj} (q : h.get? b = some ob) (n : H b = none) (hx : b ∉ ex) : ∃ sl, h1.get? b = some { ob with slots := sl } := by
  by_cases hb : b ∈ fs
  · exact u.slot b ob q n hb hx
  · exact ⟨ob.slots, u.keep b ob q n hb hx⟩
theorem Un.trans (a : Un fs ex H H1 h h1) (b : Un fs ex H1 H2 h1 h2) : Un fs ex H H2 h h2 where
  keep := fun c ob q n hc hx => b.keep c ob (a.keep c ob q n hc hx) (a.free c ob q n hx) hc hx
  slot := fun c ob q n hc hx => by
    obtain ⟨sl, e1⟩ := a.slot c ob q n hc hx
    obtain ⟨sl', e2⟩ := b.slot c _ e1 (a.free c ob q n hx) hc hx
    exact ⟨sl', e2⟩
  free := fun c ob q n hx => by
    obtain ⟨o', e1⟩ := a.there c ob q hx
    exact b.free c o' e1 (a.free c ob q n hx) hx
  there := fun c ob q hx => by
    obtain ⟨o', e1⟩ := a.there c ob q hx
    exact b.there c o' e1 hx
  tups := fun c xs q => b.tups c xs (a.tups c xs q)
  frzs := fun c ob xs q => b.frzs c ob xs (a.frzs c ob xs q)
  tbls := fun c ps q => by
    obtain ⟨m1, e1⟩ := a.tbls c ps q
    obtain ⟨m2, e2⟩ := b.tbls c _ e1
    exact ⟨m1 ++ m2, by rw [e2, Array.append_assoc]⟩
theorem Un.kept (k : ∀ b u, h.get? b = some u → h'.get? b = some u) : Un fs ex H H h h' :=
  ⟨fun b ob q _ _ _ => k b ob q, fun b ob q _ _ _ => ⟨ob.slots, k b ob q⟩, fun _ _ _ n _ => n, fun b ob q _ => ⟨ob, k b ob q⟩, fun _ _ q => q, fun _ _ _ q => q, fun _ ps q => ⟨#[], by rw [q]; simp⟩⟩
theorem Un.refl : Un fs ex H H h h := Un.kept fun _ _ q => q
theorem Un.laid (k : ∀ b u, h.get? b = some u → h'.get? b = some u) (hp : h.objs.size ≤ a) (hn : H a = none) : Un fs ex H (upd H a o) h h' where
  keep := fun b u q _ _ _ => k b u q
  slot := fun b u q _ _ _ => ⟨u.slots, k b u q⟩
  free := fun b u q n _ => by rw [upd_ne (Nat.ne_of_lt (Nat.lt_of_lt_of_le (Heap.lt_size q) hp))]; exact n
  there := fun b u q _ => ⟨u, k b u q⟩
  tups := fun b xs q => by rw [upd_ne (ne_of_none q hn)]; exact q
  frzs := fun b u xs q => by rw [upd_ne (ne_of_none q hn)]; exact q
  tbls := fun b ps q => ⟨#[], by rw [upd_ne (ne_of_none q hn), q]; simp⟩
theorem Un.write (mu : Mut (H x)) (he : e = x ∨ H e = some (.own x)) (k : ∀ b u, b ≠ e → h.get? b = some u → h'.get? b = some u) (heo : ∃ u, h'.get? e = some u) : Un fs ex H (upd H x o) h h' := by
  have hx : ∀ b, H b = none → b ≠ x := fun b n z => by subst z; rw [n] at mu; exact mu
  have hb : ∀ b, H b = none → b ≠ e := fun b n z => by
    subst z
    rcases he with r | r
    · exact hx b n r
    · rw [n] at r; cases r
  have hm : ∀ b u, H b = some u → ¬ Mut (some u) → b ≠ x := fun b u q nm z => by subst z; rw [q] at mu; exact nm mu
  refine ⟨fun b u q n _ _ => k b u (hb b n) q, fun b u q n _ _ => ⟨u.slots, k b u (hb b n) q⟩, fun b u q n _ => by rw [upd_ne (hx b n)]; exact n, fun b u q _ => ?_,
    fun b xs q => by rw [upd_ne (hm b _ q fun z => z)]; exact q, fun b u xs q => by rw [upd_ne (hm b _ q fun z => z)]; exact q, fun b ps q => ⟨#[], by rw [upd_ne (hm b _ q fun z => z), q]; simp⟩⟩
  by_cases hbe : b = e
  · subst hbe; exact heo
  · exact ⟨u, k b u hbe q⟩
theorem Un.mono (u : Un fs ex H H1 h h1) (hs : ∀ b ∈ fs, b ∈ fs') (hx : ∀ b ∈ ex, b ∈ ex') : Un fs' ex' H H1 h h1 :=
  ⟨fun b ob q n hb he => u.keep b ob q n (fun z => hb (hs b z)) fun z => he (hx b z), fun _ _ q n _ he => u.any q n fun z => he (hx _ z), fun b ob q n he => u.free b ob q n fun z => he (hx b z), fun b ob q he => u.there b ob q fun z => he (hx b z), u.tups, u.frzs, u.tbls⟩
end

/-! ### the heap without what is tracked -/
def trk (h : Heap) (H : Hp) : List Addr := (List.range h.objs.size).filter fun a => (H a).isSome
def hidT (h : Heap) (H : Hp) : Heap := PySem.W.hideAll h (trk h H)
theorem hidT_size (h : Heap) (H : Hp) : (hidT h H).objs.size = h.objs.size := PySem.W.hideAll_size _ _
theorem hidT_get {h : Heap} {H : Hp} {b : Addr} {o : Obj} (e : h.get? b = some o) (n : H b = none) : (hidT h H).get? b = some o :=
  PySem.W.hideAll_get _ e fun hm => by
    have q : (H b).isSome = true := (List.mem_filter.mp hm).2
    rw [n] at q; simp at q
theorem of_hidT {h : Heap} {H : Hp} {b : Addr} {o : Obj} (e : (hidT h H).get? b = some o) : h.get? b = some o ∧ H b = none := by
  have e' : h.get? b = some o := PySem.W.of_hideAll (trk h H) e
  refine ⟨e', ?_⟩
  cases q : H b with
  | none => rfl
  | some x =>
    have hm : b ∈ trk h H := List.mem_filter.mpr ⟨List.mem_range.mpr (Heap.lt_size e'), by simp [q]⟩
    have z : (hidT h H).get? b = none := PySem.W.hideAll_none (trk h H) hm
    rw [z] at e; cases e

/-! ### OpenK's ledger, filled with every new object but one -/
def allNews (g h : Heap) (L : Addr) : List (Addr × Obj) := (List.range h.objs.size).filterMap fun a => if a = L ∨ (g.get? a).isSome = true then none else (h.get? a).map fun o => (a, o)
def rest (g h : Heap) (L d : Addr) : List (Addr × Obj) := (allNews g h L).filter fun p => decide (p.1 ≠ d)
end L2

namespace L2
open PySem PySem.Spec PyProof.Rows

/-- the module's facts, over the base: the heap at the law's entry without what is tracked there -/
structure Mod (K : PySem.W.Frag) (mg : Str → Option Value) (base : Heap) : Prop where
  kin : K.In base
  glob : base.Ns mainGlobals mg
  blt : ∃ mb, base.Ns builtinsNs mb ∧ ∀ x : Str, x ≠ "__name__" → mb x = bootBuiltins x
  nolimit : base.NoLimit

/-- the context: a def's body (or a comprehension's block) running. base: fixed through the whole law; s₀, H₀: the entry; outer: the frames whose slots others may change (a def's callers); stack: all frames that run;
   ex: iterators that were made ahead of the entry and are walked here (a comprehension's); fn: the names whose cells were made at the entry (a def: all; a comprehension's block: its own); calm: not within an except suite; pn: pins that every state bears; xe: what is wanted of an exception that leaves the code -/
structure Cx where
  prog : Program
  w : World
  K : PySem.W.Frag
  mg : Str → Option Value
  base : Heap
  A : Around
  N : List Str
  s₀ : Shared
  H₀ : Hp
  env : Env
  outer : List Env
  stack : List Env
  ex : List Addr
  fn : Str → Bool
  calm : Bool
  pn : List (Addr × Obj)
  xe : Value → Shared → Prop
/-- the callers' frames -/
def frs (l : List Env) : List Addr := l.filterMap (·.frame)
abbrev Cx.fs (X : Cx) : List Addr := frs X.outer

def Vis (sc : Scope) (x : Str) : Prop := sc.names.lookup x = some .local ∨ sc.names.lookup x = some .cell ∨ sc.names.lookup x = some .free
def Loc (sc : Scope) (x : Str) : Prop := sc.names.lookup x = some .local ∨ sc.names.lookup x = some .cell
def Look (env : Env) (h : Heap) (m : Str → Option Value) (x : Str) (u : Value) : Prop :=
  (env.kindOf x = some .local ∧ m x = some u) ∨ ((env.kindOf x = some .cell ∨ env.kindOf x = some .free) ∧ ∃ c, env.cells.lookup x = some c ∧ h.IsCell c (some u))

structure Cx.Ok (X : Cx) : Prop where
  mod : Mod X.K X.mg X.base
  kind : X.env.scope.kind = .function
  glob : X.env.globals = mainGlobals
  blt : X.env.builtins = builtinsNs
  above : X.s₀.heap.objs.size ≤ X.env.locals
  inj : ∀ x y c, X.env.cells.lookup x = some c → X.env.cells.lookup y = some c → x = y
  has : ∀ x, (X.env.kindOf x = some .cell ∨ X.env.kindOf x = some .free) → ∃ c, X.env.cells.lookup x = some c
  cab : ∀ x c, X.fn x = true → X.env.cells.lookup x = some c → X.s₀.heap.objs.size ≤ c
  hd : X.calm = true → X.A.handled = none
  frames : X.A.frames = some X.stack
  stk : X.stack = X.outer ∨ (X.stack = X.env :: X.outer ∧ X.env.frame = some X.env.locals)
  exf : ∀ b ∈ X.ex, b ≠ X.env.locals ∧ ∀ x c, X.env.cells.lookup x = some c → c ≠ b
  bs : ∀ b o, X.base.get? b = some o → X.s₀.heap.get? b = some o ∧ X.H₀ b = none
  bsz : X.base.objs.size ≤ X.s₀.heap.objs.size
  noex : ∀ b o, X.base.get? b = some o → b ∉ X.ex
  exfs : ∀ b ∈ X.ex, b ∉ X.fs
  funs : X.s₀.heap.FunFrames X.base X.outer
  frf : ∀ b ∈ X.fs, X.H₀ b = none

structure Inv (X : Cx) (pins : List (Addr × Obj)) (σ : List (Option V)) (H : Hp) (s : Shared) : Prop where
  ok : X.Ok
  os : s.os = X.s₀.os
  bare : AllBare s.gens
  base : Un X.fs X.ex X.H₀ H X.s₀.heap s.heap
  loc : ∃ m, s.heap.Ns X.env.locals m ∧ ∀ (i : Nat) (x : Str) (v : V), X.N[i]? = some x → σ[i]? = some (some v) → Vis X.env.scope x → ∃ u, RelV v u ∧ Look X.env s.heap m x u
  cell : ∀ x c, X.env.cells.lookup x = some c → ∃ v, s.heap.IsCell c v
  free : H X.env.locals = none
  freeC : ∀ x c, X.env.cells.lookup x = some c → H c = none
  pin : ∀ p ∈ X.pn ++ pins, s.heap.get? p.1 = some p.2 ∧ H p.1 = none ∧ p.1 ≠ X.env.locals ∧ p.1 ∉ X.fs ∧ ∀ v, p.2.data ≠ .cell v
  hok : HOk X.prog X.w H s.heap
  len : σ.length = X.N.length

section
variable {X : Cx} {pins : List (Addr × Obj)} {σ : List (Option V)} {H H' : Hp} {s : Shared} {h' : Heap}

theorem Cx.Ok.nofr (ok : X.Ok) {b : Addr} {o : Obj} (e : X.base.get? b = some o) : b ∉ X.fs := fun hb => by
  have := (ok.funs.mem hb).1
  rw [e] at this; cases this
theorem Inv.bs (I : Inv X pins σ H s) : ∀ b o, X.base.get? b = some o → s.heap.get? b = some o ∧ H b = none := fun b o e =>
  ⟨I.base.keep b o (I.ok.bs b o e).1 (I.ok.bs b o e).2 (I.ok.nofr e) (I.ok.noex b o e), I.base.free b o (I.ok.bs b o e).1 (I.ok.bs b o e).2 (I.ok.noex b o e)⟩
theorem Inv.bk (I : Inv X pins σ H s) : ∀ b o, X.base.get? b = some o → s.heap.get? b = some o := fun b o e => (I.bs b o e).1
theorem Inv.mod (I : Inv X pins σ H s) : Mod X.K X.mg X.base := I.ok.mod
theorem Inv.kIn (I : Inv X pins σ H s) : X.K.In s.heap := I.ok.mod.kin.keeps I.bk
theorem Inv.nolimit (I : Inv X pins σ H s) : s.heap.NoLimit := I.ok.mod.nolimit.keeps I.bk
/-- the frame over the base: for OpenK's rules (K.In X.base is I.mod.kin) -/
theorem Inv.fr (I : Inv X pins σ H s) : ∃ m, Fr X.base X.env.locals s.heap m :=
  let ⟨m, hn, _⟩ := I.loc
  ⟨m, hn, I.bk, Nat.le_trans I.ok.bsz I.ok.above⟩
theorem Inv.lt (I : Inv X pins σ H s) : X.env.locals < s.heap.objs.size := let ⟨_, hn, _⟩ := I.loc; hn.lt
theorem Inv.sz (I : Inv X pins σ H s) : X.s₀.heap.objs.size ≤ s.heap.objs.size := Nat.le_trans I.ok.above (Nat.le_of_lt I.lt)
theorem Inv.nofs (I : Inv X pins σ H s) {a : Addr} (h : s.heap.objs.size ≤ a) : a ∉ X.fs := fun hb => by
  obtain ⟨_, o, ho, _⟩ := I.ok.funs.mem hb
  exact absurd (Nat.lt_of_lt_of_le (Heap.lt_size ho) (Nat.le_trans I.sz h)) (Nat.lt_irrefl _)
theorem Inv.cne (I : Inv X pins σ H s) : ∀ x c, X.env.cells.lookup x = some c → c ≠ X.env.locals := fun x c e z => by
  obtain ⟨v, o, ho, hd⟩ := I.cell x c e
  obtain ⟨m, ⟨o', es, ep, ho', hd', _⟩, _⟩ := I.loc
  rw [z, ho'] at ho; cases ho; rw [hd'] at hd; cases hd
theorem Inv.funs (I : Inv X pins σ H s) : s.heap.FunFrames X.base X.outer := by
  have all : ∀ (l : List Env), (∀ b ∈ frs l, b ∈ X.fs) → X.s₀.heap.FunFrames X.base l → s.heap.FunFrames X.base l := by
    intro l
    induction l with
    | nil => intro _ _; trivial
    | cons env r ih =>
      intro hs hl
      obtain ⟨hk, ⟨L, o, hf, hn, ho, hd⟩, hr⟩ := hl
      have hL : L ∈ X.fs := hs L (by unfold frs; rw [List.filterMap_cons, hf]; exact List.mem_cons_self)
      obtain ⟨sl, e⟩ := I.base.slot L o ho (I.ok.frf L hL) hL fun z => I.ok.exfs L z hL
      exact ⟨hk, ⟨L, _, hf, hn, e, hd⟩, ih (fun b hb => hs b (by unfold frs; rw [List.filterMap_cons, hf]; exact List.mem_cons_of_mem _ hb)) hr⟩
  exact all X.outer (fun _ hb => hb) I.ok.funs

/-- the frames that run, for a call -/
theorem Inv.stack (I : Inv X pins σ H s) : s.heap.FunFrames X.base X.stack := by
  rcases I.ok.stk with e | ⟨e, hf⟩
  · rw [e]; exact I.funs
  · rw [e]
    obtain ⟨m, hn, _⟩ := I.loc
    refine .cons (by rw [I.ok.kind]; decide) hf hn ?_ I.funs
    exact Heap.get?_none_of_le (Nat.le_trans I.ok.bsz I.ok.above)
theorem Inv.stkSub (I : Inv X pins σ H s) : ∀ b ∈ frs X.stack, b ∈ X.env.locals :: X.fs := fun b hb => by
  rcases I.ok.stk with e | ⟨e, hf⟩
  · rw [e] at hb; exact List.mem_cons_of_mem _ hb
  · rw [e] at hb
    unfold frs at hb
    rw [List.filterMap_cons, hf] at hb
    exact hb
theorem Inv.stkFree (I : Inv X pins σ H s) : ∀ b ∈ frs X.stack, H b = none := fun b hb => by
  rcases List.mem_cons.mp (I.stkSub b hb) with e | hb
  · rw [e]; exact I.free
  · obtain ⟨_, o, ho, _⟩ := I.ok.funs.mem hb
    exact I.base.free b o ho (I.ok.frf b hb) fun z => I.ok.exfs b z hb

/-- THE STEP: the untracked objects but the frame and the records at ch are kept (the callers' frames up to slots), the frame's map is kept, the new abstract heap is held -/
theorem Inv.step {g' : Array GenState} {t' : Nat} {d' : Drawn} {ch : List Addr} (I : Inv X pins σ H s)
    (hch : ∀ b ∈ ch, (b ∈ X.ex ∨ X.s₀.heap.objs.size ≤ b) ∧ b ≠ X.env.locals ∧ (∀ x c, X.env.cells.lookup x = some c → c ≠ b) ∧ ∀ p ∈ X.pn ++ pins, p.1 ≠ b)
    (keep : ∀ b o, b ≠ X.env.locals → b ∉ X.fs → b ∉ ch → s.heap.get? b = some o → H b = none → h'.get? b = some o)
    (slot : ∀ b o, b ≠ X.env.locals → b ∈ X.fs → b ∉ ch → s.heap.get? b = some o → H b = none → ∃ sl, h'.get? b = some { o with slots := sl }) (free : ∀ b o, b ∉ ch → s.heap.get? b = some o → H b = none → H' b = none)
    (there : ∀ b o, b ∉ ch → s.heap.get? b = some o → ∃ o', h'.get? b = some o')
    (tups : ∀ b xs, H b = some (.tup xs) → H' b = some (.tup xs)) (frzs : ∀ b o u, H b = some (.frz o u) → H' b = some (.frz o u)) (tbls : ∀ b ps, H b = some (.tbl ps) → ∃ more, H' b = some (.tbl (ps ++ more)))
    (ns : ∀ m, s.heap.Ns X.env.locals m → h'.Ns X.env.locals m) (hok : HOk X.prog X.w H' h') (hg : AllBare g') :
    Inv X pins σ H' { s with heap := h', gens := g', drawn := d', toks := t' } := by
  have neL : ∀ b o, X.s₀.heap.get? b = some o → b ≠ X.env.locals := fun b o e => Nat.ne_of_lt (Nat.lt_of_lt_of_le (Heap.lt_size e) I.ok.above)
  have neC : ∀ b o, X.s₀.heap.get? b = some o → b ∉ X.ex → b ∉ ch := fun b o e hx hb => by
    rcases (hch b hb).1 with z | z
    · exact hx z
    · exact absurd (Nat.lt_of_lt_of_le (Heap.lt_size e) z) (Nat.lt_irrefl _)
  have cellK : ∀ x c, X.env.cells.lookup x = some c → ∀ v, s.heap.IsCell c v → h'.IsCell c v := fun x c e v ⟨o, ho, hd⟩ => by
    have nch : c ∉ ch := fun z => (hch c z).2.2.1 x c e rfl
    by_cases hc : c ∈ X.fs
    · obtain ⟨sl, q⟩ := slot c o (I.cne x c e) hc nch ho (I.freeC x c e)
      exact ⟨_, q, hd⟩
    · exact ⟨o, keep c o (I.cne x c e) hc nch ho (I.freeC x c e), hd⟩
  refine ⟨I.ok, I.os, hg, ⟨fun b o e n hb hx => ?_, fun b o e n hb hx => ?_, fun b o e n hx => ?_, fun b o e hx => ?_, fun b xs e => tups b xs (I.base.tups b xs e), fun b o xs e => frzs b o xs (I.base.frzs b o xs e), fun b ps e => ?_⟩, ?_, fun x c e => ?_, ?_, fun x c e => ?_, fun p hp => ?_, hok, I.len⟩
  · exact keep b o (neL b o e) hb (neC b o e hx) (I.base.keep b o e n hb hx) (I.base.free b o e n hx)
  · obtain ⟨sl, e1⟩ := I.base.slot b o e n hb hx
    obtain ⟨sl', e2⟩ := slot b _ (neL b o e) hb (neC b o e hx) e1 (I.base.free b o e n hx)
    exact ⟨sl', e2⟩
  · obtain ⟨o', e1⟩ := I.base.there b o e hx
    exact free b o' (neC b o e hx) e1 (I.base.free b o e n hx)
  · obtain ⟨o', e1⟩ := I.base.there b o e hx
    exact there b o' (neC b o e hx) e1
  · obtain ⟨m1, e1⟩ := I.base.tbls b ps e
    obtain ⟨m2, e2⟩ := tbls b _ e1
    exact ⟨m1 ++ m2, by rw [e2, Array.append_assoc]⟩
  · obtain ⟨m, hn, hl⟩ := I.loc
    refine ⟨m, ns m hn, fun i x v e1 e2 e3 => ?_⟩
    obtain ⟨u, r, l⟩ := hl i x v e1 e2 e3
    refine ⟨u, r, ?_⟩
    rcases l with l | ⟨k, c, e, z⟩
    · exact .inl l
    · exact .inr ⟨k, c, e, cellK x c e _ z⟩
  · obtain ⟨v, z⟩ := I.cell x c e
    exact ⟨v, cellK x c e v z⟩
  · obtain ⟨m, ⟨o, _, _, ho, _⟩, _⟩ := I.loc
    exact free _ o (fun z => (hch _ z).2.1 rfl) ho I.free
  · obtain ⟨v, o, ho, hd⟩ := I.cell x c e
    exact free c o (fun z => (hch c z).2.2.1 x c e rfl) ho (I.freeC x c e)
  · obtain ⟨e, n, ne, nf, d⟩ := I.pin p hp
    have nch : p.1 ∉ ch := fun z => (hch p.1 z).2.2.2 p hp rfl
    exact ⟨keep p.1 p.2 ne nf nch e n, free p.1 p.2 nch e n, ne, nf, d⟩
/-- .. where the frame's own object is kept too -/
theorem Inv.un {t' : Nat} (I : Inv X pins σ H s) (u : Un X.fs [] H H' s.heap h') (hok : HOk X.prog X.w H' h') : Inv X pins σ H' { s with heap := h', toks := t' } := by
  obtain ⟨m, ⟨o, es, ep, ho, r⟩, _⟩ := id I.loc
  obtain ⟨sl, hL⟩ := u.any ho I.free (by simp)
  exact I.step (g' := s.gens) (d' := s.drawn) (ch := []) (fun _ z => nomatch z) (fun b o _ hb _ e n => u.keep b o e n hb (by simp)) (fun b o _ hb _ e n => u.slot b o e n hb (by simp)) (fun b o _ e n => u.free b o e n (by simp)) (fun b o _ e => u.there b o e (by simp)) u.tups u.frzs u.tbls (fun m' hm => by
    obtain ⟨o', es', ep', ho', r'⟩ := hm
    rw [ho] at ho'; cases ho'
    exact ⟨_, es', ep', hL, r'⟩) hok I.bare
/-- behind a call (or a comprehension's block): the slots of this frame may have changed too, the records at ch may have turned -/
theorem Inv.call {g' : Array GenState} {t' : Nat} {d' : Drawn} {ch : List Addr} (I : Inv X pins σ H s) (u : Un (frs X.stack) ch H H' s.heap h') (hok : HOk X.prog X.w H' h') (hg : AllBare g')
    (hch : ∀ b ∈ ch, (b ∈ X.ex ∨ X.s₀.heap.objs.size ≤ b) ∧ b ≠ X.env.locals ∧ (∀ x c, X.env.cells.lookup x = some c → c ≠ b) ∧ ∀ p ∈ X.pn ++ pins, p.1 ≠ b) :
    Inv X pins σ H' { s with heap := h', gens := g', drawn := d', toks := t' } := by
  obtain ⟨m, ⟨o, es, ep, ho, r⟩, _⟩ := id I.loc
  obtain ⟨sl, hL⟩ := u.any ho I.free fun z => (hch _ z).2.1 rfl
  exact I.step (ch := ch) hch (fun b o hL hb hc e n => u.keep b o e n (fun z => (List.mem_cons.mp (I.stkSub b z)).elim hL hb) hc) (fun b o _ _ hc e n => u.any e n hc) (fun b o hc e n => u.free b o e n hc) (fun b o hc e => u.there b o e hc) u.tups u.frzs u.tbls (fun m' hm => by
    obtain ⟨o', es', ep', ho', r'⟩ := hm
    rw [ho] at ho'; cases ho'
    exact ⟨_, es', ep', hL, r'⟩) hok hg
/-- an untracked record of ours (an iterator) has turned -/
theorem Inv.turned {t' : Nat} {it : Addr} (I : Inv X pins σ H s) (k : ∀ b o, b ≠ it → s.heap.get? b = some o → h'.get? b = some o) (hn : H it = none) (hL : it ≠ X.env.locals)
    (h1 : it ∈ X.ex ∨ X.s₀.heap.objs.size ≤ it) (h2 : ∀ x c, X.env.cells.lookup x = some c → c ≠ it) (h3 : ∀ p ∈ X.pn ++ pins, p.1 ≠ it) : Inv X pins σ H { s with heap := h', toks := t' } := by
  have nit : ∀ b u, H b = some u → b ≠ it := fun b u e z => by rw [z, hn] at e; cases e
  refine I.step (g' := s.gens) (d' := s.drawn) (ch := [it]) (fun b hb => ?_) (fun b o _ _ hc e _ => k b o (fun z => hc (by simp [z])) e) (fun b o _ _ hc e _ => ⟨o.slots, k b o (fun z => hc (by simp [z])) e⟩) (fun _ _ _ _ n => n)
    (fun b o hc e => ⟨o, k b o (fun z => hc (by simp [z])) e⟩) (fun _ _ e => e) (fun _ _ _ e => e) (fun b ps e => ⟨#[], by rw [e]; simp⟩) (fun m hm => ?_) (fun b u e => ?_) I.bare
  · have e : b = it := by simpa using hb
    subst e
    exact ⟨h1, hL, h2, h3⟩
  · obtain ⟨o, es, ep, ho, r⟩ := hm
    exact ⟨o, es, ep, k _ o (Ne.symm hL) ho, r⟩
  · refine (I.hok b u e).stay (fun c v hc q => k c v ?_ q) (fun _ q => q) fun _ _ q => q
    rcases hc with z | z
    · rw [z]; exact nit b u e
    · exact nit c _ z
theorem Inv.tok (I : Inv X pins σ H s) (t : Nat) : Inv X pins σ H { s with toks := t } := I.un (h' := s.heap) (t' := t) Un.refl I.hok
/-- all objects kept -/
theorem Inv.kept {t' : Nat} (I : Inv X pins σ H s) (k : ∀ b u, s.heap.get? b = some u → h'.get? b = some u) : Inv X pins σ H { s with heap := h', toks := t' } := I.un (Un.kept k) (I.hok.kept k)
/-- a new object laid and tracked -/
theorem Inv.laid {a : Addr} {o : HO} {t' : Nat} (I : Inv X pins σ H s) (k : ∀ b u, s.heap.get? b = some u → h'.get? b = some u) (hp : s.heap.objs.size ≤ a) (new : ObjOk X.prog X.w (upd H a o) h' a o) :
    Inv X pins σ (upd H a o) { s with heap := h', toks := t' } := I.un (Un.laid k hp (I.hok.fresh hp)) (I.hok.laid k hp new)
/-- an object written -/
theorem Inv.write {x e : Addr} {o : HO} {t' : Nat} (I : Inv X pins σ H s) (mu : Mut (H x)) (he : e = x ∨ H e = some (.own x)) (k : ∀ b u, b ≠ e → s.heap.get? b = some u → h'.get? b = some u) (heo : ∃ u, h'.get? e = some u)
    (new : ObjOk X.prog X.w (upd H x o) h' x o) : Inv X pins σ (upd H x o) { s with heap := h', toks := t' } := I.un (Un.write mu he k heo) (I.hok.write mu he k heo new)
/-- forgetting slots, pins -/
theorem Inv.weak {σ' : List (Option V)} (I : Inv X pins σ H s) (hl : σ'.length = σ.length) (w : ∀ (i : Nat) v, σ'[i]? = some (some v) → σ[i]? = some (some v)) : Inv X pins σ' H s :=
  ⟨I.ok, I.os, I.bare, I.base, let ⟨m, hn, hl'⟩ := I.loc; ⟨m, hn, fun i x v e1 e2 e3 => hl' i x v e1 (w i v e2) e3⟩, I.cell, I.free, I.freeC, I.pin, I.hok, hl.trans I.len⟩
theorem Inv.pins_of {pins' : List (Addr × Obj)} (I : Inv X pins σ H s) (h : ∀ p ∈ pins', s.heap.get? p.1 = some p.2 ∧ H p.1 = none ∧ p.1 ≠ X.env.locals ∧ p.1 ∉ X.fs ∧ ∀ v, p.2.data ≠ .cell v) : Inv X pins' σ H s :=
  ⟨I.ok, I.os, I.bare, I.base, I.loc, I.cell, I.free, I.freeC, fun p hp => (List.mem_append.mp hp).elim (fun z => I.pin p (List.mem_append_left _ z)) (h p), I.hok, I.len⟩

theorem nodup_ix {N : List Str} (hN : N.Nodup) {i j : Nat} {x : Str} (a : N[i]? = some x) (b : N[j]? = some x) : i = j := by
  obtain ⟨h1, e1⟩ := List.getElem?_eq_some_iff.mp a
  obtain ⟨h2, e2⟩ := List.getElem?_eq_some_iff.mp b
  exact (List.getElem_inj hN).mp (e1.trans e2.symm)

/-- a name is stored; what changed -/
theorem store_ok2 {M : Model} {A : Around} {E : Value → Shared → Prop} {i : Nat} {x : Str} {v : V} {u : Value} {Q : Unit → Shared → Prop} (I : Inv X pins σ H s) (hN : X.N.Nodup) (hi : X.N[i]? = some x) (hx : Loc X.env.scope x) (r : RelV v u)
    (h : ∀ s', Inv X pins (σ.set i (some v)) H s' → (∃ a, Heap.SameBut a s.heap s'.heap ∧ (a = X.env.locals ∨ X.env.cells.lookup x = some a)) → Q () s') (hf : X.fn x = true ∨ X.env.scope.names.lookup x = some .local := by first | exact .inl rfl | exact .inr rfl | assumption) : wpAny M A (storeName X.env x u) Q E s := by
  obtain ⟨m, hn, hl⟩ := id I.loc
  have hcls : (X.env.scope.kind == .class || (X.env.scope.kind == .module && X.env.locals != X.env.globals)) = false := by rw [I.ok.kind]; rfl
  have hiσ : i < σ.length := by rw [I.len]; exact (List.getElem?_eq_some_iff.mp hi).1
  have cne := I.cne
  have tracked : ∀ {a : Addr} {h' : Heap}, (∃ o, s.heap.get? a = some o ∧ H a = none) → Heap.SameBut a s.heap h' → HOk X.prog X.w H h' := fun {a h'} ha hs b ob e => by
    obtain ⟨_, _, hfree⟩ := ha
    refine (I.hok b ob e).stay (fun c w' hc q => (hs.2 c ?_).trans q) (fun _ q => q) fun _ _ q => q
    rintro rfl
    rcases hc with rfl | hc
    · rw [hfree] at e; cases e
    · rw [hfree] at hc; cases hc
  rcases hx with hk | hk
  · refine wpAny_storeName_local hk hn (fun h' hn' hs => ?_) hcls
    obtain ⟨oL, _, _, hoL, _⟩ := id hn
    refine h _ ⟨I.ok, I.os, I.bare, ⟨fun b o e n hb hx => ?_, fun b o e n hb hx => ?_, I.base.free, fun b o e hx => ?_, I.base.tups, I.base.frzs, I.base.tbls⟩, ⟨_, hn', fun j y v' e1 e2 e3 => ?_⟩, fun y c e => ?_, I.free, I.freeC, fun p hp => ?_, tracked ⟨oL, hoL, I.free⟩ hs, by simpa using I.len⟩ ⟨_, hs, .inl rfl⟩
    · exact (hs.2 b (Nat.ne_of_lt (Nat.lt_of_lt_of_le (Heap.lt_size e) I.ok.above))).trans (I.base.keep b o e n hb hx)
    · obtain ⟨sl, e1⟩ := I.base.slot b o e n hb hx
      exact ⟨sl, (hs.2 b (Nat.ne_of_lt (Nat.lt_of_lt_of_le (Heap.lt_size e) I.ok.above))).trans e1⟩
    · obtain ⟨o', e1⟩ := I.base.there b o e hx
      exact ⟨o', (hs.2 b (Nat.ne_of_lt (Nat.lt_of_lt_of_le (Heap.lt_size e) I.ok.above))).trans e1⟩
    · by_cases hj : j = i
      · subst hj
        rw [hi] at e1; cases e1
        rw [List.getElem?_set_self hiσ] at e2
        cases e2
        exact ⟨u, r, .inl ⟨hk, by simp⟩⟩
      · rw [List.getElem?_set_ne (Ne.symm hj)] at e2
        obtain ⟨u', r', q⟩ := hl j y v' e1 e2 e3
        refine ⟨u', r', ?_⟩
        rcases q with ⟨k, e⟩ | ⟨k, c, e, z⟩
        · refine .inl ⟨k, ?_⟩
          have : y ≠ x := fun e => hj (nodup_ix hN e1 (e ▸ hi))
          simp [this, e]
        · exact .inr ⟨k, c, e, z.sameBut hs (cne y c e)⟩
    · obtain ⟨w', z⟩ := I.cell y c e
      exact ⟨w', z.sameBut hs (cne y c e)⟩
    · obtain ⟨e, n, ne, nf, d⟩ := I.pin p hp
      exact ⟨(hs.2 p.1 ne).trans e, n, ne, nf, d⟩
  · have hfn : X.fn x = true := by
      rcases hf with z | z
      · exact z
      · rw [z] at hk; cases hk
    obtain ⟨c, hc⟩ := I.ok.has x (.inl hk)
    obtain ⟨w', z⟩ := I.cell x c hc
    refine wpAny_storeName_cell I.ok.kind hk hc z (fun h' hc' hs => ?_)
    obtain ⟨oc, hoc, hocd⟩ := id z
    refine h { s with heap := h' } ⟨I.ok, I.os, I.bare, ⟨fun b o e n hb hx => ?_, fun b o e n hb hx => ?_, I.base.free, fun b o e hx => ?_, I.base.tups, I.base.frzs, I.base.tbls⟩, ⟨m, hn.sameBut hs (Ne.symm (cne x c hc)), fun j y v' e1 e2 e3 => ?_⟩, fun y c' e => ?_, I.free, I.freeC, fun p hp => ?_, tracked ⟨oc, hoc, I.freeC x c hc⟩ hs, by simpa using I.len⟩ ⟨c, hs, .inr hc⟩
    · exact (hs.2 b (Nat.ne_of_lt (Nat.lt_of_lt_of_le (Heap.lt_size e) (I.ok.cab x c hfn hc)))).trans (I.base.keep b o e n hb hx)
    · obtain ⟨sl, e1⟩ := I.base.slot b o e n hb hx
      exact ⟨sl, (hs.2 b (Nat.ne_of_lt (Nat.lt_of_lt_of_le (Heap.lt_size e) (I.ok.cab x c hfn hc)))).trans e1⟩
    · obtain ⟨o', e1⟩ := I.base.there b o e hx
      exact ⟨o', (hs.2 b (Nat.ne_of_lt (Nat.lt_of_lt_of_le (Heap.lt_size e) (I.ok.cab x c hfn hc)))).trans e1⟩
    · by_cases hj : j = i
      · subst hj
        rw [hi] at e1; cases e1
        rw [List.getElem?_set_self hiσ] at e2
        cases e2
        exact ⟨u, r, .inr ⟨.inl hk, c, hc, hc'⟩⟩
      · rw [List.getElem?_set_ne (Ne.symm hj)] at e2
        obtain ⟨u', r', q⟩ := hl j y v' e1 e2 e3
        refine ⟨u', r', ?_⟩
        rcases q with q | ⟨k, c', e, z'⟩
        · exact .inl q
        · refine .inr ⟨k, c', e, z'.sameBut hs ?_⟩
          rintro rfl
          exact hj (nodup_ix hN e1 (I.ok.inj _ _ _ e hc ▸ hi))
    · by_cases hcc : c' = c
      · subst hcc; exact ⟨_, hc'⟩
      · obtain ⟨w2, z2⟩ := I.cell y c' e
        exact ⟨w2, z2.sameBut hs hcc⟩
    · obtain ⟨e, n, ne, nf, d⟩ := I.pin p hp
      refine ⟨(hs.2 p.1 ?_).trans e, n, ne, nf, d⟩
      intro q
      rw [q, hoc] at e
      have q' : oc = p.2 := Option.some.inj e
      exact d w' (by rw [← q']; exact hocd)
theorem store_ok {M : Model} {A : Around} {E : Value → Shared → Prop} {i : Nat} {x : Str} {v : V} {u : Value} {Q : Unit → Shared → Prop} (I : Inv X pins σ H s) (hN : X.N.Nodup) (hi : X.N[i]? = some x) (hx : Loc X.env.scope x) (r : RelV v u)
    (h : ∀ s', Inv X pins (σ.set i (some v)) H s' → Q () s') (hf : X.fn x = true ∨ X.env.scope.names.lookup x = some .local := by first | exact .inl rfl | exact .inr rfl | assumption) : wpAny M A (storeName X.env x u) Q E s :=
  store_ok2 I hN hi hx r (fun s' I' _ => h s' I') hf
/-- behind a call or a block, the state as it is -/
theorem Inv.call' {s' : Shared} {ch : List Addr} (I : Inv X pins σ H s) (ho : s'.os = s.os) (u : Un (frs X.stack) ch H H' s.heap s'.heap) (hok : HOk X.prog X.w H' s'.heap) (hg : AllBare s'.gens)
    (hch : ∀ b ∈ ch, (b ∈ X.ex ∨ X.s₀.heap.objs.size ≤ b) ∧ b ≠ X.env.locals ∧ (∀ x c, X.env.cells.lookup x = some c → c ≠ b) ∧ ∀ p ∈ X.pn ++ pins, p.1 ≠ b) : Inv X pins σ H' s' := by
  obtain ⟨h', g', d', t', o'⟩ := s'
  have e : o' = s.os := ho
  subst e
  exact I.call (g' := g') (t' := t') (d' := d') u hok hg hch
end

/-! ### the judgements -/
/-- an exception: its class, its own dict's address (where it has one), the abstract heap behind it -/
abbrev XK := Value → Option Addr → Hp → Prop
abbrev St := List (Option V)
abbrev VK := V → Hp → Prop
/-- an expression's reading; a test's; an argument list's -/
abbrev TE := St → Hp → VK → Prop
abbrev TT := St → Hp → (Bool → Hp → Prop) → Prop
abbrev TA := St → Hp → (List V → Hp → Prop) → Prop
/-- what is wanted behind a statement -/
structure Ends where
  nx : St → Hp → Prop
  rt : VK
  bk : St → Hp → Prop := fun _ _ => False
  ct : St → Hp → Prop := fun _ _ => False
abbrev TS := Ends → St → Hp → Prop

def EP (X : Cx) (pins : List (Addr × Obj)) (σ : St) (Q : VK) (u : Value) (s' : Shared) : Prop := ∃ v H', Inv X pins σ H' s' ∧ RelV v u ∧ Q v H'
def TP (X : Cx) (pins : List (Addr × Obj)) (σ : St) (Q : Bool → Hp → Prop) (b : Bool) (s' : Shared) : Prop := ∃ H', Inv X pins σ H' s' ∧ Q b H'
def AP (X : Cx) (pins : List (Addr × Obj)) (σ : St) (Q : List V → Hp → Prop) (us : List Value) (s' : Shared) : Prop := ∃ vs H', Inv X pins σ H' s' ∧ Vals vs us ∧ Q vs H'
def SP (X : Cx) (pins : List (Addr × Obj)) (D : Ends) (f : Flow) (s' : Shared) : Prop :=
  match f with
  | .next => ∃ σ' H', Inv X pins σ' H' s' ∧ D.nx σ' H'
  | .brk => ∃ σ' H', Inv X pins σ' H' s' ∧ D.bk σ' H'
  | .cont => ∃ σ' H', Inv X pins σ' H' s' ∧ D.ct σ' H'
  | .ret u => ∃ v σ' H', Inv X pins σ' H' s' ∧ RelV v u ∧ D.rt v H'

def PE (X : Cx) (e : Expr) (t : TE) : Prop :=
  ∀ (pins : List (Addr × Obj)) (s : Shared) (σ : St) (H : Hp) (Q : VK), Inv X pins σ H s → t σ H Q → wpAny (model X.prog X.w) X.A (eval e X.env) (EP X pins σ Q) X.xe s
def PT (X : Cx) (e : Expr) (t : TT) : Prop :=
  ∀ (pins : List (Addr × Obj)) (s : Shared) (σ : St) (H : Hp) (Q : Bool → Hp → Prop), Inv X pins σ H s → t σ H Q → wpAny (model X.prog X.w) X.A (isTrue e X.env (eval e X.env)) (TP X pins σ Q) X.xe s
/-- a test whatever its 'whole' is (and, or) -/
def PW (X : Cx) (e : Expr) (t : TT) : Prop :=
  ∀ (whole : Sem Value) (pins : List (Addr × Obj)) (s : Shared) (σ : St) (H : Hp) (Q : Bool → Hp → Prop), Inv X pins σ H s → t σ H Q → wpAny (model X.prog X.w) X.A (isTrue e X.env whole) (TP X pins σ Q) X.xe s
theorem PW.pt {X : Cx} {e : Expr} {t : TT} (h : PW X e t) : PT X e t := h _
/-- an argument list (no star), from the left -/
def PA (X : Cx) (es : List Expr) (t : TA) : Prop :=
  ∀ (pos : Pos) (pins : List (Addr × Obj)) (s : Shared) (σ : St) (H : Hp) (Q : List V → Hp → Prop), Inv X pins σ H s → t σ H Q → wpAny (model X.prog X.w) X.A (spliced (backTo pos (starEach es X.env))) (AP X pins σ Q) X.xe s
def PS (X : Cx) (st : Stmt) (t : TS) : Prop :=
  ∀ (pins : List (Addr × Obj)) (s : Shared) (σ : St) (H : Hp) (D : Ends), Inv X pins σ H s → t D σ H → wpAny (model X.prog X.w) X.A (exec st X.env) (SP X pins D) X.xe s
def PSs (X : Cx) (st : List Stmt) (t : TS) : Prop :=
  ∀ (pins : List (Addr × Obj)) (s : Shared) (σ : St) (H : Hp) (D : Ends), Inv X pins σ H s → t D σ H → wpAny (model X.prog X.w) X.A (execs st X.env) (SP X pins D) X.xe s
/-- weaken the end -/
theorem thn {α : Type} {t : Sem α} {Q Q' : α → Shared → Prop} {M : Model} {A : Around} {E : Value → Shared → Prop} {s : Shared} (h : wpAny M A t Q E s) (hQ : ∀ a s, Q a s → Q' a s) : wpAny M A t Q' E s := wpAny_mono h hQ fun _ _ x => x
end L2

namespace L2
open PySem PySem.Spec PyProof.Rows
section
variable {X : Cx}

/-! ### names and constants -/
def tVar (i : Nat) : TE := fun σ H Q => ∃ v, σ[i]? = some (some v) ∧ Q v H
def tC (v : V) : TE := fun _ H Q => Q v H
theorem pe_var {i : Nat} {x : Str} {pos : Pos} (hN : X.N[i]? = some x) (hv : Vis X.env.scope x) (hd : (x == ("__debug__" : Str)) = false := by decide) (hcd : (x == ("__classdict__" : Str)) = false := by decide) : PE X (.Name x pos) (tVar i) := by
  intro pins s σ H Q I h
  obtain ⟨v, e, h⟩ := h
  obtain ⟨m, hn, hl⟩ := I.loc
  obtain ⟨u, r, l⟩ := hl i x v hN e hv
  have fin : EP X pins σ Q u s := ⟨v, H, I, r, h⟩
  rcases l with ⟨hk, hm⟩ | ⟨hk, c, hc, hcell⟩
  · exact wpAny_Name (wpAny_loadName_local I.ok.kind hk hn hm fin) hd
  · rcases hk with hk | hk
    · exact wpAny_Name (wpAny_loadName_cell I.ok.kind hk hc hcell fin) hd
    · exact wpAny_Name (wpAny_loadName_free I.ok.kind hk hc hcell fin hcd) hd
theorem pe_int {i j pos} : PE X (.Constant (.int i) j pos) (tC (.int i)) := fun _ _ _ H _ I h => wpAny_Constant_int ⟨.int i, H, I.tok _, ⟨_, rfl⟩, h⟩
theorem pe_bl {b j pos} : PE X (.Constant (.bool b) j pos) (tC (.bl b)) := fun _ _ _ H _ I h => Constant_bool ⟨.bl b, H, I, rfl, h⟩
theorem pe_non {j pos} : PE X (.Constant .none j pos) (tC .non) := fun _ _ _ H _ I h => Constant_none ⟨.non, H, I, rfl, h⟩
theorem pe_str {x j pos} : PE X (.Constant (.str x) j pos) (tC (.str x)) := fun _ _ _ H _ I h => Calls.Constant_str ⟨.str x, H, I.tok _, ⟨_, rfl⟩, h⟩

/-- a global name of the def -/
def Gl (X : Cx) (x : Str) : Prop := X.env.kindOf x = some .globalImplicit
theorem ld_glob {E : Value → Shared → Prop} {pins : List (Addr × Obj)} {s : Shared} {σ : St} {H : Hp} {x : Str} {u : Value} {pos : Pos} {Q : Value → Shared → Prop} (I : Inv X pins σ H s) (hg : Gl X x) (hm : X.mg x = some u) (h : Q u s)
    (hd : (x == ("__debug__" : Str)) = false := by decide) : wpAny (model X.prog X.w) X.A (eval (.Name x pos) X.env) Q E s :=
  Calls.Name_function_global I.ok.kind hg (Calls.loadGlobal_global (by rw [I.ok.glob]; exact I.mod.glob.keeps I.bk) hm h) hd
theorem ld_blt {E : Value → Shared → Prop} {pins : List (Addr × Obj)} {s : Shared} {σ : St} {H : Hp} {x : Str} {u : Value} {pos : Pos} {Q : Value → Shared → Prop} (I : Inv X pins σ H s) (hg : Gl X x) (hm : X.mg x = none) (hv : bootBuiltins x = some u) (h : Q u s)
    (hn : x ≠ "__name__" := by decide) (hd : (x == ("__debug__" : Str)) = false := by decide) : wpAny (model X.prog X.w) X.A (eval (.Name x pos) X.env) Q E s := by
  obtain ⟨mb, h1, h2⟩ := I.mod.blt
  exact Calls.Name_function_global I.ok.kind hg (Calls.loadGlobal_builtin (by rw [I.ok.glob]; exact I.mod.glob.keeps I.bk) hm (by rw [I.ok.blt]; exact h1.keeps I.bk) ((h2 x hn).trans hv) h) hd
theorem pe_bltn {x : Str} {v : V} {u : Value} {pos : Pos} (hg : Gl X x) (hm : X.mg x = none) (hv : bootBuiltins x = some u) (r : RelV v u) (hn : x ≠ "__name__" := by decide) (hd : (x == ("__debug__" : Str)) = false := by decide) : PE X (.Name x pos) (tC v) :=
  fun _ _ _ H _ I h => ld_blt I hg hm hv ⟨v, H, I, r, h⟩ hn hd

/-! ### arithmetic -/
/-- two ints -/
def t2I (ta tb : TE) (k : Int → Int → Hp → Prop) : St → Hp → Prop := fun σ H => ta σ H fun x H1 => tb σ H1 fun y H2 => ∃ i j, x = .int i ∧ y = .int j ∧ k i j H2
def tAdd (ta tb : TE) : TE := fun σ H Q => t2I ta tb (fun i j H2 => Q (.int (i + j)) H2) σ H
def tSub (ta tb : TE) : TE := fun σ H Q => t2I ta tb (fun i j H2 => Q (.int (i - j)) H2) σ H
/-- the left factor below 2^64 -/
def tMul (ta tb : TE) : TE := fun σ H Q => t2I ta tb (fun i j H2 => (-(2 ^ 64) < i ∧ i < 2 ^ 64) ∧ Q (.int (i * j)) H2) σ H
variable {a b : Expr} {ta tb : TE} {pos : Pos}
/-! ### comparisons -/
def PC (X : Cx) (op : CmpOp) (a b : Expr) (t : TE) : Prop :=
  ∀ (pins : List (Addr × Obj)) (s : Shared) (σ : St) (H : Hp) (Q : VK), Inv X pins σ H s → t σ H Q →
    wpAny (model X.prog X.w) X.A (eval a X.env) (fun v s₁ => wpAny (model X.prog X.w) X.A (eval b X.env) (fun u s₂ => wpAny (model X.prog X.w) X.A (compareOp op v u) (EP X pins σ Q) X.xe s₂) X.xe s₁) X.xe s
def tCmp (p : Int → Int → Bool) (ta tb : TE) : TE := fun σ H Q => t2I ta tb (fun i j H2 => Q (.bl (p i j)) H2) σ H
abbrev tLt : TE → TE → TE := tCmp fun i j => decide (i < j)
abbrev tLe : TE → TE → TE := tCmp fun i j => decide (i ≤ j)
abbrev tGt : TE → TE → TE := tCmp fun i j => decide (j < i)
abbrev tGe : TE → TE → TE := tCmp fun i j => decide (j ≤ i)
abbrev tEqI : TE → TE → TE := tCmp fun i j => decide (i = j)
abbrev tNeI : TE → TE → TE := tCmp fun i j => !decide (i = j)
/-- is None -/
def tIsN (ta : TE) : TE := fun σ H Q => ta σ H fun x H1 => Q (.bl (decide (x = .non))) H1
def tNotN (ta : TE) : TE := fun σ H Q => ta σ H fun x H1 => Q (.bl (!decide (x = .non))) H1
/-- a comparison as a value, as a test -/
def tB (t : TE) : TT := fun σ H Q => t σ H fun x H1 => ∃ c, x = .bl c ∧ Q c H1
/-- an expression whose value is a bool, as a test -/
theorem pt_val {e : Expr} {t : TE} (h : PE X e t) (he : ∀ whole, isTrue e X.env whole = (do let v ← whole; standAt e.pos; holding [v] (truthy v)) := by intro _; rfl) : PT X e (tB t) := by
  intro pins s σ H Q I hw
  refine isTrue_plain (thn (h pins s σ H _ I hw) fun v s1 ⟨x, H1, I1, r1, q1⟩ => ?_) (he _)
  obtain ⟨d, rfl, q⟩ := q1
  cases r1
  exact wpAny_truthy_bool ⟨H1, I1, q⟩

/-! ### and, or, not -/
variable {tA tB' : TT} {rest : List Expr}
def tAnd (t u : TT) : TT := fun σ H Q => t σ H fun c H1 => if c = true then u σ H1 Q else Q false H1
def tOr (t u : TT) : TT := fun σ H Q => t σ H fun c H1 => if c = true then Q true H1 else u σ H1 Q
def tNot (t : TT) : TT := fun σ H Q => t σ H fun c H1 => Q (!c) H1
theorem pw_and1 (ha : PT X a tA) : PW X (.BoolOp .And [a] pos) tA := by
  intro wh pins s σ H Q I h
  refine isTrue_and (thn (ha pins s σ H Q I h) fun c s1 e => ?_)
  cases c with
  | true => exact isTrue_and_nil e
  | false => exact e
theorem pw_or1 (ha : PT X a tA) : PW X (.BoolOp .Or [a] pos) tA := by
  intro wh pins s σ H Q I h
  refine isTrue_or (thn (ha pins s σ H Q I h) fun c s1 e => ?_)
  cases c with
  | false => exact isTrue_or_nil e
  | true => exact e
theorem pw_and (ha : PT X a tA) (hb : PW X (.BoolOp .And (b :: rest) pos) tB') : PW X (.BoolOp .And (a :: b :: rest) pos) (tAnd tA tB') := by
  intro wh pins s σ H Q I h
  refine isTrue_and (thn (ha pins s σ H _ I h) fun c s1 ⟨H1, I1, q1⟩ => ?_)
  cases c with
  | true => exact hb wh pins s1 σ H1 Q I1 q1
  | false => exact ⟨H1, I1, q1⟩
theorem pw_or (ha : PT X a tA) (hb : PW X (.BoolOp .Or (b :: rest) pos) tB') : PW X (.BoolOp .Or (a :: b :: rest) pos) (tOr tA tB') := by
  intro wh pins s σ H Q I h
  refine isTrue_or (thn (ha pins s σ H _ I h) fun c s1 ⟨H1, I1, q1⟩ => ?_)
  cases c with
  | true => exact ⟨H1, I1, q1⟩
  | false => exact hb wh pins s1 σ H1 Q I1 q1
theorem pt_not (ha : PT X a tA) : PT X (.UnaryOp .Not a pos) (tNot tA) := by
  intro pins s σ H Q I h
  exact isTrue_not (ha pins s σ H (fun c H1 => Q (!c) H1) I h)
/-- .. as values (bools) -/
def tAndV (ta tb : TE) : TE := fun σ H Q => ta σ H fun x H1 => ∃ c, x = .bl c ∧ if c = true then tb σ H1 Q else Q (.bl false) H1
def tOrV (ta tb : TE) : TE := fun σ H Q => ta σ H fun x H1 => ∃ c, x = .bl c ∧ if c = true then Q (.bl true) H1 else tb σ H1 Q
def tNotV (ta : TE) : TE := fun σ H Q => ta σ H fun x H1 => ∃ c, x = .bl c ∧ Q (.bl (!c)) H1
theorem pe_one {op} {t : TE} (h : PE X a t) : PE X (.BoolOp op [a] pos) t := fun pins s σ H Q I hw => BoolOp_one (h pins s σ H Q I hw)
theorem pe_and (ha : PE X a ta) (hb : PE X (.BoolOp .And (b :: rest) pos) tb) : PE X (.BoolOp .And (a :: b :: rest) pos) (tAndV ta tb) := by
  intro pins s σ H Q I h
  refine BoolOp_and (thn (ha pins s σ H _ I h) fun v s1 ⟨x, H1, I1, r1, q1⟩ => ?_)
  obtain ⟨c, rfl, q1⟩ := q1
  cases r1
  refine wpAny_truthy_bool ?_
  cases c with
  | true => exact hb pins s1 σ H1 Q I1 q1
  | false => exact ⟨.bl false, H1, I1, rfl, q1⟩
theorem pe_not (ha : PE X a ta) : PE X (.UnaryOp .Not a pos) (tNotV ta) := by
  intro pins s σ H Q I h
  refine UnaryOp_ (thn (ha pins s σ H _ I h) fun v s1 ⟨x, H1, I1, r1, q1⟩ => ?_)
  obtain ⟨c, rfl, q1⟩ := q1
  cases r1
  exact not_of (wpAny_truthy_bool ⟨.bl (!c), H1, I1, rfl, q1⟩)
/-- a if t else b -/
def tIf (t : TT) (ta tb : TE) : TE := fun σ H Q => t σ H fun c H1 => if c = true then ta σ H1 Q else tb σ H1 Q
end
end L2

namespace L2
open PySem PySem.Spec PyProof.Rows

/-! ### a list, a tuple that is read: tracked, frozen, or an object of the module -/
def SqL (K : PySem.W.Frag) (H : Hp) (a : Addr) (xs : List V) : Prop :=
  Rd H a (.lst xs) ∨
    ∃ (o : Obj) (its : Array Value) (n : Nat), K.lookup a = some o ∧ o.cls = .type "list" ∧ o.dict = none ∧ o.data = .seq its n ∧ its.size ≤ sizeLine ∧ Vals xs its.toList
def SqT (K : PySem.W.Frag) (H : Hp) (a : Addr) (xs : List V) : Prop :=
  Rd H a (.tup xs) ∨
    ∃ (o : Obj) (its : Array Value) (n : Nat), K.lookup a = some o ∧ o.cls = .type "tuple" ∧ o.data = .seq its n ∧ its.size ≤ sizeLine ∧ Vals xs its.toList
def absV : Value → Option V
  | .none => some .non
  | .bool b => some (.bl b)
  | .int i _ => some (.int i)
  | .str x _ => some (.str x)
  | .bytes b _ => some (.byt b)
  | .float b _ => some (.flt b)
  | .ref a => some (.ref a)
  | .type n => some (.ty n)
  | _ => none
theorem RelV.abs {x : V} {u : Value} (r : RelV x u) : absV u = some x := by
  cases x with
  | non => cases r; rfl
  | bl _ => cases r; rfl
  | int _ => obtain ⟨t, rfl⟩ := r; rfl
  | str _ => obtain ⟨t, rfl⟩ := r; rfl
  | byt _ => obtain ⟨t, rfl⟩ := r; rfl
  | flt _ => obtain ⟨t, rfl⟩ := r; rfl
  | ref _ => cases r; rfl
  | ty _ => cases r; rfl
theorem RelV.inj {x y : V} {u : Value} (r : RelV x u) (q : RelV y u) : x = y := Option.some.inj (r.abs.symm.trans q.abs)
theorem Vals.inj : ∀ {xs ys : List V} {us : List Value}, Vals xs us → Vals ys us → xs = ys
  | _, _, _, .nil, .nil => rfl
  | _, _, _, .cons r t, .cons r' t' => by rw [r.inj r', Vals.inj t t']
section
variable {X : Cx} {pins : List (Addr × Obj)} {σ : St} {H : Hp} {s : Shared} {a : Addr} {xs ys : List V}
theorem SqL.of {K : PySem.W.Frag} (h : H a = some (.lst xs)) : SqL K H a xs := .inl (.inl h)
theorem SqT.of {K : PySem.W.Frag} (h : H a = some (.tup xs)) : SqT K H a xs := .inl (.inl h)
theorem Inv.list (I : Inv X pins σ H s) (h : SqL X.K H a xs) : ∃ its : List Value, Vals xs its ∧ PlainL s.heap a its.toArray ∧ xs.length ≤ sizeLine := by
  rcases h with h | ⟨o, its, n, hk, hc, hd, hs, hz, r⟩
  · obtain ⟨z, its, n, r, e⟩ := h.ok I.hok
    exact ⟨its, r, ⟨_, n, e, rfl, rfl, rfl⟩, z⟩
  · refine ⟨its.toList, r, ⟨o, n, I.kIn a o hk, hc, hd, by simpa using hs⟩, ?_⟩
    have e := r.length
    simp only [Array.length_toList] at e
    omega
theorem Inv.tuple (I : Inv X pins σ H s) (h : SqT X.K H a xs) : ∃ its : List Value, Vals xs its ∧ IsTup s.heap a its.toArray ∧ xs.length ≤ sizeLine := by
  rcases h with h | ⟨o, its, n, hk, hc, hs, hz, r⟩
  · obtain ⟨z, its, r, p⟩ := h.ok I.hok
    exact ⟨its, r, p, z⟩
  · refine ⟨its.toList, r, ⟨o, I.kIn a o hk, hc, n, by simpa using hs⟩, ?_⟩
    have e := r.length
    simp only [Array.length_toList] at e
    omega
theorem Inv.list_inj (I : Inv X pins σ H s) (h : SqL X.K H a xs) (h' : SqL X.K H a ys) : xs = ys := by
  obtain ⟨its, r, ⟨o, n, e, _, _, d⟩, _⟩ := I.list h
  obtain ⟨its', r', ⟨o', n', e', _, _, d'⟩, _⟩ := I.list h'
  rw [e] at e'; cases e'
  rw [d] at d'
  injection d' with d1 _
  have : its = its' := by simpa using congrArg Array.toList d1
  subst this
  exact r.inj r'
end

/-! ### another wish about exceptions -/
abbrev Cx.wish (X : Cx) (E : Value → Shared → Prop) : Cx := { X with xe := E }
/-- no exception leaves -/
abbrev Cx.nox (X : Cx) : Cx := X.wish fun _ _ => False
theorem Cx.Ok.wish {X : Cx} (ok : X.Ok) (E : Value → Shared → Prop) : (X.wish E).Ok :=
  ⟨ok.mod, ok.kind, ok.glob, ok.blt, ok.above, ok.inj, ok.has, ok.cab, ok.hd, ok.frames, ok.stk, ok.exf, ok.bs, ok.bsz, ok.noex, ok.exfs, ok.funs, ok.frf⟩
theorem Cx.Ok.unwish {X : Cx} {E : Value → Shared → Prop} (ok : (X.wish E).Ok) : X.Ok :=
  ⟨ok.mod, ok.kind, ok.glob, ok.blt, ok.above, ok.inj, ok.has, ok.cab, ok.hd, ok.frames, ok.stk, ok.exf, ok.bs, ok.bsz, ok.noex, ok.exfs, ok.funs, ok.frf⟩
section
variable {X : Cx} {pins : List (Addr × Obj)} {σ : St} {H : Hp} {s : Shared} {E : Value → Shared → Prop}
theorem Inv.wish (I : Inv X pins σ H s) (E : Value → Shared → Prop) : Inv (X.wish E) pins σ H s := ⟨I.ok.wish E, I.os, I.bare, I.base, I.loc, I.cell, I.free, I.freeC, I.pin, I.hok, I.len⟩
theorem Inv.unwish (I : Inv (X.wish E) pins σ H s) : Inv X pins σ H s := ⟨I.ok.unwish, I.os, I.bare, I.base, I.loc, I.cell, I.free, I.freeC, I.pin, I.hok, I.len⟩
theorem SP.unwish {D : Ends} {f : Flow} {s' : Shared} (h : SP (X.wish E) pins D f s') : SP X pins D f s' := by
  cases f with
  | next => obtain ⟨σ', H', I, q⟩ := h; exact ⟨σ', H', I.unwish, q⟩
  | brk => obtain ⟨σ', H', I, q⟩ := h; exact ⟨σ', H', I.unwish, q⟩
  | cont => obtain ⟨σ', H', I, q⟩ := h; exact ⟨σ', H', I.unwish, q⟩
  | ret u => obtain ⟨v, σ', H', I, r, q⟩ := h; exact ⟨v, σ', H', I.unwish, r, q⟩
theorem PE.nox {e : Expr} {t : TE} (h : PE X.nox e t) : PE X e t := fun pins s σ H Q I hw =>
  wpAny_mono (h pins s σ H Q (I.wish _) hw) (fun _ _ ⟨v, H', I', r, q⟩ => ⟨v, H', I'.unwish, r, q⟩) fun _ _ z => False.elim z
theorem PT.nox {e : Expr} {t : TT} (h : PT X.nox e t) : PT X e t := fun pins s σ H Q I hw =>
  wpAny_mono (h pins s σ H Q (I.wish _) hw) (fun _ _ ⟨H', I', q⟩ => ⟨H', I'.unwish, q⟩) fun _ _ z => False.elim z
theorem PSs.nox {st : List Stmt} {t : TS} (h : PSs X.nox st t) : PSs X st t := fun pins s σ H D I hw =>
  wpAny_mono (h pins s σ H D (I.wish _) hw) (fun _ _ q => q.unwish) fun _ _ z => False.elim z
end

/-! ### blocks and small statements -/
section
variable {X : Cx} {st : Stmt} {rest : List Stmt} {t u : TS} {e : Expr} {te : TE} {pos : Pos}
def tNext : TS := fun D σ H => D.nx σ H
def tSeq (t u : TS) : TS := fun D σ H => t { D with nx := u D } σ H
theorem pss_nil : PSs X [] tNext := fun _ _ σ H _ I h => wpAny_execs_nil ⟨σ, H, I, h⟩
theorem pss_cons (h1 : PS X st t) (h2 : PSs X rest u) : PSs X (st :: rest) (tSeq t u) := by
  intro pins s σ H D I h
  refine wpAny_execs_cons (thn (h1 pins s σ H { D with nx := u D } I h) fun f s1 q => ?_)
  cases f with
  | next =>
    obtain ⟨σ', H', I', q⟩ := q
    exact h2 pins s1 σ' H' D I' q
  | ret v => exact q
  | brk => exact q
  | cont => exact q
theorem pss_one (h1 : PS X st t) : PSs X [st] t := by
  intro pins s σ H D I h
  refine wpAny_execs_cons (thn (h1 pins s σ H D I h) fun f s1 q => ?_)
  cases f with
  | next => exact wpAny_execs_nil q
  | ret v => exact q
  | brk => exact q
  | cont => exact q
def tBreak : TS := fun D σ H => D.bk σ H
def tCont : TS := fun D σ H => D.ct σ H
theorem ps_continue : PS X (.Continue pos) tCont := fun _ _ σ H _ I h => wpAny_Continue ⟨σ, H, I, h⟩
/-- in a def's body nothing is shown -/
theorem Inv.quiet {pins : List (Addr × Obj)} {σ : St} {H : Hp} {s : Shared} (I : Inv X pins σ H s) : interactive X.env = false := by simp [interactive, I.ok.kind]
/-- an expression whose value is dropped -/
def tDrop (te : TE) : TS := fun D σ H => te σ H fun _ H1 => D.nx σ H1
theorem ps_expr (he : PE X e te) (hs : swapsWith e none pos.line X.env = pure false := by rfl) : PS X (.Expr e pos) (tDrop te) := by
  intro pins s σ H D I h
  exact wpAny_Expr_any (thn (he pins s σ H _ I h) fun v s1 ⟨x, H1, I1, r1, q1⟩ => ⟨σ, H1, I1, q1⟩) I.quiet hs
def tRet (te : TE) : TS := fun D σ H => te σ H D.rt
theorem ps_ret (he : PE X e te) : PS X (.Return (some e) pos) (tRet te) := by
  intro pins s σ H D I h
  exact wpAny_Return_some (thn (he pins s σ H _ I h) fun v s1 ⟨x, H1, I1, r1, q1⟩ => ⟨x, σ, H1, I1, r1, q1⟩)
def tRetN : TS := fun D _ H => D.rt .non H
def tIfS (c : TT) (t u : TS) : TS := fun D σ H => c σ H fun b H1 => if b = true then t D σ H1 else u D σ H1
theorem ps_if {c : Expr} {a b : List Stmt} {tc : TT} (hc : PT X c tc) (ha : PSs X a t) (hb : PSs X b u) : PS X (.If c a b pos) (tIfS tc t u) := by
  intro pins s σ H D I h
  refine wpAny_If (thn (hc pins s σ H _ I h) fun d s1 ⟨H1, I1, q1⟩ => ?_)
  cases d with
  | true => exact ha pins s1 σ H1 D I1 q1
  | false => exact hb pins s1 σ H1 D I1 q1
/-- code that the proof never comes to -/
def tNever : TS := fun _ _ _ => False
end

/-! ### targets -/
abbrev TG := V → St → Hp → (St → Hp → Prop) → Prop
abbrev TGs := List V → St → Hp → (St → Hp → Prop) → Prop
def PG (X : Cx) (target : Expr) (t : TG) : Prop :=
  ∀ (pins : List (Addr × Obj)) (s : Shared) (σ : St) (H : Hp) (v : V) (u : Value) (Q : St → Hp → Prop), Inv X pins σ H s → RelV v u → t v σ H Q →
    wpAny (model X.prog X.w) X.A (assign target X.env u) (fun _ s' => ∃ σ' H', Inv X pins σ' H' s' ∧ Q σ' H') X.xe s
/-- several targets, one after another -/
def PGs (X : Cx) (ts : List Expr) (t : TGs) : Prop :=
  ∀ (pins : List (Addr × Obj)) (s : Shared) (σ : St) (H : Hp) (vs : List V) (us : List Value) (Q : St → Hp → Prop), Inv X pins σ H s → Vals vs us → t vs σ H Q →
    wpAny (model X.prog X.w) X.A (assignInOrder ((assignEach ts X.env).map (·.2)) us) (fun _ s' => ∃ σ' H', Inv X pins σ' H' s' ∧ Q σ' H') X.xe s
/-- o[i] = v, by values -/
abbrev TSet := V → V → V → Hp → (Hp → Prop) → Prop
def PSet (X : Cx) (t : TSet) : Prop :=
  ∀ (pins : List (Addr × Obj)) (s : Shared) (σ : St) (H : Hp) (o i v : V) (ov iv u : Value) (Q : Hp → Prop), Inv X pins σ H s → RelV o ov → RelV i iv → RelV v u → t o i v H Q →
    wpAny (model X.prog X.w) X.A (setItem ov iv u) (fun _ s' => ∃ H', Inv X pins σ H' s' ∧ Q H') X.xe s
/-- a op= b, by values -/
abbrev TIp := V → V → Hp → VK → Prop
def PIp (X : Cx) (op : Operator) (t : TIp) : Prop :=
  ∀ (pins : List (Addr × Obj)) (s : Shared) (σ : St) (H : Hp) (x y : V) (v u : Value) (Q : VK), Inv X pins σ H s → RelV x v → RelV y u → t x y H Q →
    wpAny (model X.prog X.w) X.A (inplaceOp op v u) (EP X pins σ Q) X.xe s
section
variable {X : Cx} {pos : Pos}
def gName (i : Nat) : TG := fun v σ H Q => Q (σ.set i (some v)) H
theorem pg_name {i : Nat} {x : Str} (hN : X.N.Nodup) (hi : X.N[i]? = some x) (hx : Loc X.env.scope x) (hf : X.fn x = true ∨ X.env.scope.names.lookup x = some .local := by first | exact .inl rfl | exact .inr rfl | assumption) : PG X (.Name x pos) (gName i) := by
  intro pins s σ H v u Q I r h
  exact wpAny_assign_Name (store_ok I hN hi hx r (fun s' I' => ⟨_, H, I', h⟩) hf)
def gNil : TGs := fun vs σ H Q => vs = [] ∧ Q σ H
def gCons (t : TG) (u : TGs) : TGs := fun vs σ H Q => ∃ v r, vs = v :: r ∧ t v σ H fun σ' H' => u r σ' H' Q
theorem pgs_nil : PGs X [] gNil := by
  intro pins s σ H vs us Q I r h
  obtain ⟨e, h⟩ := h
  subst e
  cases r
  exact assignInOrder_nil ⟨σ, H, I, h⟩
theorem pgs_cons {e : Expr} {es : List Expr} {t : TG} {u : TGs} (h1 : PG X e t) (h2 : PGs X es u)
    (hs : (assignEach (e :: es) X.env).map (·.2) = assign e X.env :: (assignEach es X.env).map (·.2) := by rfl) : PGs X (e :: es) (gCons t u) := by
  intro pins s σ H vs us Q I r h
  obtain ⟨v, vr, e1, h⟩ := h
  subst e1
  cases r with
  | cons r rr =>
    rw [hs]
    refine assignInOrder_cons (thn (h1 pins s σ H _ _ _ I r h) fun _ s1 ⟨σ1, H1, I1, q1⟩ => ?_)
    exact h2 pins s1 σ1 H1 _ _ Q I1 rr q1
/-- (a, b, ..) = a tuple of that length -/
def gTup (K : PySem.W.Frag) (n : Nat) (t : TGs) : TG := fun v σ H Q => ∃ a xs, v = .ref a ∧ SqT K H a xs ∧ xs.length = n ∧ t xs σ H Q
theorem pg_tup {es : List Expr} {k : Nat} {t : TGs} {n : Nat} (hc : X.calm = true) (h : PGs X es t)
    (hn : (assignEach es X.env).length = n := by rfl) (hst : (assignEach es X.env).findIdx? (·.1) = none := by rfl) : PG X (.Tuple es k pos) (gTup X.K n t) := by
  intro pins s σ H v u Q I r hw
  obtain ⟨a, xs, e1, hq, hl, hw⟩ := hw
  subst e1
  cases r
  obtain ⟨its, rv, ht, hz⟩ := I.tuple hq
  refine assign_Tuple_tuple (I.ok.hd hc) ht (by simp [hn, ← hl, rv.length]) hst fun h' hx => ?_
  have I1 : Inv X pins σ H { s with heap := h' } := I.kept (t' := s.toks) fun b o e => hx b o (Nat.ne_of_lt (Heap.lt_size e)) e
  exact h pins _ σ H xs _ Q I1 (by simpa using rv) hw
/-- o[i] = .. -/
def gSub (to ti : TE) (t : TSet) : TG := fun v σ H Q => to σ H fun o H1 => ti σ H1 fun i H2 => t o i v H2 fun H3 => Q σ H3
/-- target = value -/
def tAsg (te : TE) (g : TG) : TS := fun D σ H => te σ H fun x H1 => g x σ H1 D.nx
/-- name = value -/
theorem ps_set {i : Nat} {x : Str} {e : Expr} {te : TE} {pos' : Pos} (hN : X.N.Nodup) (hi : X.N[i]? = some x) (hx : Loc X.env.scope x) (he : PE X e te) (hs : swapsWith e (some (.Name x pos')) pos.line X.env = pure false := by rfl) (hf : X.fn x = true ∨ X.env.scope.names.lookup x = some .local := by first | exact .inl rfl | exact .inr rfl | assumption) :
    PS X (.Assign [.Name x pos'] e pos) (tAsg te (gName i)) := by
  intro pins s σ H D I h
  refine wpAny_Assign_Name (thn (he pins s σ H _ I h) fun v s1 ⟨y, H1, I1, r1, q1⟩ => ?_) hs
  exact store_ok I1 hN hi hx r1 (fun s2 I2 => ⟨_, H1, I2, q1⟩) hf
/-- a, b = x, y with plain local names: stored from the right; the pair itself is not tracked (the opening rows as in PyProof/Rows/TupAssign.lean:23) -/
def tPar (i j : Nat) (ta : TA) : TS := fun D σ H => ta σ H fun vs H1 => ∃ v w, vs = [v, w] ∧ D.nx ((σ.set i (some v)).set j (some w)) H1
/-- name op= e -/
def tAug (i : Nat) (te : TE) (ti : TIp) : TS := fun D σ H => ∃ x, σ[i]? = some (some x) ∧ te σ H fun y H1 => ti x y H1 fun z H2 => D.nx (σ.set i (some z)) H2
/-- o[i] op= e -/
def tAugS (to ti te : TE) (tget : V → V → Hp → VK → Prop) (tip : TIp) (tset : TSet) : TS := fun D σ H => to σ H fun o H1 => ti σ H1 fun i H2 => tget o i H2 fun x H3 => te σ H3 fun y H4 => tip x y H4 fun z H5 => tset o i z H5 fun H6 => D.nx σ H6
/-- o[i], by values -/
def PGet (X : Cx) (t : V → V → Hp → VK → Prop) : Prop :=
  ∀ (pins : List (Addr × Obj)) (s : Shared) (σ : St) (H : Hp) (o i : V) (ov iv : Value) (Q : VK), Inv X pins σ H s → RelV o ov → RelV i iv → t o i H Q →
    wpAny (model X.prog X.w) X.A (getItem ov iv) (EP X pins σ Q) X.xe s
/-- ints -/
def ipI (f : Int → Int → Int) : TIp := fun x y H Q => ∃ i j, x = .int i ∧ y = .int j ∧ Q (.int (f i j)) H
end

/-! ### while -/
section
variable {X : Cx} {pos : Pos}
/-- the invariant W with its measure -/
def tWhile (c : TT) (tb : TS) : TS := fun D σ H => ∃ W : Nat → St → Hp → Prop, (∃ m, W m σ H) ∧ ∀ m σ H, W m σ H →
  c σ H fun b H1 => if b = true then ∃ N : St → Hp → Prop, (∀ σ' H', N σ' H' → ∃ m', m' < m ∧ W m' σ' H') ∧ tb { D with nx := N, ct := N, bk := D.nx } σ H1 else D.nx σ H1
end

/-! ### what a loop or a comprehension walks -/
/-- at turn i: it yields x (the heap may grow), or it stops -/
structure It where
  go : Nat → Hp → Prop
  yld : Nat → Hp → V → Hp → Prop
  stop : Nat → Hp → Prop
/-- the iterator's own objects may turn: they are not the frame's, not pinned, younger than the entry (or a comprehension's own) -/
def FpOk (X : Cx) (pins : List (Addr × Obj)) (H : Hp) (b : Addr) : Prop :=
  H b = none ∧ b ≠ X.env.locals ∧ b ∉ X.fs ∧ (b ∈ X.ex ∨ X.s₀.heap.objs.size ≤ b) ∧ (∀ x c, X.env.cells.lookup x = some c → c ≠ b) ∧ ∀ p ∈ X.pn ++ pins, p.1 ≠ b
theorem Inv.fpOk {X : Cx} {pins : List (Addr × Obj)} {σ : St} {H H' : Hp} {s : Shared} {b : Addr} (I : Inv X pins σ H s) (hb : s.heap.objs.size ≤ b) (hn : H' b = none) : FpOk X pins H' b := by
  refine ⟨hn, Nat.ne_of_gt (Nat.lt_of_lt_of_le I.lt hb), I.nofs hb, .inr (Nat.le_trans I.sz hb), fun x c e z => ?_, fun p hp z => ?_⟩
  · obtain ⟨v, q⟩ := I.cell x c e
    exact absurd (Nat.lt_of_lt_of_le q.lt (by rw [z]; exact hb)) (Nat.lt_irrefl _)
  · exact absurd (Nat.lt_of_lt_of_le (Heap.lt_size (I.pin p hp).1) (by rw [z]; exact hb)) (Nat.lt_irrefl _)
structure Turn (P : Program) (w : World) (K : PySem.W.Frag) (tg : Expr) (J : It) (fp : List Addr) (it : Addr) (tn : Nat → Heap → Prop) : Prop where
  mem : it ∈ fp
  obj : ∀ i h, tn i h → ∀ b ∈ fp, ∃ o, h.get? b = some o ∧ ∀ v, o.data ≠ .cell v
  keep : ∀ i h h', tn i h → (∀ b ∈ fp, ∀ o, h.get? b = some o → h'.get? b = some o) → tn i h'
  item : ∀ (X : Cx), X.prog = P → X.w = w → X.K = K → X.calm = true → ∀ (i : Nat) (pins : List (Addr × Obj)) (s : Shared) (σ : St) (H : Hp) (E : Value → Shared → Prop), Inv X pins σ H s → (∀ b ∈ fp, FpOk X pins H b) → tn i s.heap → J.go i H →
    wpAny (model P w) X.A (pyNext (.ref it)) (fun r s1 => ∃ u, r = some u ∧
      wpAny (model P w) X.A (letOwnedTupleGo tg (.ref it) u) (fun _ s2 => ∃ x H', Inv X pins σ H' s2 ∧ RelV x u ∧ J.yld i H x H' ∧ tn (i + 1) s2.heap ∧ ∀ b ∈ fp, H' b = none) E s1) E s
  done : ∀ (X : Cx), X.prog = P → X.w = w → X.K = K → X.calm = true → ∀ (i : Nat) (pins : List (Addr × Obj)) (s : Shared) (σ : St) (H : Hp) (E : Value → Shared → Prop), Inv X pins σ H s → (∀ b ∈ fp, FpOk X pins H b) → tn i s.heap → J.stop i H →
    wpAny (model P w) X.A (pyNext (.ref it)) (fun r s1 => r = none ∧ Inv X pins σ H s1) E s
  self : ∀ (A : Around) (i : Nat) (s : Shared) (Q : Value → Shared → Prop) (E : Value → Shared → Prop), tn i s.heap → Q (.ref it) s → wpAny (model P w) A (pyIter (.ref it)) Q E s
abbrev TI := St → Hp → (It → Hp → Prop) → Prop
/-- an iterator has come -/
def PIE (X : Cx) (pins : List (Addr × Obj)) (σ : St) (tg : Expr) (R : It → Hp → Prop) (itv : Value) (s2 : Shared) : Prop :=
  ∃ (it : Addr) (fp : List Addr) (tn : Nat → Heap → Prop) (J : It) (H' : Hp), itv = .ref it ∧ Inv X pins σ H' s2 ∧ Turn X.prog X.w X.K tg J fp it tn ∧ tn 0 s2.heap ∧ (∀ b ∈ fp, FpOk X pins H' b) ∧ R J H'
def PI (X : Cx) (tg iter : Expr) (wi : TI) : Prop :=
  ∀ (pins : List (Addr × Obj)) (s : Shared) (σ : St) (H : Hp) (R : It → Hp → Prop), Inv X pins σ H s → wi σ H R →
    wpAny (model X.prog X.w) X.A (eval iter X.env) (fun v s1 => wpAny (model X.prog X.w) X.A (pyIter v) (PIE X pins σ tg R) X.xe s1) X.xe s

/-- the step ahead of the store is nothing for an iterator that keeps no tuple -/
theorem go_of {M : Model} {A : Around} {E : Value → Shared → Prop} {s : Shared} {tg : Expr} {it : Addr} {u : Value} {o : Obj} {n : String} {vs : Array Value} {Q : Unit → Shared → Prop} (ho : s.heap.get? it = some o) (hc : o.cls = .type n) (hd : o.data = .fields vs)
    (hn : ["enumerate", "zip", "dict_itemiterator", "dict_reverseitemiterator", "odict_iterator", "itertools.zip_longest", "itertools.pairwise"].contains n = false) (hQ : Q () s) : wpAny M A (letOwnedTupleGo tg (.ref it) u) Q E s := by
  unfold letOwnedTupleGo
  cases tg <;> first
    | exact wpAny_pure hQ
    | (cases u <;> first
        | exact wpAny_pure hQ
        | (refine wpAny_bind (wpAny_load ho ?_)
           rw [hc, hd]
           show wpAny M A (if (["enumerate", "zip", "dict_itemiterator", "dict_reverseitemiterator", "odict_iterator", "itertools.zip_longest", "itertools.pairwise"].contains n && vs[0]? == some (rawInt _)) = true then _ else _) Q E s
           rw [if_neg (by intro h; rw [hn, Bool.false_and] at h; cases h)]
           exact wpAny_pure hQ))

/-- the list at a, as it stands at each turn (a loop may append to it) -/
def Itl (K : PySem.W.Frag) (a : Addr) : It :=
  ⟨fun i H => ∃ xs x, SqL K H a xs ∧ xs[i]? = some x, fun i H x H' => H' = H ∧ ∀ xs, SqL K H a xs → xs[i]? = some x, fun i H => ∃ xs, SqL K H a xs ∧ xs.length ≤ i⟩
def Itt (K : PySem.W.Frag) (a : Addr) : It :=
  ⟨fun i H => ∃ xs x, SqT K H a xs ∧ xs[i]? = some x, fun i H x H' => H' = H ∧ ∀ xs, SqT K H a xs → xs[i]? = some x, fun i H => ∃ xs, SqT K H a xs ∧ xs.length ≤ i⟩
/-- lo, lo + 1, .. (n of them) -/
def Itr (lo : Int) (n : Nat) : It := ⟨fun i _ => i < n, fun i H x H' => H' = H ∧ x = .int (lo + i), fun i _ => n ≤ i⟩
theorem turn_list {P : Program} {w : World} {K : PySem.W.Frag} {tg : Expr} (a it : Addr) : Turn P w K tg (Itl K a) [it] it (fun i h => h.IsListIter it a i) where
  mem := by simp
  obj := fun i h st b hb => by
    have e : b = it := by simpa using hb
    subst e
    obtain ⟨o, e, c, d⟩ := st
    exact ⟨o, e, fun v z => by rw [d] at z; cases z⟩
  keep := fun i h h' st k => st.at fun o e => k it (by simp) o e
  item := by
    intro X hP hw hK hc i pins s σ H E I hf st hg
    subst hP hw hK
    obtain ⟨xs, x, hq, hx⟩ := hg
    obtain ⟨its, rv, p, hz⟩ := I.list hq
    obtain ⟨u, hu, ru⟩ := rv.get hx
    obtain ⟨f0, f1, f2, f3, f4, f5⟩ := hf it (by simp)
    refine wpAny_pyNext_list_item st p.isList (x := u) (by simpa using hu) fun h' st' sb => ?_
    have I1 : Inv X pins σ H { s with heap := h' } := I.turned (t' := s.toks) (fun b o hb e => (sb.2 b hb).trans e) f0 f1 f3 f4 f5
    obtain ⟨o, e, c, d⟩ := id st'
    exact ⟨u, rfl, go_of (s := { s with heap := h' }) e c d (by decide) ⟨x, H, I1, ru, ⟨rfl, fun ys hy => by rw [I.list_inj hy hq]; exact hx⟩, st', fun b hb => (hf b hb).1⟩⟩
  done := by
    intro X hP hw hK hc i pins s σ H E I hf st hg
    subst hP hw hK
    obtain ⟨xs, hq, hx⟩ := hg
    obtain ⟨its, rv, p, hz⟩ := I.list hq
    obtain ⟨f0, f1, f2, f3, f4, f5⟩ := hf it (by simp)
    have hl := rv.length
    exact wpAny_pyNext_list_end (I.ok.hd hc) st p.isList (by simp; omega) fun h' eb => ⟨rfl, I.turned (t' := s.toks) (fun b o hb e => eb b o hb e) f0 f1 f3 f4 f5⟩
  self := fun _ _ _ _ _ st h => wpAny_pyIter_listiter st h
theorem turn_range {P : Program} {w : World} {K : PySem.W.Frag} {tg : Expr} (it : Addr) (lo : Int) (n : Nat) : Turn P w K tg (Itr lo n) [it] it (fun i h => IsRangeIter h it (lo + (i : Nat) * 1) ((n : Int) - (i : Nat)) 1) where
  mem := by simp
  obj := fun i h st b hb => by
    have e : b = it := by simpa using hb
    subst e
    exact ⟨_, st, fun v z => by
      have z' : Data.fields _ = Data.cell v := z
      cases z'⟩
  keep := fun i h h' st k => k it (by simp) _ st
  item := by
    intro X hP hw hK hc i pins s σ H E I hf st hg
    subst hP hw hK
    obtain ⟨f0, f1, f2, f3, f4, f5⟩ := hf it (by simp)
    have W := Walks.range (prog := X.prog) (w := X.w) (I.ok.hd hc) it lo 1 n
    refine W.item i s _ _ hg st fun v h' tk hv st' kk => ?_
    obtain ⟨t, rfl⟩ := hv
    have I1 : Inv X pins σ H { s with heap := h', toks := tk } := I.turned (fun b o hb e => kk b o (by simpa using hb) e) f0 f1 f3 f4 f5
    refine ⟨_, rfl, go_of (s := { s with heap := h', toks := tk }) (n := "range_iterator") st' rfl rfl (by decide) ⟨.int (lo + i), H, I1, ⟨t, ?_⟩, ⟨rfl, rfl⟩, st', fun b hb => (hf b hb).1⟩⟩
    rw [Int.mul_one]
  done := by
    intro X hP hw hK hc i pins s σ H E I hf st hg
    subst hP hw hK
    obtain ⟨f0, f1, f2, f3, f4, f5⟩ := hf it (by simp)
    exact wpAny_pyNext_range_end (I.ok.hd hc) st (by have : n ≤ i := hg; omega) fun h' eb => ⟨rfl, I.turned (t' := s.toks) (fun b o hb e => eb b o hb e) f0 f1 f3 f4 f5⟩
  self := fun _ _ _ _ _ st h => wpAny_pyIter_rangeiter st h
end L2

namespace L2
open PySem PySem.Spec PyProof.Rows
section
variable {X : Cx} {tg : Expr}
def iList (K : PySem.W.Frag) (tl : TE) : TI := fun σ H R => tl σ H fun x H1 => ∃ a, x = .ref a ∧ (∃ xs, SqL K H1 a xs) ∧ R (Itl K a) H1
def iTup (K : PySem.W.Frag) (tl : TE) : TI := fun σ H R => tl σ H fun x H1 => ∃ a, x = .ref a ∧ (∃ xs, SqT K H1 a xs) ∧ R (Itt K a) H1
theorem pi_list {l : Expr} {tl : TE} (hl : PE X l tl) : PI X tg l (iList X.K tl) := by
  intro pins s σ H R I h
  refine thn (hl pins s σ H _ I h) fun v s1 ⟨x, H1, I1, r1, q1⟩ => ?_
  obtain ⟨a, e, ⟨xs, hq⟩, q⟩ := q1
  subst e
  cases r1
  obtain ⟨its, rv, p, hz⟩ := I1.list hq
  refine wpAny_pyIter_list p.isList ?_
  refine ⟨s1.heap.objs.size, [s1.heap.objs.size], _, _, H1, rfl, I1.kept (t' := s1.toks) fun b o e => Heap.get?_push_of_some _ e, turn_list a _, ⟨_, Heap.get?_push_size _ rfl, rfl, rfl⟩, fun b hb => ?_, q⟩
  have e : b = s1.heap.objs.size := by simpa using hb
  subst e
  exact I1.fpOk (Nat.le_refl _) (I1.hok.fresh (Nat.le_refl _))
/-- a range object just made, walked -/
theorem range_it {pins : List (Addr × Obj)} {σ : St} {H : Hp} {s : Shared} {R : It → Hp → Prop} {E : Value → Shared → Prop} {lo hi : Int} {t u v : Tok} {tk : Nat} (I : Inv X pins σ H s) (h1 : -(2 ^ 62) ≤ lo) (h2 : lo < 2 ^ 62) (h3 : -(2 ^ 62) ≤ hi) (h4 : hi < 2 ^ 62)
    (q : R (Itr lo (hi - lo).toNat) H) : wpAny (model X.prog X.w) X.A (pyIter (.ref s.heap.objs.size)) (PIE X pins σ tg R) E { s with heap := s.heap.push { cls := .type "range", data := .fields #[.int lo t, .int hi u, .int 1 v] }, toks := tk } := by
  refine wpAny_pyIter_range (IsRange.new ..) (small_one h1 h2 h3 h4) ?_
  have I1 : Inv X pins σ H { s with heap := s.heap.push { cls := .type "range", data := .fields #[.int lo t, .int hi u, .int 1 v] }, toks := tk } := I.kept fun b o e => Heap.get?_push_of_some _ e
  refine ⟨(s.heap.push { cls := .type "range", data := .fields #[.int lo t, .int hi u, .int 1 v] }).objs.size, [(s.heap.push { cls := .type "range", data := .fields #[.int lo t, .int hi u, .int 1 v] }).objs.size], _, _, H, rfl,
    I1.kept (t' := tk) fun b o e => Heap.get?_push_of_some _ e, turn_range _ lo (hi - lo).toNat, ?_, fun b hb => ?_, q⟩
  · have e1 : lo + ((0 : Nat) : Int) * 1 = lo := by simp
    have e2 : (((hi - lo).toNat : Nat) : Int) - ((0 : Nat) : Int) = Builtin.Range.rangeSize lo hi 1 := by rw [rangeSize_one]; split <;> omega
    show IsRangeIter _ _ (lo + ((0 : Nat) : Int) * 1) ((((hi - lo).toNat : Nat) : Int) - ((0 : Nat) : Int)) 1
    rw [e1, e2]
    exact Heap.get?_push_size _ rfl
  · have e : b = (s.heap.push { cls := .type "range", data := .fields #[.int lo t, .int hi u, .int 1 v] }).objs.size := by simpa using hb
    subst e
    exact I1.fpOk (Nat.le_refl _) (I1.hok.fresh (Nat.le_refl _))
def iRng1 (ta : TA) : TI := fun σ H R => ta σ H fun vs H1 => ∃ j : Int, vs = [.int j] ∧ -(2 ^ 62) ≤ j ∧ j < 2 ^ 62 ∧ R (Itr 0 j.toNat) H1
def iRng2 (ta : TA) : TI := fun σ H R => ta σ H fun vs H1 => ∃ i j : Int, vs = [.int i, .int j] ∧ (-(2 ^ 62) ≤ i ∧ i < 2 ^ 62 ∧ -(2 ^ 62) ≤ j ∧ j < 2 ^ 62) ∧ R (Itr i (j - i).toNat) H1
theorem pi_range1 {a : Expr} {ta : TA} {p pos : Pos} (hg : Gl X "range") (hm : X.mg "range" = none) (ha : PA X [a] ta) (hs : starEach [a] X.env = [(false, eval a X.env)] := by rfl) : PI X tg (.Call (.Name "range" p) [a] [] pos) (iRng1 ta) := by
  intro pins s σ H R I h
  refine Call_ (ld_blt I hg hm boot_range (PyProof.Rows.callWith_type1 (thn (ha pos pins s σ H _ I h) fun us s1 ⟨vs, H1, I1, r1, q1⟩ => ?_) hs rfl))
  obtain ⟨j, e, q1, q2, q⟩ := q1
  subst e
  cases r1 with
  | cons r rr =>
    cases rr
    obtain ⟨t, rfl⟩ := r
    exact call_range_1 (range_it I1 (by omega) (by omega) q1 q2 (by simpa using q))
theorem pi_range2 {a b : Expr} {ta : TA} {p pos : Pos} (hg : Gl X "range") (hm : X.mg "range" = none) (ha : PA X [a, b] ta) (hs : starEach [a, b] X.env = [(false, eval a X.env), (false, eval b X.env)] := by rfl) (hs2 : starEach [b] X.env = [(false, eval b X.env)] := by rfl) :
    PI X tg (.Call (.Name "range" p) [a, b] [] pos) (iRng2 ta) := by
  intro pins s σ H R I h
  refine Call_ (ld_blt I hg hm boot_range (PyProof.Rows.callWith_type1 (thn (ha pos pins s σ H _ I h) fun us s1 ⟨vs, H1, I1, r1, q1⟩ => ?_) (by rw [hs, hs2]) (by rw [hs2]; rfl)))
  obtain ⟨i, j, e, ⟨q1, q2, q3, q4⟩, q⟩ := q1
  subst e
  cases r1 with
  | cons r rr =>
    cases rr with
    | cons r' rr =>
      cases rr
      obtain ⟨t, rfl⟩ := r
      obtain ⟨t', rfl⟩ := r'
      exact call_range_2 (range_it I1 q1 q2 q3 q4 q)

/-! ### for -/
/-- W: the invariant by the turn and a measure; N: what the body is to reach -/
def tFor (wi : TI) (g : TG) (tb : TS) : TS := fun D σ H => wi σ H fun J H1 => ∃ W : Nat → Nat → St → Hp → Prop, (∃ m, W 0 m σ H1) ∧ ∀ i m σ H, W i m σ H →
  (J.stop i H ∧ D.nx σ H) ∨ (J.go i H ∧ ∃ N : St → Hp → Prop, (∀ σ' H', N σ' H' → ∃ m', m' < m ∧ W (i + 1) m' σ' H') ∧ ∀ x H', J.yld i H x H' → g x σ H' fun σ2 H2 => tb { D with nx := N, ct := N, bk := D.nx } σ2 H2)
/-- the records at fp as they stand -/
def pinsAt (fp : List Addr) (h : Heap) : List (Addr × Obj) := fp.filterMap fun b => (h.get? b).map fun o => (b, o)
theorem mem_pinsAt {fp : List Addr} {h : Heap} {b : Addr} {o : Obj} (hb : b ∈ fp) (e : h.get? b = some o) : (b, o) ∈ pinsAt fp h := List.mem_filterMap.mpr ⟨b, hb, by rw [e]; rfl⟩
theorem of_pinsAt {fp : List Addr} {h : Heap} {p : Addr × Obj} (hp : p ∈ pinsAt fp h) : p.1 ∈ fp ∧ h.get? p.1 = some p.2 := by
  obtain ⟨b, hb, e⟩ := List.mem_filterMap.mp hp
  cases q : h.get? b with
  | none => rw [q] at e; cases e
  | some o =>
    rw [q] at e
    have e' : (b, o) = p := Option.some.inj e
    subst e'
    exact ⟨hb, q⟩
theorem Inv.pinned {pins : List (Addr × Obj)} {σ : St} {H : Hp} {s : Shared} {fp : List Addr} (I : Inv X pins σ H s) (hf : ∀ b ∈ fp, FpOk X pins H b) (ho : ∀ b ∈ fp, ∃ o, s.heap.get? b = some o ∧ ∀ v, o.data ≠ .cell v) : Inv X (pins ++ pinsAt fp s.heap) σ H s :=
  I.pins_of fun p hp => (List.mem_append.mp hp).elim (fun z => I.pin p (List.mem_append_right _ z)) fun z => by
    obtain ⟨hb, e⟩ := of_pinsAt z
    obtain ⟨f0, f1, f2, _⟩ := hf p.1 hb
    obtain ⟨o, e', d⟩ := ho p.1 hb
    rw [e] at e'; cases e'
    exact ⟨e, f0, f1, f2, d⟩
theorem Inv.unpinned {pins pl : List (Addr × Obj)} {σ : St} {H : Hp} {s : Shared} (I : Inv X (pins ++ pl) σ H s) : Inv X pins σ H s := I.pins_of fun p hp => I.pin p (List.mem_append_right _ (List.mem_append_left _ hp))
theorem ps_for {iter : Expr} {body : List Stmt} {wi : TI} {g : TG} {tb : TS} {pos : Pos} (hp : PassesOwn (model X.prog X.w) X.A X.env X.xe) (hc : X.calm = true) (hi : PI X tg iter wi) (hg : PG X tg g) (hb : PSs X body tb)
    (hs : ∀ x, foldedSetIterable iter X.env x = pure x := by intro _; rfl) : PS X (.For tg iter body [] pos) (tFor wi g tb) := by
  intro pins s σ H D I h
  refine wpAny_For (thn (hi pins s σ H _ I h) fun v s1 h1 => thn h1 fun itv s2 h2 => ?_) hs
  obtain ⟨it, fp, tn, J, H2, e, I2, T, st2, f2, W, ⟨m0, w0⟩, turn⟩ := h2
  subst e
  -- what stays true of the iterator's objects through the loop
  have stat : ∀ {H' : Hp}, (∀ b ∈ fp, H' b = none) → ∀ b ∈ fp, FpOk X pins H' b := fun hn b hb => ⟨hn b hb, (f2 b hb).2⟩
  refine codeAny_forLoop_any (fun n s' => ∃ i σ' H', Inv X pins σ' H' s' ∧ tn i s'.heap ∧ (∀ b ∈ fp, H' b = none) ∧ W i n σ' H') ?_ m0 ⟨0, σ, H2, I2, st2, fun b hb => (f2 b hb).1, w0⟩
  rintro n s3 ⟨i, σ3, H3, I3, st3, fr3, w3⟩
  rcases turn i n σ3 H3 w3 with ⟨stop, qn⟩ | ⟨go, N, hN, step⟩
  · refine wpAny_passesOwn hp (thn (T.done X rfl rfl rfl hc i pins s3 σ3 H3 X.xe I3 (stat fr3) st3 stop) fun r s4 ⟨hr, I4⟩ => ?_)
    subst hr
    exact wpAny_execs_nil ⟨σ3, H3, I4, qn⟩
  · refine wpAny_passesOwn hp (thn (T.item X rfl rfl rfl hc i pins s3 σ3 H3 X.xe I3 (stat fr3) st3 go) fun r s4 ⟨u, hr, h4⟩ => ?_)
    subst hr
    refine wpAny_passesOwn hp (thn h4 fun _ s5 ⟨x, H5, I5, r5, y5, st5, fr5⟩ => ?_)
    have I5' := I5.pinned (stat fr5) (T.obj _ _ st5)
    refine wpAny_passesOwn hp (thn (hg _ s5 σ3 H5 x u _ I5' r5 (step x H5 y5)) fun _ s6 ⟨σ6, H6, I6, q6⟩ => ?_)
    refine wpAny_passesOwn hp (thn (hb _ s6 σ6 H6 _ I6 q6) fun f s7 q7 => ?_)
    have again : ∀ {σ7 : St} {H7 : Hp}, Inv X (pins ++ pinsAt fp s5.heap) σ7 H7 s7 → N σ7 H7 → ∃ m, m < n ∧ ∃ i σ' H', Inv X pins σ' H' s7 ∧ tn i s7.heap ∧ (∀ b ∈ fp, H' b = none) ∧ W i m σ' H' := fun {σ7 H7} I7 n7 => by
      obtain ⟨m', hm, w7⟩ := hN σ7 H7 n7
      refine ⟨m', hm, i + 1, σ7, H7, I7.unpinned, T.keep _ _ _ st5 fun b hb o e => (I7.pin (b, o) (List.mem_append_right _ (List.mem_append_right _ (mem_pinsAt hb e)))).1, fun b hb => ?_, w7⟩
      obtain ⟨o, e, d⟩ := T.obj _ _ st5 b hb
      exact (I7.pin (b, o) (List.mem_append_right _ (List.mem_append_right _ (mem_pinsAt hb e)))).2.1
    cases f with
    | next => obtain ⟨σ7, H7, I7, n7⟩ := q7; exact again I7 n7
    | cont => obtain ⟨σ7, H7, I7, n7⟩ := q7; exact again I7 n7
    | brk => obtain ⟨σ7, H7, I7, q7⟩ := q7; exact ⟨σ7, H7, I7.unpinned, q7⟩
    | ret v => obtain ⟨x7, σ7, H7, I7, r7, q7⟩ := q7; exact ⟨x7, σ7, H7, I7.unpinned, r7, q7⟩
end

/-! ### the forms one uses -/
/-- over a list that the body leaves as it is -/
theorem for_list {K : PySem.W.Frag} {a : Addr} {xs : List V} {g : TG} {tb : TS} {D : Ends} {σ : St} {H : Hp} (Pv : Nat → St → Hp → Prop) (h0 : Pv 0 σ H) (hl : ∀ i σ H, i ≤ xs.length → Pv i σ H → SqL K H a xs)
    (hs : ∀ i x σ H, xs[i]? = some x → Pv i σ H → g x σ H fun σ2 H2 => tb { D with nx := Pv (i + 1), ct := Pv (i + 1), bk := D.nx } σ2 H2) (hd : ∀ σ H, Pv xs.length σ H → D.nx σ H) :
    ∃ W : Nat → Nat → St → Hp → Prop, (∃ m, W 0 m σ H) ∧ ∀ i m σ H, W i m σ H →
      ((Itl K a).stop i H ∧ D.nx σ H) ∨ ((Itl K a).go i H ∧ ∃ N : St → Hp → Prop, (∀ σ' H', N σ' H' → ∃ m', m' < m ∧ W (i + 1) m' σ' H') ∧ ∀ x H', (Itl K a).yld i H x H' → g x σ H' fun σ2 H2 => tb { D with nx := N, ct := N, bk := D.nx } σ2 H2) := by
  refine ⟨fun i m σ H => m = xs.length - i ∧ i ≤ xs.length ∧ Pv i σ H, ⟨xs.length, by simp, Nat.zero_le _, h0⟩, ?_⟩
  rintro i m σ H ⟨rfl, hi, p⟩
  have q := hl i σ H hi p
  by_cases hlt : i < xs.length
  · refine .inr ⟨⟨xs, xs[i], q, by simp [hlt]⟩, Pv (i + 1), fun σ' H' p' => ⟨xs.length - (i + 1), by omega, rfl, hlt, p'⟩, fun x H' y => ?_⟩
    obtain ⟨e, y⟩ := y
    subst e
    exact hs i x σ _ (y xs q) p
  · have e : i = xs.length := by omega
    subst e
    exact .inl ⟨⟨xs, q, Nat.le_refl _⟩, hd σ H p⟩
theorem for_range {lo : Int} {n : Nat} {g : TG} {tb : TS} {D : Ends} {σ : St} {H : Hp} (Pv : Nat → St → Hp → Prop) (h0 : Pv 0 σ H)
    (hs : ∀ i σ H, i < n → Pv i σ H → g (.int (lo + i)) σ H fun σ2 H2 => tb { D with nx := Pv (i + 1), ct := Pv (i + 1), bk := D.nx } σ2 H2) (hd : ∀ σ H, Pv n σ H → D.nx σ H) :
    ∃ W : Nat → Nat → St → Hp → Prop, (∃ m, W 0 m σ H) ∧ ∀ i m σ H, W i m σ H →
      ((Itr lo n).stop i H ∧ D.nx σ H) ∨ ((Itr lo n).go i H ∧ ∃ N : St → Hp → Prop, (∀ σ' H', N σ' H' → ∃ m', m' < m ∧ W (i + 1) m' σ' H') ∧ ∀ x H', (Itr lo n).yld i H x H' → g x σ H' fun σ2 H2 => tb { D with nx := N, ct := N, bk := D.nx } σ2 H2) := by
  refine ⟨fun i m σ H => m = n - i ∧ i ≤ n ∧ Pv i σ H, ⟨n, by simp, Nat.zero_le _, h0⟩, ?_⟩
  rintro i m σ H ⟨rfl, hi, p⟩
  by_cases hlt : i < n
  · refine .inr ⟨hlt, Pv (i + 1), fun σ' H' p' => ⟨n - (i + 1), by omega, rfl, hlt, p'⟩, fun x H' y => ?_⟩
    obtain ⟨e, y⟩ := y
    subst e y
    exact hs i σ _ hlt p
  · have e : i = n := by omega
    subst e
    exact .inl ⟨Nat.le_refl _, hd σ H p⟩
end L2

namespace L2
open PySem PySem.Spec PyProof.Rows

abbrev R2 := V → V → Hp → VK → Prop
/-- a two-place operation on values: f is binaryOp op, inplaceOp op or compareOp op -/
def OpR (X : Cx) (f : Value → Value → Sem Value) (r : R2) : Prop :=
  ∀ (pins : List (Addr × Obj)) (s : Shared) (σ : St) (H : Hp) (x y : V) (v u : Value) (Q : VK), Inv X pins σ H s → RelV x v → RelV y u → r x y H Q →
    wpAny (model X.prog X.w) X.A (f v u) (EP X pins σ Q) X.xe s
/-- a one-place operation -/
def UnR (X : Cx) (f : Value → Sem Value) (r : V → Hp → VK → Prop) : Prop :=
  ∀ (pins : List (Addr × Obj)) (s : Shared) (σ : St) (H : Hp) (x : V) (v : Value) (Q : VK), Inv X pins σ H s → RelV x v → r x H Q →
    wpAny (model X.prog X.w) X.A (f v) (EP X pins σ Q) X.xe s
/-- a call of a value that is known (a builtin, a type) with values -/
def CallR (X : Cx) (f : Value) (r : List V → Hp → VK → Prop) : Prop :=
  ∀ (pins : List (Addr × Obj)) (s : Shared) (σ : St) (H : Hp) (xs : List V) (us : List Value) (Q : VK), Inv X pins σ H s → Vals xs us → r xs H Q →
    wpAny (model X.prog X.w) X.A (call f us) (EP X pins σ Q) X.xe s
/-- a value's truth -/
def TruR (X : Cx) (r : V → Hp → (Bool → Hp → Prop) → Prop) : Prop :=
  ∀ (pins : List (Addr × Obj)) (s : Shared) (σ : St) (H : Hp) (x : V) (v : Value) (Q : Bool → Hp → Prop), Inv X pins σ H s → RelV x v → r x H Q →
    wpAny (model X.prog X.w) X.A (truthy v) (TP X pins σ Q) X.xe s

def tOp (r : R2) (ta tb : TE) : TE := fun σ H Q => ta σ H fun x H1 => tb σ H1 fun y H2 => r x y H2 Q
def tUn (r : V → Hp → VK → Prop) (ta : TE) : TE := fun σ H Q => ta σ H fun x H1 => r x H1 Q
/-- ints in, under C, and a value out -/
def rI (C : Int → Int → Prop) (g : Int → Int → V) : R2 := fun x y H Q => ∃ i j, x = .int i ∧ y = .int j ∧ C i j ∧ Q (g i j) H
def rI0 (g : Int → Int → V) : R2 := fun x y H Q => ∃ i j, x = .int i ∧ y = .int j ∧ Q (g i j) H
def rU (g : Int → V) : V → Hp → VK → Prop := fun x H Q => ∃ i, x = .int i ∧ Q (g i) H

section
variable {X : Cx} {a b c : Expr} {ta tb tc : TE} {pos : Pos}

theorem binT (ha : PE X a ta) (hb : PE X b tb) {pins : List (Addr × Obj)} {s : Shared} {σ : St} {H : Hp} {R : V → V → Hp → Prop} (I : Inv X pins σ H s)
    (h : ta σ H fun x H1 => tb σ H1 fun y H2 => R x y H2) {Q : Value → Shared → Prop} {f : Value → Value → Sem Value}
    (hf : ∀ v u s2 x y H2, Inv X pins σ H2 s2 → RelV x v → RelV y u → R x y H2 → wpAny (model X.prog X.w) X.A (f v u) Q X.xe s2) :
    wpAny (model X.prog X.w) X.A (eval a X.env) (fun v s₁ => wpAny (model X.prog X.w) X.A (eval b X.env) (fun u s₂ => wpAny (model X.prog X.w) X.A (f v u) Q X.xe s₂) X.xe s₁) X.xe s := by
  refine thn (ha pins s σ H _ I h) fun v s1 ⟨x, H1, I1, r1, q1⟩ => ?_
  refine thn (hb pins s1 σ H1 _ I1 q1) fun u s2 ⟨y, H2, I2, r2, q2⟩ => ?_
  exact hf v u s2 x y H2 I2 r1 r2 q2

theorem pe_op {op : Operator} {r : R2} (ho : OpR X (binaryOp op) r) (ha : PE X a ta) (hb : PE X b tb) : PE X (.BinOp a op b pos) (tOp r ta tb) := by
  intro pins s σ H Q I h
  exact wpAny_BinOp (binT ha hb I h fun v u s2 x y H2 I2 rx ry q => ho pins s2 σ H2 x y v u Q I2 rx ry q)
/-! ### ints -/
theorem opI {f : Value → Value → Sem Value} {C : Int → Int → Prop} {g : Int → Int → Int}
    (rule : ∀ (i j : Int) (t u : Tok) (s : Shared) (Q : Value → Shared → Prop) (E : Value → Shared → Prop), C i j → Q (.int (g i j) s.toks) { s with toks := s.toks + 1 } → wpAny (model X.prog X.w) X.A (f (.int i t) (.int j u)) Q E s) :
    OpR X f (rI C fun i j => .int (g i j)) := by
  intro pins s σ H x y v u Q I rx ry h
  obtain ⟨i, j, rfl, rfl, hc, q⟩ := h
  obtain ⟨t, rfl⟩ := rx
  obtain ⟨t', rfl⟩ := ry
  exact rule i j t t' s _ _ hc ⟨.int (g i j), H, I.tok _, ⟨_, rfl⟩, q⟩
theorem opI0 {f : Value → Value → Sem Value} {g : Int → Int → Int}
    (rule : ∀ (i j : Int) (t u : Tok) (s : Shared) (Q : Value → Shared → Prop) (E : Value → Shared → Prop), Q (.int (g i j) s.toks) { s with toks := s.toks + 1 } → wpAny (model X.prog X.w) X.A (f (.int i t) (.int j u)) Q E s) :
    OpR X f (rI0 fun i j => .int (g i j)) := by
  intro pins s σ H x y v u Q I rx ry h
  obtain ⟨i, j, rfl, rfl, q⟩ := h
  obtain ⟨t, rfl⟩ := rx
  obtain ⟨t', rfl⟩ := ry
  exact rule i j t t' s _ _ ⟨.int (g i j), H, I.tok _, ⟨_, rfl⟩, q⟩
theorem opB0 {f : Value → Value → Sem Value} {g : Int → Int → Bool}
    (rule : ∀ (i j : Int) (t u : Tok) (s : Shared) (Q : Value → Shared → Prop) (E : Value → Shared → Prop), Q (.bool (g i j)) s → wpAny (model X.prog X.w) X.A (f (.int i t) (.int j u)) Q E s) :
    OpR X f (rI0 fun i j => .bl (g i j)) := by
  intro pins s σ H x y v u Q I rx ry h
  obtain ⟨i, j, rfl, rfl, q⟩ := h
  obtain ⟨t, rfl⟩ := rx
  obtain ⟨t', rfl⟩ := ry
  exact rule i j t t' s _ _ ⟨.bl (g i j), H, I, rfl, q⟩

def CDiv (i j : Int) : Prop := 0 < j ∧ j < 1073741824
def CDivN (i j : Int) : Prop := j ≠ 0 ∧ j.natAbs < 1073741824
def CPow (i j : Int) : Prop := 0 ≤ j ∧ j ≤ 1000000 ∧ i.natAbs < 2 ^ 64
def CMul (i j : Int) : Prop := (-(2 ^ 64) < i ∧ i < 2 ^ 64) ∨ (-(2 ^ 64) < j ∧ j < 2 ^ 64)
theorem CMul.ok {i j : Int} (h : CMul i j) : IntMulOk i j := by
  rcases h with ⟨h1, h2⟩ | ⟨h1, h2⟩
  · exact .of_left (intBits_le_64 h1 h2)
  · exact .of_right (intBits_le_64 h1 h2)
theorem op_add : OpR X (binaryOp .Add) (rI0 fun i j => .int (i + j)) := opI0 fun _ _ _ _ _ _ _ q => add_int q
theorem op_sub : OpR X (binaryOp .Sub) (rI0 fun i j => .int (i - j)) := opI0 fun _ _ _ _ _ _ _ q => sub_int q
theorem op_mul : OpR X (binaryOp .Mult) (rI CMul fun i j => .int (i * j)) := opI fun _ _ _ _ _ _ _ hc q => mul_int q hc.ok
/-- % by a positive divisor of any size -/
theorem op_mod : OpR X (binaryOp .Mod) (rI (fun _ j => 0 < j) fun i j => .int (i % j)) := opI fun i j _ _ _ _ _ hc q => by
  have h1 : (0 : Int) < j := hc
  exact mod_int' (by omega) (by rw [Int.fmod_eq_emod_of_nonneg i (by omega)]; exact q)
/-! ### bools among ints: n += (a < b) -/
end

/-! ### comparisons -/
/-- the scalars that == tells apart as data does -/
def scal : V → V → Bool
  | .non, .non => true | .non, .int _ => true | .int _, .non => true | .non, .bl _ => true | .bl _, .non => true | .non, .str _ => true | .str _, .non => true
  | .int _, .int _ => true | .bl _, .bl _ => true | .str _, .str _ => true | .byt _, .byt _ => true
  | .int _, .str _ => true | .str _, .int _ => true | .bl _, .str _ => true | .str _, .bl _ => true
  | _, _ => false
def rEq : R2 := fun x y H Q => scal x y = true ∧ Q (.bl (decide (x = y))) H
def rNe : R2 := fun x y H Q => scal x y = true ∧ Q (.bl (!decide (x = y))) H

theorem dec_int {i j : Int} : decide (V.int i = V.int j) = (i == j) := by
  rw [Bool.eq_iff_iff]
  simp
theorem dec_bl {i j : Bool} : decide (V.bl i = V.bl j) = (i == j) := by
  rw [Bool.eq_iff_iff]
  simp
theorem dec_str {i j : Str} : decide (V.str i = V.str j) = (i == j) := by
  rw [Bool.eq_iff_iff]
  simp
theorem dec_byt {i j : Array UInt8} : decide (V.byt i = V.byt j) = (i.toList == j.toList) := by
  rw [Bool.eq_iff_iff]
  cases i
  cases j
  simp

section
variable {X : Cx} {a b c : Expr} {ta tb tc : TE} {pos : Pos}
theorem fin_bl {pins : List (Addr × Obj)} {σ : St} {H : Hp} {s : Shared} {Q : VK} {k k' : Bool} (I : Inv X pins σ H s) (q : Q (.bl k) H) (e : k = k') : EP X pins σ Q (.bool k') s := by
  subst e
  exact ⟨.bl k, H, I, rfl, q⟩
theorem op_eq : OpR X (compareOp .Eq) rEq := by
  intro pins s σ H x y v u Q I rx ry h
  obtain ⟨hs, q⟩ := h
  cases x with
  | non =>
    cases rx
    cases y with
    | non => cases ry; exact PySem.EqNone.eq_none_none (fin_bl I q (by simp))
    | bl j => cases ry; exact PySem.EqNone.eq_none_bool (fin_bl I q (by simp))
    | int j => obtain ⟨t', rfl⟩ := ry; exact PySem.EqNone.eq_none_int (fin_bl I q (by simp))
    | str j => obtain ⟨t', rfl⟩ := ry; exact PySem.EqNone.eq_none_str (fin_bl I q (by simp))
    | _ => exact absurd (show false = true from hs) Bool.false_ne_true
  | bl i =>
    cases rx
    cases y with
    | non => cases ry; exact PySem.EqNone.eq_bool_none (fin_bl I q (by simp))
    | bl j => cases ry; exact eq_bool (fin_bl I q dec_bl)
    | str j => obtain ⟨t', rfl⟩ := ry; exact PySem.EqMixed.eq_bool_str (fin_bl I q (by simp))
    | _ => exact absurd (show false = true from hs) Bool.false_ne_true
  | int i =>
    obtain ⟨t, rfl⟩ := rx
    cases y with
    | non => cases ry; exact PySem.EqNone.eq_int_none (fin_bl I q (by simp))
    | int j => obtain ⟨t', rfl⟩ := ry; exact eq_int (fin_bl I q dec_int)
    | str j => obtain ⟨t', rfl⟩ := ry; exact PySem.EqMixed.eq_int_str (fin_bl I q (by simp))
    | _ => exact absurd (show false = true from hs) Bool.false_ne_true
  | str i =>
    obtain ⟨t, rfl⟩ := rx
    cases y with
    | non => cases ry; exact PySem.EqNone.eq_str_none (fin_bl I q (by simp))
    | bl j => cases ry; exact PySem.EqMixed.eq_str_bool (fin_bl I q (by simp))
    | int j => obtain ⟨t', rfl⟩ := ry; exact PySem.EqMixed.eq_str_int (fin_bl I q (by simp))
    | str j => obtain ⟨t', rfl⟩ := ry; exact eq_str (fin_bl I q dec_str)
    | _ => exact absurd (show false = true from hs) Bool.false_ne_true
  | byt i =>
    obtain ⟨t, rfl⟩ := rx
    cases y with
    | byt j => obtain ⟨t', rfl⟩ := ry; exact PySem.W.eq_bytes (fin_bl I q dec_byt)
    | _ => exact absurd (show false = true from hs) Bool.false_ne_true
  | _ => cases y <;> exact absurd (show false = true from hs) Bool.false_ne_true
theorem op_ne : OpR X (compareOp .NotEq) rNe := by
  intro pins s σ H x y v u Q I rx ry h
  obtain ⟨hs, q⟩ := h
  cases x with
  | non =>
    cases rx
    cases y with
    | non => cases ry; exact PySem.EqNone.ne_none_none (fin_bl I q (by simp))
    | bl j => cases ry; exact PySem.EqNone.ne_none_bool (fin_bl I q (by simp))
    | int j => obtain ⟨t', rfl⟩ := ry; exact PySem.EqNone.ne_none_int (fin_bl I q (by simp))
    | str j => obtain ⟨t', rfl⟩ := ry; exact PySem.EqNone.ne_none_str (fin_bl I q (by simp))
    | _ => exact absurd (show false = true from hs) Bool.false_ne_true
  | bl i =>
    cases rx
    cases y with
    | non => cases ry; exact PySem.EqNone.ne_bool_none (fin_bl I q (by simp))
    | bl j => cases ry; exact ne_bool (fin_bl I q (congrArg not dec_bl))
    | str j => obtain ⟨t', rfl⟩ := ry; exact PySem.EqMixed.ne_bool_str (fin_bl I q (by simp))
    | _ => exact absurd (show false = true from hs) Bool.false_ne_true
  | int i =>
    obtain ⟨t, rfl⟩ := rx
    cases y with
    | non => cases ry; exact PySem.EqNone.ne_int_none (fin_bl I q (by simp))
    | int j => obtain ⟨t', rfl⟩ := ry; exact ne_int (fin_bl I q (congrArg not dec_int))
    | str j => obtain ⟨t', rfl⟩ := ry; exact PySem.EqMixed.ne_int_str (fin_bl I q (by simp))
    | _ => exact absurd (show false = true from hs) Bool.false_ne_true
  | str i =>
    obtain ⟨t, rfl⟩ := rx
    cases y with
    | non => cases ry; exact PySem.EqNone.ne_str_none (fin_bl I q (by simp))
    | bl j => cases ry; exact PySem.EqMixed.ne_str_bool (fin_bl I q (by simp))
    | int j => obtain ⟨t', rfl⟩ := ry; exact PySem.EqMixed.ne_str_int (fin_bl I q (by simp))
    | str j => obtain ⟨t', rfl⟩ := ry; exact ne_str (fin_bl I q (congrArg not dec_str))
    | _ => exact absurd (show false = true from hs) Bool.false_ne_true
  | byt i =>
    obtain ⟨t, rfl⟩ := rx
    cases y with
    | byt j => obtain ⟨t', rfl⟩ := ry; exact PySem.W.ne_bytes (fin_bl I q (congrArg not dec_byt))
    | _ => exact absurd (show false = true from hs) Bool.false_ne_true
  | _ => cases y <;> exact absurd (show false = true from hs) Bool.false_ne_true

theorem op_lt : OpR X (compareOp .Lt) (rI0 fun i j => .bl (decide (i < j))) := opB0 fun _ _ _ _ _ _ _ q => lt_int q
theorem op_le : OpR X (compareOp .LtE) (rI0 fun i j => .bl (decide (i ≤ j))) := opB0 fun _ _ _ _ _ _ _ q => le_int q
theorem op_gt : OpR X (compareOp .Gt) (rI0 fun i j => .bl (decide (j < i))) := opB0 fun _ _ _ _ _ _ _ q => gt_int q
/-- is None, is not None: the right side a value none -/
theorem op_isN : OpR X (compareOp .Is) (fun x y H Q => y = .non ∧ Q (.bl (decide (x = .non))) H) := by
  intro pins s σ H x y v u Q I rx ry h
  obtain ⟨rfl, q⟩ := h
  cases ry
  refine is_none_gen (fin_bl I q ?_)
  cases x <;> first
    | (cases rx; rfl)
    | (obtain ⟨t, rfl⟩ := rx; rfl)
/-- is, is not of two objects that are tracked lists or instances -/
def isObj : HO → Bool
  | .lst _ => true
  | .ins _ _ _ => true
  | _ => false
/-- two rules for one operation: by cases -/
theorem OpR.or {f : Value → Value → Sem Value} {r r' : R2} (h : OpR X f r) (h' : OpR X f r') : OpR X f (fun x y H Q => r x y H Q ∨ r' x y H Q) := by
  intro pins s σ H x y v u Q I rx ry q
  rcases q with q | q
  · exact h pins s σ H x y v u Q I rx ry q
  · exact h' pins s σ H x y v u Q I rx ry q

theorem nomark (b : Expr) {op : CmpOp} (h : op ≠ .In := by decide) (h2 : op ≠ .NotIn := by decide) : behindInMarks op b = false := by
  have e1 : (op == CmpOp.In) = false := by cases op <;> first | rfl | exact absurd rfl h
  have e2 : (op == CmpOp.NotIn) = false := by cases op <;> first | rfl | exact absurd rfl h2
  cases b <;> simp [behindInMarks, e1, e2]
/-- a comparison as a value; hm: nomark b, or (for in, not in) by with_unfolding_all rfl -/
theorem pe_cmpR {op : CmpOp} {r : R2} (ho : OpR X (compareOp op) r) (ha : PE X a ta) (hb : PE X b tb) (hm : behindInMarks op b = false) : PE X (.Compare a [op] [b] pos) (tOp r ta tb) := by
  intro pins s σ H Q I h
  exact wpAny_Compare1 (binT ha hb I h fun v u s2 x y H2 I2 rx ry q => ho pins s2 σ H2 x y v u Q I2 rx ry q) hm
/-- a reading of a value as a test -/
def tTest (t : TE) : TT := fun σ H Q => t σ H fun x H' => ∃ k, x = .bl k ∧ Q k H'
theorem pt_cmpR {op : CmpOp} {r : R2} (ho : OpR X (compareOp op) r) (ha : PE X a ta) (hb : PE X b tb) (hm : behindInMarks op b = false) : PT X (.Compare a [op] [b] pos) (tTest (tOp r ta tb)) := by
  intro pins s σ H Q I h
  refine wpAny_isTrue_Compare1 (thn (ha pins s σ H _ I h) fun v s1 ⟨x, H1, I1, r1, q1⟩ => thn (hb pins s1 σ H1 _ I1 q1) fun u s2 ⟨y, H2, I2, r2, q2⟩ =>
    thn (ho pins s2 σ H2 x y v u _ I2 r1 r2 q2) fun c s3 ⟨z, H3, I3, r3, k, e, q3⟩ => ?_) hm
  subst e
  cases r3
  exact wpAny_truthy_bool ⟨H3, I3, q3⟩
/-- a op1 b op2 c -/
def tChain (r r' : R2) (ta tb tc : TE) : TE := fun σ H Q => ta σ H fun x H1 => tb σ H1 fun y H2 => r x y H2 fun z H3 => ∃ k, z = .bl k ∧
  (if k = true then tc σ H3 fun w' H4 => r' y w' H4 Q else Q (.bl false) H3)
theorem pt_chain {op op' : CmpOp} {r r' : R2} (ho : OpR X (compareOp op) r) (ho' : OpR X (compareOp op') r') (ha : PE X a ta) (hb : PE X b tb) (hc : PE X c tc)
    (hm : lastMarks [op, op'] [b, c] = false := by with_unfolding_all rfl) : PT X (.Compare a [op, op'] [b, c] pos) (tTest (tChain r r' ta tb tc)) := by
  intro pins s σ H Q I h
  refine isTrue_chain (thn (ha pins s σ H _ I h) fun v s1 ⟨x, H1, I1, r1, q1⟩ => test_link (thn (hb pins s1 σ H1 _ I1 q1) fun u s2 ⟨y, H2, I2, r2, q2⟩ =>
    thn (ho pins s2 σ H2 x y v u _ I2 r1 r2 q2) fun d s3 ⟨z, H3, I3, r3, k, e, q3⟩ => ?_)) hm
  subst e
  cases r3
  refine wpAny_truthy_bool ?_
  cases k with
  | false =>
    obtain ⟨k', e', q'⟩ := q3
    cases e'
    exact ite_ff ⟨H3, I3, q'⟩
  | true =>
    refine ite_tt (test_last (thn (hc pins s3 σ H3 _ I3 q3) fun w' s4 ⟨z', H4, I4, r4, q4⟩ => thn (ho' pins s4 σ H4 y z' u w' _ I4 r2 r4 q4) fun d' s5 ⟨z2, H5, I5, r5, k2, e2, q5⟩ => ?_))
    subst e2
    cases r5
    exact wpAny_truthy_bool ⟨H5, I5, q5⟩

/-! ### truth -/
/-- a value's truth by the abstract heap -/
def TruV (K : PySem.W.Frag) (x : V) (H : Hp) (k : Bool) : Prop :=
  match x with
  | .non => k = false
  | .bl b => k = b
  | .int i => k = (i != 0)
  | .str y => y.length ≤ sizeLine ∧ k = ((y.length : Int) != 0)
  | .byt y => y.size ≤ sizeLine ∧ k = ((y.size : Int) != 0)
  | .ref p => (∃ xs, SqL K H p xs ∧ k = !xs.isEmpty) ∨ (∃ xs, SqT K H p xs ∧ k = !xs.isEmpty) ∨ ∃ kvs, H p = some (.dK kvs) ∧ k = !kvs.isEmpty
  | _ => False
theorem line63 : (sizeLine : Nat) < 2 ^ 63 := by rw [sizeLine_eq]; decide
/-! ### strs and bytes -/
theorem op_add_str : OpR X (binaryOp .Add) (fun x y H Q => ∃ i j, x = .str i ∧ y = .str j ∧ i.length + j.length ≤ sizeLine ∧ Q (.str (i ++ j)) H) := by
  intro pins s σ H x y v u Q I rx ry h
  obtain ⟨i, j, rfl, rfl, hz, q⟩ := h
  obtain ⟨t, rfl⟩ := rx
  obtain ⟨t', rfl⟩ := ry
  exact add_str (fun t' tk => ⟨.str (i ++ j), H, I.tok _, ⟨_, rfl⟩, q⟩) hz
def PlainIxT (b : Expr) : Prop := ∀ o i, subscripted b false o i = operate [o, i] (getItem o i)
/-! ### scalar builtins, by CallR -/
theorem vals1 {x : V} {us : List Value} (r : Vals [x] us) : ∃ u, us = [u] ∧ RelV x u := by
  cases r with
  | cons r1 r2 => cases r2; exact ⟨_, rfl, r1⟩
theorem vals2 {x y : V} {us : List Value} (r : Vals [x, y] us) : ∃ u w', us = [u, w'] ∧ RelV x u ∧ RelV y w' := by
  cases r with
  | cons r1 r2 =>
    cases r2 with
    | cons r3 r4 => cases r4; exact ⟨_, _, rfl, r1, r3⟩
theorem call_max2 (hc : X.calm = true) : CallR X (.builtin "max") (fun xs H Q => ∃ i j, xs = [.int i, .int j] ∧ Q (.int (if j > i then j else i)) H) := by
  intro pins s σ H xs us Q I r h
  obtain ⟨i, j, rfl, q⟩ := h
  obtain ⟨u, w', rfl, ⟨t, rfl⟩, ⟨t', rfl⟩⟩ := vals2 r
  refine max_two_ints (I.ok.hd hc) fun h' tk k => ⟨_, H, I.kept k, ?_, q⟩
  by_cases hj : j > i
  · rw [if_pos hj, if_pos hj]; exact ⟨_, rfl⟩
  · rw [if_neg hj, if_neg hj]; exact ⟨_, rfl⟩
theorem call_min2 (hc : X.calm = true) : CallR X (.builtin "min") (fun xs H Q => ∃ i j, xs = [.int i, .int j] ∧ Q (.int (if j < i then j else i)) H) := by
  intro pins s σ H xs us Q I r h
  obtain ⟨i, j, rfl, q⟩ := h
  obtain ⟨u, w', rfl, ⟨t, rfl⟩, ⟨t', rfl⟩⟩ := vals2 r
  refine min_two_ints (I.ok.hd hc) fun h' tk k => ⟨_, H, I.kept k, ?_, q⟩
  by_cases hj : j < i
  · rw [if_pos hj, if_pos hj]; exact ⟨_, rfl⟩
  · rw [if_neg hj, if_neg hj]; exact ⟨_, rfl⟩
theorem call_int1 : CallR X (.type "int") (fun xs H Q => (∃ i, xs = [.int i] ∧ Q (.int i) H) ∨ ∃ k, xs = [.bl k] ∧ Q (.int (if k then 1 else 0)) H) := by
  intro pins s σ H xs us Q I r h
  rcases h with ⟨i, rfl, q⟩ | ⟨k, rfl, q⟩
  · obtain ⟨u, rfl, t, rfl⟩ := vals1 r
    exact call_int_int ⟨.int i, H, I, ⟨_, rfl⟩, q⟩
  · obtain ⟨u, rfl, r1⟩ := vals1 r
    cases r1
    exact call_int_bool ⟨.int (if k then 1 else 0), H, I.tok _, ⟨_, rfl⟩, q⟩
/-- len of a str, a bytes, a list, a tuple -/
def LenV (K : PySem.W.Frag) (x : V) (H : Hp) (n : Nat) : Prop :=
  match x with
  | .str y => y.length ≤ sizeLine ∧ n = y.length
  | .byt y => y.size ≤ sizeLine ∧ n = y.size
  | .ref p => (∃ xs, SqL K H p xs ∧ n = xs.length) ∨ ∃ xs, SqT K H p xs ∧ n = xs.length
  | _ => False
end
end L2

namespace L2
open PySem PySem.Spec PyProof.Rows

/-! ### an instance, its attributes a map -/
structure ObjM (h : Heap) (x dx C : Addr) (mA : Str → Option Value) : Prop where
  obj : h.get? x = some (PySem.W.instObj C dx)
  ns : h.Ns1 dx mA
  ne : dx ≠ x

theorem lookIn_ns {h : Heap} {dx : Addr} {mA : Str → Option Value} (n : h.Ns1 dx mA) : ∃ od, h.get? dx = some od ∧ ∀ name, PySem.W.lookIn name od = some (mA name) := by
  obtain ⟨o, es, ep, ho, hd, hk, _, hm⟩ := n
  refine ⟨o, ho, fun name => ?_⟩
  have e := hm name
  unfold nsFind findBy at e
  rw [← Array.find?_toList] at e
  unfold PySem.W.lookIn
  rw [hd]
  dsimp only
  split
  · rename_i y q
    rw [q] at e
    exact congrArg some e
  · rename_i q
    rw [q] at e
    have a : es.toList.any (·.refKey) = false := by
      rw [List.any_eq_false]
      intro y hy
      obtain ⟨z, t, hkey⟩ := hk y (Array.mem_toList_iff.mp hy)
      simp [DictEntry.refKey, hkey]
    have a' : ¬ es.toList.any (·.refKey) = true := by rw [a]; exact Bool.false_ne_true
    rw [if_neg a']
    exact congrArg some e

theorem ObjM.look {h : Heap} {x dx C : Addr} {mA : Str → Option Value} (I : ObjM h x dx C mA) : ∃ od, PySem.W.InstAt h x (PySem.W.instObj C dx) C (some od) ∧ ∀ name, PySem.W.lookIn name od = some (mA name) :=
  let ⟨od, ho, hl⟩ := lookIn_ns I.ns
  ⟨od, ⟨I.obj, rfl, rfl, ho⟩, hl⟩

section
variable {prog : Program} {w : World} {A : Around} {E : Value → Shared → Prop} {s : Shared} {K : PySem.W.Frag} {x dx C f : Addr} {mA : Str → Option Value} {name : Str} {v : Value}

end

/-! ### the attributes as a list of pairs -/
def putF (f : Str) (v : V) : List (Str × V) → List (Str × V)
  | [] => [(f, v)]
  | (g, x) :: r => if g = f then (g, v) :: r else (g, x) :: putF f v r
theorem RelO.some_of {v : V} {o : Option Value} (r : RelO (some v) o) : ∃ u, o = some u ∧ RelV v u := by
  cases o with
  | none => exact (show False from r).elim
  | some u => exact ⟨u, rfl, r⟩
section
variable {P : Program} {w : World} {H H' : Hp} {h h' : Heap} {a C dx : Addr} {fs fs' : List (Str × V)}
theorem ins_get (hok : HOk P w H h) (e : H a = some (.ins C dx fs)) : ∃ mA, ObjM h a dx C mA ∧ (∀ f, RelO (fs.lookup f) (mA f)) ∧ PySem.Within mA (fs.map (·.1)) ∧ fs.length ≤ 1000 ∧ H dx = some (.own a) := by
  obtain ⟨d, z, ne, ob, mA, n, r, q⟩ := (show ObjOk P w H h a (.ins C dx fs) from hok a _ e)
  exact ⟨mA, ⟨ob, n, ne⟩, r, q, z, d⟩
end

/-! ### what of the text a class must have -/
structure Cls (K : PySem.W.Frag) (C : Addr) : Prop where
  pg : PySem.W.plainGet K C Str.empty = true
  hd : PySem.W.hasDictIn K C = true
  po : PySem.W.plainOver K C = true
  sa : PySem.W.findIn K (.ref C) "__setattr__" = some (some (.builtin "object.__setattr__"))
theorem Cls.get {K : PySem.W.Frag} {C : Addr} (c : Cls K C) (f : Str) : PySem.W.plainGet K C f = true := c.pg
/-- no class of it has the name -/
def NoAttr (K : PySem.W.Frag) (C : Addr) (f : Str) : Prop := PySem.W.findIn K (.ref C) f = some none
/-- a constant of the class -/
structure Con (K : PySem.W.Frag) (C : Addr) (f : Str) (v : V) (u : Value) : Prop where
  at_ : PySem.W.findIn K (.ref C) f = some (some u)
  rel : RelV v u
  get : PySem.W.specialIn K u "__get__" = some none
  cp : PySem.W.copiedNames.contains f = false
/-- a method: a plain def of the class or of one above it -/
structure Meth (K : PySem.W.Frag) (C : Addr) (m : Str) (f : Addr) : Prop where
  at_ : PySem.W.findIn K (.ref C) m = some (some (.ref f))
  fn : PySem.W.isFn K (.ref f) = true
  kp : PySem.W.keepIn K (.ref f) = true

section
variable {X : Cx} {pins : List (Addr × Obj)} {σ : St} {H : Hp} {s : Shared} {a C dx : Addr} {fs : List (Str × V)} {f : Str} {v : V} {A : Around} {E : Value → Shared → Prop}

/-- a new instance, tracked, without attributes -/
theorem Inv.made (I : Inv X pins σ H s) : Inv X pins σ (upd (upd H s.heap.objs.size (.own (s.heap.objs.size + 1))) (s.heap.objs.size + 1) (.ins C s.heap.objs.size []))
    { s with heap := (s.heap.push PySem.W.emptyDict).push (PySem.W.instObj C s.heap.objs.size) } := by
  have e1 : (s.heap.push PySem.W.emptyDict).get? s.heap.objs.size = some PySem.W.emptyDict := Heap.get?_push_size s.heap rfl
  have e2 : ((s.heap.push PySem.W.emptyDict).push (PySem.W.instObj C s.heap.objs.size)).get? (s.heap.objs.size + 1) = some (PySem.W.instObj C s.heap.objs.size) := by
    have := Heap.get?_push_size (s.heap.push PySem.W.emptyDict) (o := PySem.W.instObj C s.heap.objs.size) rfl
    rwa [Heap.size_push] at this
  have e3 : (s.heap.push PySem.W.emptyDict).Ns s.heap.objs.size (fun _ => none) := ⟨PySem.W.emptyDict, #[], _, e1, rfl, (fun e he => absurd he (by simp)), fun _ => rfl⟩
  have I1 := I.laid (a := s.heap.objs.size) (o := .own (s.heap.objs.size + 1)) (h' := s.heap.push PySem.W.emptyDict) (t' := s.toks) (fun b u q => Heap.get?_push_of_some _ q) (Nat.le_refl _) ⟨_, e1⟩
  refine I1.laid (a := s.heap.objs.size + 1) (o := .ins C s.heap.objs.size []) (t' := s.toks) (fun b u q => Heap.get?_push_of_some _ q) (Nat.le_of_eq (Heap.size_push _ _)) ?_
  have ne : s.heap.objs.size ≠ s.heap.objs.size + 1 := Nat.ne_of_lt (Nat.lt_succ_self _)
  refine ⟨by rw [upd_ne ne, upd_same], Nat.zero_le _, ne, e2, fun _ => none, (Heap.Ns1.of_empty e3).at fun o q => Heap.get?_push_of_some _ q, fun _ => True.intro, fun y hy => absurd rfl hy⟩

end

/-! ### readings and rules -/
/-- e.f, an attribute of the instance -/
def tFld (K : PySem.W.Frag) (ta : TE) (f : Str) : TE := fun σ H Q => ta σ H fun x H1 => ∃ a C dx fs v, x = .ref a ∧ H1 a = some (.ins C dx fs) ∧ Cls K C ∧ NoAttr K C f ∧ fs.lookup f = some v ∧ Q v H1
/-- e.f, a constant of the class -/
def tCon (K : PySem.W.Frag) (ta : TE) (f : Str) : TE := fun σ H Q => ta σ H fun x H1 => ∃ a C dx fs v u, x = .ref a ∧ H1 a = some (.ins C dx fs) ∧ Cls K C ∧ Con K C f v u ∧ fs.lookup f = none ∧ Q v H1
/-- e.f = value -/
def sFld (K : PySem.W.Frag) (ta tv : TE) (f : Str) : TS := fun D σ H => tv σ H fun y H1 => ta σ H1 fun x H2 => ∃ a C dx fs, x = .ref a ∧ H2 a = some (.ins C dx fs) ∧ Cls K C ∧ NoAttr K C f ∧ fs.length < 1000 ∧
  D.nx σ (upd H2 a (.ins C dx (putF f y fs)))
/-- an augmented operator on two values -/
def InOp (X : Cx) (op : Operator) (rd : V → V → Hp → VK → Prop) : Prop :=
  ∀ (pins : List (Addr × Obj)) (s : Shared) (σ : St) (H : Hp) (x y : V) (u v : Value) (Q : VK), Inv X pins σ H s → RelV x u → RelV y v → rd x y H Q → wpAny (model X.prog X.w) X.A (inplaceOp op u v) (EP X pins σ Q) X.xe s
/-- e.f op= value -/
def sFldAug (K : PySem.W.Frag) (ta tv : TE) (rd : V → V → Hp → VK → Prop) (f : Str) : TS := fun D σ H => ta σ H fun x H1 => ∃ a C dx fs v, x = .ref a ∧ H1 a = some (.ins C dx fs) ∧ Cls K C ∧ NoAttr K C f ∧ fs.lookup f = some v ∧
  tv σ H1 fun y H2 => rd v y H2 fun z H3 => ∃ dx' fs', H3 a = some (.ins C dx' fs') ∧ fs'.length < 1000 ∧ D.nx σ (upd H3 a (.ins C dx' (putF f z fs')))

section
variable {X : Cx} {o e value : Expr} {f : Str} {pos pos' tpos : Pos} {ta tv : TE}
def rAdd : V → V → Hp → VK → Prop := fun x y H Q => ∃ i j, x = .int i ∧ y = .int j ∧ Q (.int (i + j)) H
def rSub : V → V → Hp → VK → Prop := fun x y H Q => ∃ i j, x = .int i ∧ y = .int j ∧ Q (.int (i - j)) H
end

/-! ### isinstance -/
section
variable {X : Cx} {pins : List (Addr × Obj)} {σ : St} {H : Hp} {s : Shared} {A : Around} {E : Value → Shared → Prop} {Q : Value → Shared → Prop} {c : Value} {b : Bool}
/-- the type of a value, as the fragment's deciders take it; for an instance its class -/
inductive TyOf (K : PySem.W.Frag) (H : Hp) : V → Value → Prop where
  | non : TyOf K H .non (.type "NoneType")
  | bl (x : Bool) : TyOf K H (.bl x) (.type "bool")
  | int (i : Int) : TyOf K H (.int i) (.type "int")
  | str (x : Str) : TyOf K H (.str x) (.type "str")
  | flt (x : UInt64) : TyOf K H (.flt x) (.type "float")
  | lst {a : Addr} {xs : List V} (e : H a = some (.lst xs)) : TyOf K H (.ref a) (.type "list")
  | frz {a : Addr} {o : Obj} {xs : List V} (e : H a = some (.frz o (.lst xs))) : TyOf K H (.ref a) (.type "list")
  | tup {a : Addr} {xs : List V} (e : H a = some (.tup xs)) : TyOf K H (.ref a) (.type "tuple")
  | dK {a : Addr} {kvs : List (Key × V)} (e : H a = some (.dK kvs)) : TyOf K H (.ref a) (.type "dict")
  | dT {a : Addr} {kvs : List (List Key × V)} (e : H a = some (.dT kvs)) : TyOf K H (.ref a) (.type "dict")
  | ins {a C dx : Addr} {fs : List (Str × V)} (e : H a = some (.ins C dx fs)) (cl : Cls K C) (ha : PySem.W.findIn K (.ref C) "__class__" = some (some (.builtin "object.__class__")))
      (hn : PySem.W.specialIn K (.builtin "object.__class__") "__get__" = some (some (.builtin "getset_descriptor.__get__"))) (htk : PySem.W.takesIn K (.builtin "object.__class__") = some true)
      (hm : PySem.W.mroIn K C (.type "object") = some true) : TyOf K H (.ref a) (.ref C)
end
end L2

namespace L2
open PySem PySem.Spec PyProof.Rows

/-! ### room -/
structure Room (k : Nat) (A : Around) : Prop where
  hd : A.handled = none
  dp : A.depth + 3 * k + 5 < recursionLimit
  un : A.units + 16 * k + 200 < cLine
theorem Room.mono {j k : Nat} {A : Around} (r : Room k A) (h : j ≤ k) : Room j A := ⟨r.hd, by have := r.dp; omega, by have := r.un; omega⟩
theorem Room.deeper {k : Nat} {A : Around} (r : Room (k + 1) A) (env : Env) : Room k (A.deeper env) :=
  ⟨r.hd, by have := r.dp; show A.depth + 1 + 3 * k + 5 < _; omega, by have := r.un; show A.units + 3 + 16 * k + 200 < _; omega⟩
theorem Room.in1 {k : Nat} {A : Around} (r : Room (k + 1) A) : Room k A.in1 :=
  ⟨r.hd, by have := r.dp; show A.depth + 3 * k + 5 < _; omega, by have := r.un; show A.units + 1 + 16 * k + 200 < _; omega⟩
theorem make_depth {A : Around} {C : Addr} {us : List Value} {kw : List (Str × Value)} : (A.under (.builtin "type.__call__" ⟨.ref C :: us, kw⟩)).depth = A.depth + 1 := by
  first | rfl | simp [Around.under, Code.weight, Code.isCreation, Code.isGuard, Code.isCaller, Code.frames, Code.isFrame, guardIds]
theorem make_units {A : Around} {C : Addr} {us : List Value} {kw : List (Str × Value)} : (A.under (.builtin "type.__call__" ⟨.ref C :: us, kw⟩)).units = A.units + 1 := by
  first | rfl | simp [Around.under, Code.cUnits, Code.frames, Code.isFrame]
theorem Room.make {k : Nat} {A : Around} (r : Room (k + 1) A) (C : Addr) (us : List Value) (kw : List (Str × Value)) : Room k (A.under (.builtin "type.__call__" ⟨.ref C :: us, kw⟩)) :=
  ⟨r.hd, by have := r.dp; rw [make_depth]; omega, by have := r.un; rw [make_units]; omega⟩
theorem Room.depth {k : Nat} {A : Around} (r : Room k A) : A.depth < recursionLimit := by have := r.dp; omega
theorem Room.units {k : Nat} {A : Around} (r : Room k A) : A.units + 64 < cLine := by have := r.un; omega
/-! ### argument lists and displays -/
def tNil : TA := fun _ H Q => Q [] H
def tCons (ta : TE) (tr : TA) : TA := fun σ H Q => ta σ H fun x H1 => tr σ H1 fun xs H2 => Q (x :: xs) H2
section
variable {X : Cx} {e : Expr} {es : List Expr} {te : TE} {t : TA} {pos : Pos}
theorem pa_nil : PA X [] tNil := fun _ _ _ _ H Q I h => Calls.spliced_nil ⟨[], H, I, .nil, h⟩
theorem pa_cons (ha : PE X e te) (hr : PA X es t) (hs : starEach (e :: es) X.env = (false, eval e X.env) :: starEach es X.env := by rfl) : PA X (e :: es) (tCons te t) := by
  intro pos pins s σ H Q I h
  rw [hs]
  show wpAny _ _ (spliced ((false, eval e X.env) :: backTo pos (starEach es X.env))) _ _ s
  refine Calls.spliced_cons (thn (ha pins s σ H _ I h) fun u s1 ⟨x, H1, I1, r1, q1⟩ => ?_)
  exact thn (hr pos pins s1 σ H1 _ I1 q1) fun us s2 ⟨xs, H2, I2, r2, q2⟩ => ⟨x :: xs, H2, I2, .cons r1 r2, q2⟩

/-- a tuple, a list of written items -/
def tTup (t : TA) : TE := fun σ H Q => t σ H fun xs H1 => xs.length ≤ sizeLine ∧ ∀ p, H1 p = none → Q (.ref p) (upd H1 p (.tup xs))
def tLst (t : TA) : TE := fun σ H Q => t σ H fun xs H1 => xs.length ≤ sizeLine ∧ ∀ p, H1 p = none → Q (.ref p) (upd H1 p (.lst xs))
theorem pe_tup {x1} (h : PA X es t) : PE X (.Tuple es x1 pos) (tTup t) := by
  intro pins s σ H Q I hq
  refine wpAny_Tuple_spliced (thn (h pos pins s σ H _ I hq) fun us s1 ⟨xs, H1, I1, r, z, q⟩ => ⟨by rw [← r.length]; exact z, ?_⟩)
  have hf : H1 s1.heap.objs.size = none := I1.hok.fresh (Nat.le_refl _)
  refine ⟨.ref s1.heap.objs.size, upd H1 s1.heap.objs.size (.tup xs), I1.laid (t' := s1.toks) (fun b u e => Heap.get?_push_of_some _ e) (Nat.le_refl _) ?_, rfl, q _ hf⟩
  exact ⟨z, us, r, ⟨_, Heap.get?_push_size _ rfl, rfl, _, rfl⟩⟩
theorem pe_lst (h : PA X es t) : PE X (.List es pos) (tLst t) := by
  intro pins s σ H Q I hq
  refine wpAny_List_spliced (thn (h pos pins s σ H _ I hq) fun us s1 ⟨xs, H1, I1, r, z, q⟩ => ⟨by rw [← r.length]; exact z, ?_⟩)
  have hf : H1 s1.heap.objs.size = none := I1.hok.fresh (Nat.le_refl _)
  refine ⟨.ref s1.heap.objs.size, upd H1 s1.heap.objs.size (.lst xs), I1.laid (t' := s1.toks) (fun b u e => Heap.get?_push_of_some _ e) (Nat.le_refl _) ?_, rfl, q _ hf⟩
  exact ⟨z, us, 0, r, Heap.get?_push_size _ rfl⟩
end

/-! ### what a def promises -/
/-- a def's promise: the bound arguments in the parameters' order, the heap, the wanted end, the wanted exception -/
abbrev Sp := List V → Hp → VK → XK → Prop
/-- how an exception lies behind a call (file 08 gives it): the callers' frames, abstract heap and state ahead of the call, the wish, the exception, the state -/
abbrev CXT := List Env → Hp → Shared → XK → Value → Shared → Prop

/-- the state at a call -/
structure Env0 (P : Program) (w : World) (K : PySem.W.Frag) (mg : Str → Option Value) (base : Heap) (A : Around) (outer : List Env) (s : Shared) (H : Hp) : Prop where
  frames : A.frames = some outer
  mod : Mod K mg base
  bs : ∀ b o, base.get? b = some o → s.heap.get? b = some o ∧ H b = none
  bsz : base.objs.size ≤ s.heap.objs.size
  funs : s.heap.FunFrames base outer
  frf : ∀ b ∈ frs outer, H b = none
  hok : HOk P w H s.heap
  bare : AllBare s.gens
/-- a call's end -/
def CE (outer : List Env) (P : Program) (w : World) (H : Hp) (s : Shared) (Q : VK) (u : Value) (s' : Shared) : Prop :=
  ∃ v H', s'.os = s.os ∧ AllBare s'.gens ∧ Un (frs outer) [] H H' s.heap s'.heap ∧ HOk P w H' s'.heap ∧ RelV v u ∧ Q v H'
def CR (CX : CXT) (outer : List Env) (P : Program) (w : World) (H : Hp) (s : Shared) (Q : VK) (E : XK) (r : Result) (s' : Shared) : Prop :=
  match r with
  | .ok (.ret u) => CE outer P w H s Q u s'
  | .ok _ => False
  | .error e => CX outer H s E e s'
structure FnOk (P : Program) (w : World) (K : PySem.W.Frag) (mg : Str → Option Value) (base : Heap) (CX : CXT) (k : Nat) (f : Addr) (fd : FuncData) (ps : List Str) (sp : Sp) : Prop where
  len : ∀ vs H Q E, sp vs H Q E → vs.length = ps.length
  run : ∀ (A : Around) (outer : List Env) (s : Shared) (H : Hp) (args : Args) (us : List Value) (vs : List V) (Q : VK) (E : XK), Room k A → Env0 P w K mg base A outer s H → BindsTo s fd args (ps.zip us) → Vals vs us → sp vs H Q E →
    codeAny (model P w) A (.call (.ref f) args) (CR CX outer P w H s Q E) s
theorem FnOk.mono {P : Program} {w : World} {K : PySem.W.Frag} {mg : Str → Option Value} {base : Heap} {CX : CXT} {j k : Nat} {f : Addr} {fd : FuncData} {ps : List Str} {sp : Sp} (F : FnOk P w K mg base CX j f fd ps sp) (h : j ≤ k) :
    FnOk P w K mg base CX k f fd ps sp := ⟨F.len, fun A outer s H args us vs Q E hr => F.run A outer s H args us vs Q E (hr.mono h)⟩
/-- a weaker promise -/
theorem FnOk.imp {P : Program} {w : World} {K : PySem.W.Frag} {mg : Str → Option Value} {base : Heap} {CX : CXT} {k : Nat} {f : Addr} {fd : FuncData} {ps : List Str} {sp sp' : Sp} (F : FnOk P w K mg base CX k f fd ps sp)
    (h : ∀ vs H Q E, sp' vs H Q E → sp vs H Q E) : FnOk P w K mg base CX k f fd ps sp' :=
  ⟨fun vs H Q E q => F.len vs H Q E (h _ _ _ _ q), fun A outer s H args us vs Q E hr he hb hv hs => F.run A outer s H args us vs Q E hr he hb hv (h _ _ _ _ hs)⟩

theorem Env0.make {P : Program} {w : World} {K : PySem.W.Frag} {mg : Str → Option Value} {base : Heap} {A : Around} {outer : List Env} {s : Shared} {H : Hp} (e : Env0 P w K mg base A outer s H) (C : Addr) (us : List Value) (kw : List (Str × Value)) :
    Env0 P w K mg base (A.under (.builtin "type.__call__" ⟨.ref C :: us, kw⟩)) outer s H := ⟨by first | exact e.frames | (simpa [Around.under, Code.envs, Code.isFrame, pushEnvs] using e.frames), e.mod, e.bs, e.bsz, e.funs, e.frf, e.hok, e.bare⟩
theorem Env0.in1 {P : Program} {w : World} {K : PySem.W.Frag} {mg : Str → Option Value} {base : Heap} {A : Around} {outer : List Env} {s : Shared} {H : Hp} (e : Env0 P w K mg base A outer s H) :
    Env0 P w K mg base A.in1 outer s H := ⟨e.frames, e.mod, e.bs, e.bsz, e.funs, e.frf, e.hok, e.bare⟩

section
variable {X : Cx} {pins : List (Addr × Obj)} {σ : St} {H : Hp} {s s' : Shared}
/-- from a body: what a callee wants -/
theorem Inv.env0 (I : Inv X pins σ H s) : Env0 X.prog X.w X.K X.mg X.base X.A X.stack s H :=
  ⟨I.ok.frames, I.ok.mod, I.bs, Nat.le_trans I.ok.bsz I.sz, I.stack, I.stkFree, I.hok, I.bare⟩
/-- behind a call -/
theorem Inv.after {Q : VK} {u : Value} (I : Inv X pins σ H s) (h : CE X.stack X.prog X.w H s Q u s') : EP X pins σ Q u s' := by
  obtain ⟨v, H', os, bare, un, hok, r, q⟩ := h
  obtain ⟨hh, g, d, t, os'⟩ := s'
  obtain rfl : os' = s.os := os
  exact ⟨v, H', I.call (h' := hh) (g' := g) (d' := d) (t' := t) (ch := []) un hok bare (fun b z => absurd z (by simp)), r, q⟩
end

/-! ### calls -/
/-- f(..): the written arguments, then the defaults dvs; E: what is wanted of an exception -/
def tCall (sp : Sp) (dvs : List V) (E : XK) (t : TA) : TE := fun σ H Q => t σ H fun vs H1 => sp (vs ++ dvs) H1 Q E
/-- o.m(..) of an instance of the class at C -/
def tMeth (C : Addr) (m : Str) (sp : Sp) (dvs : List V) (E : XK) (ta : TE) (t : TA) : TE := fun σ H Q => ta σ H fun x H1 => ∃ a dx fs, x = .ref a ∧ H1 a = some (.ins C dx fs) ∧ fs.lookup m = none ∧
  t σ H1 fun vs H2 => sp (x :: (vs ++ dvs)) H2 Q E
/-- C(..): a new instance and its dict, then __init__ -/
def tMake (C : Addr) (sp : Sp) (dvs : List V) (E : XK) (t : TA) : TE := fun σ H Q => t σ H fun vs H1 => ∀ x dx, H1 x = none → H1 dx = none → dx ≠ x →
  sp (.ref x :: (vs ++ dvs)) (upd (upd H1 dx (.own x)) x (.ins C dx [])) (fun v H2 => v = .non ∧ Q (.ref x) H2) E

/-- how the parameters are bound: us the positional arguments, kw the keywords' values by name, ds the defaults that fill up -/
def Binds (K : PySem.W.Frag) (fd : FuncData) (ps : List Str) (ds : List Value) : Prop :=
  ∀ (s : Shared) (us : List Value), K.In s.heap → (us ++ ds).length = ps.length → BindsTo s fd ⟨us, []⟩ (ps.zip (us ++ ds))
/-- every parameter is given -/
theorem Binds.all {K : PySem.W.Frag} {fd : FuncData} {ps : List Str} (h : ∀ us : List Value, us.length = ps.length → bindArgs fd ⟨us, []⟩ = pure (ps.zip us)) : Binds K fd ps [] := fun s us _ hl => by
  rw [List.append_nil] at hl ⊢
  exact .of_eq (h us hl)

/-- an exception of a callee reaches what this body wants of exceptions -/
def Passes (CX : CXT) (X : Cx) (E : XK) : Prop := ∀ (pins : List (Addr × Obj)) (σ : St) (H : Hp) (s : Shared) (e : Value) (s' : Shared), Inv X pins σ H s → CX X.stack H s E e s' → X.xe e s'

section
variable {X : Cx} {CX : CXT} {k : Nat} {f C : Addr} {fd : FuncData} {ps : List Str} {sp : Sp} {dvs : List V} {ds : List Value} {E : XK} {x m : Str} {p pos apos : Pos} {e o : Expr} {es : List Expr} {ta : TE} {t : TA}

/-- the callee runs -/
theorem run_fn {pins : List (Addr × Obj)} {σ : St} {H : Hp} {s : Shared} {Q : VK} {us : List Value} {vs : List V} (F : FnOk X.prog X.w X.K X.mg X.base CX k f fd ps sp) (hr : Room k X.A) (hb : Binds X.K fd ps ds) (hd : Vals dvs ds) (hx : Passes CX X E)
    (I : Inv X pins σ H s) (r : Vals vs us) (h : sp (vs ++ dvs) H Q E) : wpAny (model X.prog X.w) X.A (call (.ref f) us) (EP X pins σ Q) X.xe s := by
  have r2 : Vals (vs ++ dvs) (us ++ ds) := r.append hd
  have hl : (us ++ ds).length = ps.length := by rw [← r2.length]; exact F.len _ _ _ _ h
  refine wpAny_call (codeAny_mono (F.run X.A X.stack s H ⟨us, []⟩ (us ++ ds) (vs ++ dvs) Q E hr I.env0 (hb s us I.kIn hl) r2 h) fun r s' hq => ?_)
  cases r with
  | error e => exact hx pins σ H s e s' I hq
  | ok fl =>
    cases fl with
    | ret u => exact I.after hq
    | next => exact False.elim hq
    | brk => exact False.elim hq
    | cont => exact False.elim hq

theorem pe_call (F : FnOk X.prog X.w X.K X.mg X.base CX k f fd ps sp) (hr : Room k X.A) (hg : Gl X x) (hm : X.mg x = some (.ref f)) (hk : PySem.W.keepIn X.K (.ref f) = true) (hb : Binds X.K fd ps ds) (hd : Vals dvs ds) (hx : Passes CX X E)
    (ha : PA X (e :: es) t) (hdb : (x == ("__debug__" : Str)) = false := by decide) (he : starEach (e :: es) X.env = (false, eval e X.env) :: starEach es X.env := by rfl) (hpl : (backTo pos (starEach es X.env)).any (·.1) = false := by rfl) :
    PE X (.Call (.Name x p) (e :: es) [] pos) (tCall sp dvs E t) := by
  intro pins s σ H Q I h
  refine wpAny_Call_Name_kw (ld_glob I hg hm ?_ hdb)
  refine PySem.W.callWith_K (h₀ := X.base) I.ok.mod.kin hk (thn (ha pos pins s σ H _ I h) fun us s1 ⟨vs, H1, I1, r, q⟩ => ⟨I1.kIn, ?_⟩) he hpl
  exact run_fn F hr hb hd hx I1 r q
/-- what a class must have to be made -/
structure Mk (K : PySem.W.Frag) (C f : Addr) : Prop where
  makes : PySem.W.makesIn K C = true
  init : PySem.W.findIn K (.ref C) "__init__" = some (some (.ref f))
  fn : PySem.W.isFn K (.ref f) = true
  kp : PySem.W.keepIn K (.ref C) = true

end

/-! ### keywords -/
/-- the values of the keywords, from the left -/
def PK (X : Cx) (kws : List Keyword) (t : TA) : Prop :=
  ∀ (pos : Pos) (pins : List (Addr × Obj)) (s : Shared) (σ : St) (H : Hp) (Q : List V → Hp → Prop), Inv X pins σ H s → t σ H Q → wpAny (model X.prog X.w) X.A (evalAll ((backToKw pos (keywordEach kws X.env)).map (·.2))) (AP X pins σ Q) X.xe s
section
variable {X : Cx} {CX : CXT} {k : Nat} {f C : Addr} {fd : FuncData} {ps ks : List Str} {sp : Sp} {E : XK} {x m : Str} {p pos apos kpos : Pos} {e o : Expr} {es : List Expr} {kws : List Keyword} {te ta : TE} {t tk : TA} {nm : Option Str}
/-- how a call with keywords binds: g puts the positional values us and the keywords' values ws (names ks) in the parameters' order, defaults among them -/
structure KBinds (K : PySem.W.Frag) (fd : FuncData) (ps ks : List Str) (g : List Value → List Value → List Value) (gV : List V → List V → List V) : Prop where
  to : ∀ (s : Shared) (us ws : List Value), K.In s.heap → (g us ws).length = ps.length → BindsTo s fd ⟨us, ks.zip ws⟩ (ps.zip (g us ws))
  rel : ∀ {vs : List V} {us : List Value} {zs : List V} {ws : List Value}, Vals vs us → Vals zs ws → Vals (gV vs zs) (g us ws)
def tCallK (sp : Sp) (gV : List V → List V → List V) (E : XK) (t tk : TA) : TE := fun σ H Q => t σ H fun vs H1 => tk σ H1 fun zs H2 => sp (gV vs zs) H2 Q E
variable {g : List Value → List Value → List Value} {gV : List V → List V → List V}
end

/-! ### a def's body keeps its promise -/
/-- names: the parameters first -/
structure FnScope (N P : List Str) (sc : Scope) : Prop where
  kind : sc.kind = .function
  co : sc.isCoroutine = false
  gen : sc.isGenerator = false
  nd : N.Nodup
  pre : N.take P.length = P
  par : ∀ x ∈ P, sc.names.lookup x = some .local ∨ sc.names.lookup x = some .cell
  nofree : ∀ y ∈ sc.names, y.2 ≠ .free

theorem bindL_out {kindOf : Str → Option NameKind} {x : Str} : ∀ {binds : List (Str × Value)} {m : Str → Option Value}, (∀ v, (x, v) ∉ binds) → bindL kindOf binds m x = m x
  | [], _, _ => rfl
  | (n, v) :: r, m, h => by
    unfold bindL
    rw [bindL_out fun w hw => h w (List.mem_cons_of_mem _ hw)]
    split
    · have : x ≠ n := by rintro rfl; exact h v List.mem_cons_self
      simp [this]
    · rfl
theorem bindC_out {kindOf : Str → Option NameKind} {x : Str} : ∀ {binds : List (Str × Value)} {m : Str → Option Value}, (∀ v, (x, v) ∉ binds) → bindC kindOf binds m x = m x
  | [], _, _ => rfl
  | (n, v) :: r, m, h => by
    unfold bindC
    rw [bindC_out fun w hw => h w (List.mem_cons_of_mem _ hw)]
    split
    · rfl
    · have : x ≠ n := by rintro rfl; exact h v List.mem_cons_self
      simp [this]
theorem bindL_get {kindOf : Str → Option NameKind} {x : Str} {v : Value} : ∀ {P : List Str} {vs : List Value} {i : Nat} {m : Str → Option Value}, P.Nodup → P[i]? = some x → vs[i]? = some v → kindOf x = some .local →
    bindL kindOf (P.zip vs) m x = some v
  | [], _, _, _, _, h, _, _ => by simp at h
  | _ :: _, [], _, _, _, _, h, _ => by simp at h
  | p :: P, w :: vs, 0, m, nd, h1, h2, hk => by
    simp at h1 h2; subst h1; subst h2
    show bindL kindOf ((p, w) :: P.zip vs) m p = _
    unfold bindL
    rw [bindL_out fun v hv => (List.nodup_cons.mp nd).1 (List.of_mem_zip hv).1, if_pos hk]
    simp
  | p :: P, w :: vs, i + 1, m, nd, h1, h2, hk => by
    show bindL kindOf ((p, w) :: P.zip vs) m x = _
    unfold bindL
    exact bindL_get (i := i) (List.nodup_cons.mp nd).2 (by simpa using h1) (by simpa using h2) hk
theorem bindC_get {kindOf : Str → Option NameKind} {x : Str} {v : Value} : ∀ {P : List Str} {vs : List Value} {i : Nat} {m : Str → Option Value}, P.Nodup → P[i]? = some x → vs[i]? = some v → kindOf x ≠ some .local →
    bindC kindOf (P.zip vs) m x = some v
  | [], _, _, _, _, h, _, _ => by simp at h
  | _ :: _, [], _, _, _, _, h, _ => by simp at h
  | p :: P, w :: vs, 0, m, nd, h1, h2, hk => by
    simp at h1 h2; subst h1; subst h2
    show bindC kindOf ((p, w) :: P.zip vs) m p = _
    unfold bindC
    rw [bindC_out fun v hv => (List.nodup_cons.mp nd).1 (List.of_mem_zip hv).1, if_neg hk]
    simp
  | p :: P, w :: vs, i + 1, m, nd, h1, h2, hk => by
    show bindC kindOf ((p, w) :: P.zip vs) m x = _
    unfold bindC
    exact bindC_get (i := i) (List.nodup_cons.mp nd).2 (by simpa using h1) (by simpa using h2) hk

/-- the names' values at the entry -/
def start (N : List Str) (vs : List V) : St := vs.map some ++ List.replicate (N.length - vs.length) none

/-- the context of a def's body, at its entry; an exception leaves the frame, then lies as CX says -/
def cxOf (CX : CXT) (P : Program) (w : World) (K : PySem.W.Frag) (mg : Str → Option Value) (base : Heap) (N : List Str) (qual : Str) (scope : Scope) (f : Addr) (cd : Value) (A : Around) (outer : List Env) (s : Shared) (H : Hp) (E : XK) : Cx where
  prog := P
  w := w
  K := K
  mg := mg
  base := base
  A := A.deeper (envOfC qual scope s.heap.objs.size f cd)
  N := N
  s₀ := s
  H₀ := H
  env := envOfC qual scope s.heap.objs.size f cd
  outer := outer
  stack := envOfC qual scope s.heap.objs.size f cd :: outer
  ex := []
  calm := true
  fn := fun _ => true
  pn := []
  xe := fun e s' => wpAny (model P w) (A.deeper (envOfC qual scope s.heap.objs.size f cd)) (leaving (envOfC qual scope s.heap.objs.size f cd) e) (fun _ s'' => CX outer H s E e s'') (fun e' s'' => CX outer H s E e' s'') s'

theorem cell_has {sc : Scope} {n : Nat} {x : Str} (h : sc.names.lookup x = some .cell) : ∃ c, (cellsFrom n sc.names []).lookup x = some c := by
  have q := PySem.W.cellsFrom_some sc.names n [] (.inl h)
  exact Option.isSome_iff_exists.mp q

theorem inv_start {CX : CXT} {P : Program} {w : World} {K : PySem.W.Frag} {mg : Str → Option Value} {base : Heap} {N ps : List Str} {qual : Str} {scope : Scope} {f : Addr} {cd : Value} {A : Around} {outer : List Env} {s s1 : Shared} {H : Hp} {E : XK} {us : List Value} {vs : List V}
    (S : FnScope N ps scope) (hd : A.handled = none) (e0 : Env0 P w K mg base A outer s H) (hl : vs.length = ps.length) (r : Vals vs us)
    (x : InCallC s s.heap.objs.size (bindL (envOfC qual scope s.heap.objs.size f cd).kindOf (ps.zip us) fun _ => none) (cellsFrom (s.heap.objs.size + 1) scope.names []) (bindC (envOfC qual scope s.heap.objs.size f cd).kindOf (ps.zip us) fun _ => none) s1) :
    Inv (cxOf CX P w K mg base N qual scope f cd A outer s H E) [] (start N vs) H s1 := by
  have hpl : ps.length ≤ N.length := by have := congrArg List.length S.pre; rw [List.length_take] at this; omega
  obtain ⟨h1, tk, rfl, hk⟩ := x.done
  have noA : ∀ b : Addr, b ∉ (cxOf CX P w K mg base N qual scope f cd A outer s H E).ex := fun b z => absurd (show b ∈ ([] : List Addr) from z) (by simp)
  refine ⟨⟨e0.mod, S.kind, rfl, rfl, Nat.le_refl _, fun y z c h1 h2 => ?_, fun y hy => ?_, fun y c _ h => ?_, fun _ => hd, Around.frames_deeper e0.frames, .inr ⟨rfl, rfl⟩, fun b z => absurd z (noA b), e0.bs, e0.bsz, fun b _ _ => noA b, fun b z => absurd z (noA b), e0.funs, e0.frf⟩,
    rfl, e0.bare, Un.kept hk, ⟨_, x.toInCall.ns, fun i y v h1 h2 h3 => ?_⟩, fun y c h => ⟨_, x.cell y c h⟩, e0.hok.fresh (Nat.le_refl _), fun y c h => ?_, fun p hp => absurd (show p ∈ ([] : List (Addr × Obj)) from hp) (by simp), e0.hok.kept hk, ?_⟩
  · exact name_of_addr x.apart (PySem.mem_of_lookup h1) (PySem.mem_of_lookup h2)
  · have hy : scope.names.lookup y = some .cell ∨ scope.names.lookup y = some .free := hy
    rcases hy with hy | hy
    · exact cell_has hy
    · exact absurd rfl (S.nofree _ (PySem.mem_of_lookup hy))
  · exact Nat.le_of_lt (x.above y c (PySem.mem_of_lookup h))
  · have hi : i < vs.length := by
      unfold start at h2
      by_cases hi : i < vs.length
      · exact hi
      · rw [List.getElem?_append_right (by simpa using hi)] at h2
        rw [List.getElem?_replicate] at h2
        split at h2 <;> cases h2
    have ha : vs[i]? = some v := by
      unfold start at h2
      rw [List.getElem?_append_left (by simpa using hi), List.getElem?_map] at h2
      cases e : vs[i]? with
      | none => rw [e] at h2; cases h2
      | some a => rw [e] at h2; cases h2; rfl
    obtain ⟨u, hu, rv⟩ := r.get ha
    have hp : ps[i]? = some y := by
      rw [← S.pre, List.getElem?_take_of_lt (by omega)]; exact h1
    have ndP : ps.Nodup := by rw [← S.pre]; exact S.nd.sublist (List.take_sublist _ _)
    refine ⟨u, rv, ?_⟩
    rcases S.par y (List.mem_of_getElem? hp) with k | k
    · exact .inl ⟨k, bindL_get ndP hp hu k⟩
    · obtain ⟨c, e⟩ := cell_has (n := s.heap.objs.size + 1) k
      refine .inr ⟨.inl k, c, e, ?_⟩
      have q := x.cell y c e
      rw [bindC_get ndP hp hu (by show scope.names.lookup y ≠ _; rw [k]; decide)] at q
      exact q
  · exact e0.hok.fresh (Nat.le_of_lt (x.above y c (PySem.mem_of_lookup h)))
  · unfold start
    show _ = N.length
    rw [List.length_append, List.length_map, List.length_replicate]
    omega

/-- THE RULE: a def (or a method) of the text, by its body. The body's reading t is chosen for each entry; it is run at the parameters' values -/
theorem fn_of {CX : CXT} {P : Program} {w : World} {K : PySem.W.Frag} {mg : Str → Option Value} {base : Heap} {k : Nat} {f : Addr} {name qual : Str} {params : Arguments} {body : List Stmt} {scope : Scope} {dV kV doc pm cdv ct oc : Value} {an od : Option Addr}
    {osl : Array (Option Value)} {N ps : List Str} {sp : Sp} (lk : K.lookup f = some ⟨oc, od, .func (PySem.W.fnOf name qual params body scope dV kV doc pm an cdv ct), osl⟩) (hcd : PySem.W.codeIn K cdv qual = true) (S : FnScope N ps scope)
    (len : ∀ vs H Q E, sp vs H Q E → vs.length = ps.length)
    (hbody : ∀ (A : Around) (outer : List Env) (s : Shared) (H : Hp) (vs : List V) (Q : VK) (E : XK), Room k (A.deeper (envOfC qual scope s.heap.objs.size f cdv)) → sp vs H Q E →
      ∃ t, PSs (cxOf CX P w K mg base N qual scope f cdv A outer s H E) body t ∧ t { nx := fun _ H' => Q .non H', rt := Q } (start N vs) H) :
    FnOk P w K mg base CX (k + 1) f (PySem.W.fnOf name qual params body scope dV kV doc pm an cdv ct) ps sp := by
  refine ⟨len, fun A outer s H args us vs Q E hr e0 hb r hsp => ?_⟩
  have hl := len _ _ _ _ hsp
  have KX : K.In s.heap := e0.mod.kin.keeps fun b o e => (e0.bs b o e).1
  have lim : s.heap.NoLimit := e0.mod.nolimit.keeps fun b o e => (e0.bs b o e).1
  have hkind : ∀ y ∈ ps.zip us, scope.names.lookup y.1 = some .local ∨ (scope.names.lookup y.1 = some .cell ∧ ((cellsFrom (s.heap.objs.size + 1) scope.names []).lookup y.1).isSome = true) := fun ⟨n, v⟩ hy => by
    rcases S.par n (List.of_mem_zip hy).1 with q | q
    · exact .inl q
    · exact .inr ⟨q, PySem.W.cellsFrom_some _ _ _ (.inl q)⟩
  refine codeAny_call_function hr.depth (KX _ _ lk) rfl S.co S.gen rfl (PySem.W.codeRec_of KX hcd) (hb _ _ _ _ ?_)
  refine wpAny_newFunctionEnv_cells S.kind hkind fun env he s1 x => ?_
  subst he
  refine ⟨lim.keeps x.toInCall.keep, codeAny_func ?_⟩
  obtain ⟨t, ht, hq⟩ := hbody A outer s H vs Q E (hr.deeper _) hsp
  have I : Inv (cxOf CX P w K mg base N qual scope f cdv A outer s H E) [] (start N vs) H s1 := inv_start S hr.hd e0 hl r x
  refine wpAny_mono (ht [] s1 (start N vs) H _ I hq) (fun fl s' hs => ?_) fun e s' hs => hs
  have fin : ∀ {σ' : St} {H' : Hp} {v : V} {u : Value}, Inv (cxOf CX P w K mg base N qual scope f cdv A outer s H E) [] σ' H' s' → RelV v u → Q v H' → CE outer P w H s Q u s' :=
    fun {σ' H' v u} J rv q => ⟨v, H', J.os, J.bare, J.base, J.hok, rv, q⟩
  cases fl with
  | ret u =>
    obtain ⟨v, σ', H', J, rv, q⟩ := hs
    exact fin J rv q
  | next =>
    obtain ⟨σ', H', J, q⟩ := hs
    exact fin (v := V.non) (u := Value.none) J rfl q
  | brk =>
    obtain ⟨_, _, _, q⟩ := hs
    exact False.elim q
  | cont =>
    obtain ⟨_, _, _, q⟩ := hs
    exact False.elim q
end L2

namespace L2
open PySem PySem.Spec PyProof.Rows
section
variable {X : Cx} {x : Str} {p pos : Pos} {e : Expr} {es : List Expr} {t : TA} {id T : String} {r : List V → Hp → VK → Prop}

def tCB (r : List V → Hp → VK → Prop) (t : TA) : TE := fun σ H Q => t σ H fun vs H1 => r vs H1 Q
/-- f(e, ..), f a built-in function -/
theorem pe_callB (hc : CallR X (.builtin id) r) (hg : Gl X x) (hm : X.mg x = none) (hv : bootBuiltins x = some (.builtin id)) (ha : PA X (e :: es) t) (hn : x ≠ "__name__" := by decide) (hdb : (x == ("__debug__" : Str)) = false := by decide)
    (he : starEach (e :: es) X.env = (false, eval e X.env) :: starEach es X.env := by rfl) (hpl : (backTo pos (starEach es X.env)).any (·.1) = false := by rfl) : PE X (.Call (.Name x p) (e :: es) [] pos) (tCB r t) := by
  intro pins s σ H Q I h
  refine wpAny_Call_Name_kw (ld_blt I hg hm hv ?_ hn hdb)
  exact PyProof.Rows.callWith_builtin1 (thn (ha pos pins s σ H _ I h) fun us s1 ⟨vs, H1, I1, r1, q1⟩ => hc pins s1 σ H1 vs us Q I1 r1 q1) he hpl
/-- T(e, ..), T a built-in type -/
theorem pe_callTy (hc : CallR X (.type T) r) (hg : Gl X x) (hm : X.mg x = none) (hv : bootBuiltins x = some (.type T)) (ha : PA X (e :: es) t) (hn : x ≠ "__name__" := by decide) (hdb : (x == ("__debug__" : Str)) = false := by decide)
    (he : starEach (e :: es) X.env = (false, eval e X.env) :: starEach es X.env := by rfl) (hpl : (backTo pos (starEach es X.env)).any (·.1) = false := by rfl) : PE X (.Call (.Name x p) (e :: es) [] pos) (tCB r t) := by
  intro pins s σ H Q I h
  refine wpAny_Call_Name_kw (ld_blt I hg hm hv ?_ hn hdb)
  exact PyProof.Rows.callWith_type1 (thn (ha pos pins s σ H _ I h) fun us s1 ⟨vs, H1, I1, r1, q1⟩ => hc pins s1 σ H1 vs us Q I1 r1 q1) he hpl
end
end L2

namespace HT
open PySem PyProof.Rows

/-- t < u of tuples of ints -/
def lexLt : List Int → List Int → Bool
  | [], [] => false
  | [], _ :: _ => true
  | _ :: _, [] => false
  | x :: xs, y :: ys => if x = y then lexLt xs ys else decide (x < y)
section
open PySem.SeqAt
open PySem.AutoSeq1 (wpAny_loadPart')
open PySem.MeetsSeq PySem.MeetsSeq2 PySem.MeetsSeq3

end

section
variable {prog : Program} {w : World} {A : Around} {E : Value → Shared → Prop} {s : Shared}

/-- t + u, t not empty -/
theorem cat_tup {t b : Addr} {vs ws : List Value} {Q : Value → Shared → Prop} (ht : IsTup s.heap t vs.toArray) (hb : IsTup s.heap b ws.toArray) (hv : vs ≠ [])
    (h1 : ws = [] → Q (.ref t) s) (h2 : ws ≠ [] → Q (.ref s.heap.objs.size) { s with heap := s.heap.push { cls := .type "tuple", data := .seq (vs ++ ws).toArray } })
    (hsz : vs.length + ws.length ≤ sizeLine) : wpAny (model prog w) A (binaryOp .Add (.ref t) (.ref b)) Q E s := by
  obtain ⟨⟨cls, dd, data, sl⟩, ho, hc, n, hd⟩ := id ht
  obtain ⟨⟨cls2, dd2, data2, sl2⟩, ho2, hc2, n2, hd2⟩ := id hb
  simp only at hc hd hc2 hd2
  subst hc hd hc2 hd2
  have e : vs.toArray ++ ws.toArray = (vs ++ ws).toArray := by simp
  by_cases hw : ws = []
  · exact concat_meets ⟨_, ho, rfl⟩ ⟨_, ho2, rfl⟩ noFill_tuple_add seq_tuple_add PySem.F.slot_tuple_add PySem.F.entry_tuple_add (PySem.F.args_tuple_add_2 _ _)
      (tuple_addW1 t b vs.toArray ws.toArray n n2 dd dd2 sl sl2 (by simpa using hv) (by simp [hw])) ⟨ho, ho2, h1 hw⟩
  · refine concat_meets ⟨_, ho, rfl⟩ ⟨_, ho2, rfl⟩ noFill_tuple_add seq_tuple_add PySem.F.slot_tuple_add PySem.F.entry_tuple_add (PySem.F.args_tuple_add_2 _ _)
      (tuple_addW2 t b vs.toArray ws.toArray n n2 dd dd2 sl sl2 (by simpa using hv) (by simpa using hw) (by rw [List.size_toArray, List.size_toArray]; exact hsz)) ⟨ho, ho2, ?_⟩
    rw [e]
    exact h2 hw

/-! ### t[a:b], not the whole -/
/-- a slice's bound as a place among n (d where it is left out) -/
def sIx (n d : Nat) : Option Int → Nat
  | none => d
  | some v => if v < 0 then (v + (n : Int)).toNat else min v.toNat n
theorem sIx_none (n d : Nat) : sIx n d none = d := rfl
theorem sIx_nat (n d k : Nat) : sIx n d (some (k : Int)) = min k n := by
  show (if (k : Int) < 0 then ((k : Int) + (n : Int)).toNat else min (k : Int).toNat n) = min k n
  rw [if_neg (by omega), Int.toNat_natCast]
theorem sIx_le (n d : Nat) (hd : d ≤ n) (o : Option Int) : sIx n d o ≤ n := by
  cases o with
  | none => exact hd
  | some v =>
    show (if v < 0 then (v + (n : Int)).toNat else min v.toNat n) ≤ n
    by_cases hv : v < 0
    · rw [if_pos hv]; omega
    · rw [if_neg hv]; exact Nat.min_le_right _ _
theorem clip_eq (v : Int) (n d : Nat) : (if v < 0 then max (v + (n : Int)) 0 else min v (n : Int)) = ((sIx n d (some v) : Nat) : Int) := by
  show (if v < 0 then max (v + (n : Int)) 0 else min v (n : Int)) = (((if v < 0 then (v + (n : Int)).toNat else min v.toNat n) : Nat) : Int)
  by_cases hv : v < 0
  · simp only [if_pos hv]; omega
  · simp only [if_neg hv]; omega
theorem adjust_gen (lo hi : Option Int) (n : Nat) : Builtin.Slice.sliceAdjust lo hi 1 (n : Int) = (((sIx n 0 lo : Nat) : Int), ((sIx n n hi : Nat) : Int)) := by
  have h1 : ¬ ((1 : Int) < 0) := by omega
  unfold Builtin.Slice.sliceAdjust
  simp only [h1, if_false]
  refine Prod.ext ?_ ?_
  · cases lo with
    | none => rfl
    | some v => exact clip_eq v n 0
  · cases hi with
    | none => rfl
    | some v => exact clip_eq v n n
theorem places_gen (i j : Nat) : Builtin.Slice.slicePlaces (i : Int) (j : Int) 1 = j - i := by
  unfold Builtin.Slice.slicePlaces
  have h1 : (1 : Int) > 0 := by omega
  simp only [h1, if_true, Int.ediv_one]
  split <;> omega
theorem slicePart_ {v : Value} {o : Option Int} {Q : Option Int → Shared → Prop} (p : IsPart v o) (h : Q o s) : wpAny (model prog w) A (Builtin.Slice.slicePartIndex v) Q E s := by
  cases p with
  | none => exact slicePart_none h
  | int i t => exact slicePart_int h
theorem sliceApplied_gen {sl : Addr} {vl vu : Value} {lo hi : Option Int} {n : Nat} {Q : Int × Int × Nat → Shared → Prop} (hs : s.heap.IsSliceOf sl vl vu .none) (pl : IsPart vl lo) (pu : IsPart vu hi)
    (h : Q (((sIx n 0 lo : Nat) : Int), 1, sIx n n hi - sIx n 0 lo) s) : wpAny (model prog w) A (Builtin.Slice.sliceApplied (.ref sl) (pure (n : Int))) Q E s := by
  obtain ⟨os, hos, hcs, hds⟩ := id hs
  unfold Builtin.Slice.sliceApplied Builtin.Slice.sliceFields
  refine wpAny_bind (wpAny_bind (wpAny_field hos hds (x := vl) rfl (wpAny_bind (wpAny_field hos hds (x := vu) rfl (wpAny_bind (wpAny_field hos hds (x := .none) rfl (wpAny_pure ?_)))))))
  refine wpAny_bind (slicePart_none ?_)
  show wpAny _ _ (if ((1 : Int) == 0) = true then _ else _) _ _ s
  rw [if_neg (by decide)]
  refine wpAny_bind (slicePart_ pl (wpAny_bind (slicePart_ pu (wpAny_bind (wpAny_pure ?_)))))
  show wpAny _ _ (match Builtin.Slice.sliceAdjust lo hi 1 (n : Int) with | (lo, hi) => pure (lo, (1 : Int), Builtin.Slice.slicePlaces lo hi 1)) _ _ s
  rw [adjust_gen lo hi n]
  show wpAny _ _ (pure (((sIx n 0 lo : Nat) : Int), (1 : Int), Builtin.Slice.slicePlaces ((sIx n 0 lo : Nat) : Int) ((sIx n n hi : Nat) : Int) 1)) _ _ s
  rw [places_gen]
  exact wpAny_pure h
theorem pick_gen (xs : Array Value) (i k : Nat) : ((List.range k).filterMap fun (m : Nat) => xs[((i : Int) + (m : Int) * 1).toNat]?).toArray = ((xs.toList.drop i).take k).toArray := by
  have e : (fun (m : Nat) => xs[((i : Int) + (m : Int) * 1).toNat]?) = fun m => xs[i + m]? := by
    funext m
    have : ((i : Int) + (m : Int) * 1).toNat = i + m := by omega
    rw [this]
  rw [e]
  have := pick_run xs i k
  rw [List.filterMap_map] at this
  have e2 : ((fun x => xs[x]?) ∘ fun x => i + x) = fun m => xs[i + m]? := rfl
  rw [e2] at this
  rw [this]

theorem getItem_tuple_cut {t sl : Addr} {items : Array Value} {vl vu : Value} {lo hi : Option Int} {Q : Value → Shared → Prop} (ht : IsTup s.heap t items) (hs : s.heap.IsSliceOf sl vl vu .none) (pl : IsPart vl lo) (pu : IsPart vu hi)
    (hw : ¬ (sIx items.size 0 lo = 0 ∧ sIx items.size items.size hi = items.size))
    (h : Q (.ref s.heap.objs.size) { s with heap := s.heap.push { cls := .type "tuple", data := .seq ((items.toList.drop (sIx items.size 0 lo)).take (sIx items.size items.size hi - sIx items.size 0 lo)).toArray } })
    (hsz : items.size ≤ sizeLine) : wpAny (model prog w) A (getItem (.ref t) (.ref sl)) Q E s := by
  have htake : sizeOk (.seq ((items.toList.drop (sIx items.size 0 lo)).take (sIx items.size items.size hi - sIx items.size 0 lo)).toArray) := by
    show ((items.toList.drop (sIx items.size 0 lo)).take (sIx items.size items.size hi - sIx items.size 0 lo)).toArray.size ≤ sizeLine
    rw [List.size_toArray, List.length_take, List.length_drop, Array.length_toList]
    omega
  have hj : sIx items.size items.size hi ≤ items.size := sIx_le _ _ (Nat.le_refl _) hi
  obtain ⟨os, hos, hcs, hds⟩ := id hs
  have hTs : s.TypeIs (.ref sl) "slice" := ⟨os, hos, hcs⟩
  unfold getItem
  try with_reducible refine wpAny_holding ?_
  first | refine wpAny_bind (wpAny_pure ?_) | skip
  refine wpAny_bind (wpAny_sequenceKey ht.typeIs (by decide) ?_)
  refine wpAny_bind (wpAny_callSpecial?_slot (name := Str.ofString "__getitem__") ht.typeIs PyProof.Rows.slot_tuple_getitem
    (wpAny_call_entry PyProof.Rows.slot_tuple_getitem ht.typeIs entry_tuple_getitem ?_ (args_tuple_getitem _ _)))
  show wpAny _ _ (Builtin.Tuple.tupleItemsOf (.ref t) >>= _) _ _ s
  refine wpAny_bind (tupleItemsOf_ ht ?_)
  refine wpAny_bind (wpAny_typeOf hTs ?_)
  rw [if_pos (by decide)]
  refine wpAny_bind (sliceApplied_gen hs pl pu ?_)
  have hno : ¬ ((((sIx items.size 0 lo : Nat) : Int) == 0 && (1 : Int) == 1 && (sIx items.size items.size hi - sIx items.size 0 lo) == items.size) = true) := by
    intro q
    rw [Bool.and_eq_true, Bool.and_eq_true] at q
    have q1 : ((sIx items.size 0 lo : Nat) : Int) = 0 := eq_of_beq q.1.1
    have q2 : sIx items.size items.size hi - sIx items.size 0 lo = items.size := eq_of_beq q.2
    exact hw ⟨by omega, by omega⟩
  show wpAny _ _ (if (((sIx items.size 0 lo : Nat) : Int) == 0 && (1 : Int) == 1 && (sIx items.size items.size hi - sIx items.size 0 lo) == items.size) = true then _ else _) _ _ s
  rw [if_neg hno, pick_gen]
  first
    | exact wpAny_bind (m := Builtin.Tuple.tupleExact _) (wpAny_newObj_type (wpAny_pure ⟨_, rfl, wpAny_pure h⟩) htake)
    | exact wpAny_bind (m := Builtin.Tuple.tupleExact _) (wpAny_newObj_type (wpAny_bind (wpAny_pure (wpAny_pure ⟨_, rfl, wpAny_pure h⟩))) htake)
    | exact wpAny_bind (wpAny_bind (m := Builtin.Tuple.tupleExact _) (wpAny_newObj_type (wpAny_pure (wpAny_pure ⟨_, rfl, wpAny_pure h⟩)) htake))
    | exact wpAny_bind (wpAny_bind (m := Builtin.Tuple.tupleExact _) (wpAny_newObj_type (wpAny_pure ⟨_, rfl, wpAny_pure h⟩) htake))
end
end HT

namespace L2
open PySem PySem.Spec PyProof.Rows

/-! ### the parts of a slice -/
abbrev TO := St → Hp → (Option Int → Hp → Prop) → Prop
/-- a slice's part (left out, or an int) -/
def PO (X : Cx) (e : Option Expr) (t : TO) : Prop :=
  ∀ (pins : List (Addr × Obj)) (s : Shared) (σ : St) (H : Hp) (Q : Option Int → Hp → Prop), Inv X pins σ H s → t σ H Q →
    wpAny (model X.prog X.w) X.A (evalPart e X.env) (fun u s' => ∃ o H', Inv X pins σ H' s' ∧ IsPart u o ∧ Q o H') X.xe s
def tNoPart : TO := fun _ H Q => Q none H
def tPart (t : TE) : TO := fun σ H Q => t σ H fun x H1 => ∃ i, x = .int i ∧ Q (some i) H1

theorem intsAre_of {ns : List Int} : ∀ {us : List Value}, Vals (ns.map V.int) us → IntsAre us ns := by
  induction ns with
  | nil => intro us r; rw [List.map_nil] at r; cases r; exact .nil
  | cons n ns ih =>
    intro us r
    rw [List.map_cons] at r
    cases r with
    | cons r1 r2 =>
      obtain ⟨t, e⟩ := r1
      subst e
      exact .cons n t (ih r2)

section
variable {X : Cx} {e : Expr} {te : TE} {lo hi : Option Expr} {tl th : TO} {pos p2 : Pos}

theorem po_none : PO X none tNoPart := by
  intro pins s σ H Q I h
  rw [evalPart_none]
  exact wpAny_pure ⟨none, H, I, .none, h⟩
theorem po_some (h : PE X e te) : PO X (some e) (tPart te) := by
  intro pins s σ H Q I hw
  rw [evalPart_some]
  refine thn (h pins s σ H _ I hw) fun u s1 ⟨x, H1, I1, r1, q1⟩ => ?_
  obtain ⟨i, rfl, q⟩ := q1
  obtain ⟨t, rfl⟩ := r1
  exact ⟨some i, H1, I1, .int i t, q⟩

/-- what a slice of a value is, by values: the slice object stands at sl -/
def SlR (X : Cx) (r : V → Option Int → Option Int → Hp → VK → Prop) : Prop :=
  ∀ (pins : List (Addr × Obj)) (s : Shared) (σ : St) (H : Hp) (x : V) (v vl vu : Value) (lo hi : Option Int) (sl : Addr) (Q : VK), Inv X pins σ H s → RelV x v → s.heap.IsSliceOf sl vl vu .none → IsPart vl lo → IsPart vu hi → r x lo hi H Q →
    ∃ T id, typeLookup (.type T) "__getitem__" = pure (some (.builtin id)) ∧ s.TypeIs v T ∧ wpAny (model X.prog X.w) X.A (getItem v (.ref sl)) (EP X pins σ Q) X.xe s
theorem SlR.or {r r' : V → Option Int → Option Int → Hp → VK → Prop} (h : SlR X r) (h' : SlR X r') : SlR X (fun x lo hi H Q => r x lo hi H Q ∨ r' x lo hi H Q) := by
  intro pins s σ H x v vl vu lo hi sl Q I rx hs pl pu q
  rcases q with q | q
  · exact h pins s σ H x v vl vu lo hi sl Q I rx hs pl pu q
  · exact h' pins s σ H x v vl vu lo hi sl Q I rx hs pl pu q
def tSl (r : V → Option Int → Option Int → Hp → VK → Prop) (te : TE) (tl th : TO) : TE := fun σ H Q => te σ H fun x H1 => tl σ H1 fun l H2 => th σ H2 fun u H3 => r x l u H3 Q
/-- a[lo:hi], any a -/
theorem pe_slice {r : V → Option Int → Option Int → Hp → VK → Prop} (hr : SlR X r) (he : PE X e te) (hl : PO X lo tl) (hu : PO X hi th) : PE X (.Subscript e (.Slice lo hi none p2) pos) (tSl r te tl th) := by
  intro pins s σ H Q I h
  refine Subscript_ (thn (he pins s σ H _ I h) fun v s1 ⟨x, H1, I1, r1, q1⟩ => ?_)
  refine wpAny_Slice (thn (hl pins s1 σ H1 _ I1 q1) fun vl s2 ⟨l, H2, I2, pl, q2⟩ => thn (hu pins s2 σ H2 _ I2 q2) fun vu s3 ⟨u, H3, I3, pu, q3⟩ => ?_)
  rw [evalPart_none]
  refine wpAny_pure ?_
  have I4 : Inv X pins σ H3 { s3 with heap := s3.heap.push { cls := .type "slice", data := .fields #[vl, vu, .none] } } := I3.kept (t' := s3.toks) fun b ob q => Heap.get?_push_of_some _ q
  obtain ⟨T, id, hT, ht, hg⟩ := hr pins { s3 with heap := s3.heap.push { cls := .type "slice", data := .fields #[vl, vu, .none] } } σ H3 x v vl vu l u s3.heap.objs.size Q I4 r1 (Heap.IsSliceOf.new ..) pl pu q3
  show wpAny (model X.prog X.w) X.A (subscriptTail e (.Slice lo hi none p2) v (.ref s3.heap.objs.size)) (EP X pins σ Q) X.xe { s3 with heap := s3.heap.push { cls := .type "slice", data := .fields #[vl, vu, .none] } }
  exact tail_any (ops := [.ref s3.heap.objs.size, v]) ht hT hg (by with_unfolding_all rfl)

/-- the items of xs[lo:hi] -/
def cutV (xs : List V) (lo hi : Option Int) : List V := (xs.drop (HT.sIx xs.length 0 lo)).take (HT.sIx xs.length xs.length hi - HT.sIx xs.length 0 lo)
theorem cutV_length (xs : List V) (lo hi : Option Int) : (cutV xs lo hi).length ≤ xs.length := by
  unfold cutV
  rw [List.length_take, List.length_drop]
  omega
/-- t[lo:hi], not the whole of it (the whole would be t itself) -/
def rSlT (K : PySem.W.Frag) : V → Option Int → Option Int → Hp → VK → Prop := fun x lo hi H Q => ∃ a xs, x = .ref a ∧ SqT K H a xs ∧
  ¬ (HT.sIx xs.length 0 lo = 0 ∧ HT.sIx xs.length xs.length hi = xs.length) ∧ ∀ p, H p = none → Q (.ref p) (upd H p (.tup (cutV xs lo hi)))
theorem sl_tup : SlR X (rSlT X.K) := by
  intro pins s σ H x v vl vu lo hi sl Q I rx hs pl pu h
  obtain ⟨a, xs, rfl, hx, hw, q⟩ := h
  cases rx
  obtain ⟨its, r, ht, hz⟩ := I.tuple hx
  have hlen : its.toArray.size = xs.length := by rw [List.size_toArray]; exact r.length.symm
  refine ⟨"tuple", _, PyProof.Rows.slot_tuple_getitem.lookup, ht.typeIs, ?_⟩
  refine HT.getItem_tuple_cut ht hs pl pu (by rw [hlen]; exact hw) ?_ (by rw [hlen]; exact hz)
  rw [hlen]
  refine ⟨.ref s.heap.objs.size, _, I.laid (t' := s.toks) (o := .tup (cutV xs lo hi)) (fun b ob q => Heap.get?_push_of_some _ q) (Nat.le_refl _) ?_, rfl, q _ (I.hok.fresh (Nat.le_refl _))⟩
  exact ⟨Nat.le_trans (cutV_length xs lo hi) hz, _, (r.drop (HT.sIx xs.length 0 lo)).take (HT.sIx xs.length xs.length hi - HT.sIx xs.length 0 lo), IsTup.new _ _⟩

/-! ### t < u, t + u -/
def rLtT (K : PySem.W.Frag) : R2 := fun x y H Q => ∃ a b ns ms, x = .ref a ∧ y = .ref b ∧ SqT K H a (ns.map V.int) ∧ SqT K H b (ms.map V.int) ∧ Q (.bl (HT.lexLt ns ms)) H
/-- t + u, t not empty: u empty gives t itself -/
def rCatT (K : PySem.W.Frag) : R2 := fun x y H Q => ∃ a b xs ys, x = .ref a ∧ y = .ref b ∧ SqT K H a xs ∧ SqT K H b ys ∧ xs ≠ [] ∧ xs.length + ys.length ≤ sizeLine ∧
  (ys = [] → Q (.ref a) H) ∧ (ys ≠ [] → ∀ p, H p = none → Q (.ref p) (upd H p (.tup (xs ++ ys))))
theorem Vals.nil_iff {xs : List V} {us : List Value} (r : Vals xs us) : us = [] ↔ xs = [] := by
  cases r with
  | nil => simp
  | cons _ _ => simp
theorem op_catT : OpR X (binaryOp .Add) (rCatT X.K) := by
  intro pins s σ H x y v u Q I rx ry h
  obtain ⟨a, b, xs, ys, rfl, rfl, ha, hb, hx, hz, q1, q2⟩ := h
  cases rx
  cases ry
  obtain ⟨its, r1, p1, _⟩ := I.tuple ha
  obtain ⟨its2, r2, p2, _⟩ := I.tuple hb
  refine HT.cat_tup p1 p2 (fun z => hx (r1.nil_iff.mp z)) (fun z => ⟨.ref a, H, I, rfl, q1 (r2.nil_iff.mp z)⟩) (fun z => ?_) (by rw [← r1.length, ← r2.length]; exact hz)
  refine ⟨.ref s.heap.objs.size, _, I.laid (t' := s.toks) (o := .tup (xs ++ ys)) (fun b ob q => Heap.get?_push_of_some _ q) (Nat.le_refl _) ?_, rfl, q2 (fun w => z (r2.nil_iff.mpr w)) _ (I.hok.fresh (Nat.le_refl _))⟩
  exact ⟨by rw [List.length_append]; exact hz, _, r1.append r2, IsTup.new _ _⟩
end
end L2

namespace L2
open PySem PySem.Spec PyProof.Rows

/-! ### places -/
/-- the place that an index of any sign means -/
def ixN (n : Nat) (i : Int) : Option Nat := if 0 ≤ i then (if i < n then some i.toNat else none) else if -(n : Int) ≤ i then some (i + n).toNat else none
def atI {α : Type} (xs : List α) (i : Int) : Option α := (ixN xs.length i).bind fun j => xs[j]?
theorem ixN_seq {n : Nat} {i : Int} {j : Nat} (h : ixN n i = some j) : seqIndex? i n = some j ∧ j < n ∧ -(n : Int) ≤ i ∧ i < n := by
  unfold ixN at h
  by_cases h0 : 0 ≤ i
  · rw [if_pos h0] at h
    by_cases h1 : i < n
    · rw [if_pos h1] at h
      have e : i.toNat = j := Option.some.inj h
      exact ⟨by rw [seqIndex_of h0 h1, e], by omega, by omega, h1⟩
    · rw [if_neg h1] at h; cases h
  · rw [if_neg h0] at h
    by_cases h1 : -(n : Int) ≤ i
    · rw [if_pos h1] at h
      have e : (i + n).toNat = j := Option.some.inj h
      exact ⟨by rw [seqIndex_neg (by omega) h1, e], by omega, h1, by omega⟩
    · rw [if_neg h1] at h; cases h
theorem atI_get {α : Type} {xs : List α} {i : Int} {v : α} (h : atI xs i = some v) : ∃ j, seqIndex? i xs.length = some j ∧ xs[j]? = some v ∧ j < xs.length ∧ -(xs.length : Int) ≤ i ∧ i < xs.length := by
  unfold atI at h
  cases e : ixN xs.length i with
  | none => rw [e] at h; cases h
  | some j =>
    rw [e] at h
    obtain ⟨h1, h2, h3, h4⟩ := ixN_seq e
    exact ⟨j, h1, h, h2, h3, h4⟩
theorem atI_nat {α : Type} {xs : List α} {j : Nat} {v : α} (h : xs[j]? = some v) : atI xs (j : Int) = some v := by
  have hj : j < xs.length := (List.getElem?_eq_some_iff.mp h).1
  have e : ixN xs.length (j : Int) = some j := by
    unfold ixN
    rw [if_pos (by omega), if_pos (by omega)]; simp
  unfold atI; rw [e]; exact h
/-! ### what may be subscripted -/
/-- what stands as an index of a plain subscript -/
def PlainIx (b : Expr) : Prop := ∀ o i, subscripted b false o i = operate [o, i] (getItem o i)
/-- a subscript by values -/
def IxR (X : Cx) (r : R2) : Prop :=
  ∀ (value slice : Expr) (pins : List (Addr × Obj)) (s : Shared) (σ : St) (H : Hp) (x y : V) (v u : Value) (Q : VK), Inv X pins σ H s → RelV x v → RelV y u → r x y H Q →
    subscripted slice false v u = operate [v, u] (getItem v u) → wpAny (model X.prog X.w) X.A (subscriptTail value slice v u) (EP X pins σ Q) X.xe s
/-- a call of a builtin's method by values: the receiver, the arguments -/
def MtR (X : Cx) (id : String) (r : V → List V → Hp → VK → Prop) : Prop :=
  ∀ (pins : List (Addr × Obj)) (s : Shared) (σ : St) (H : Hp) (x : V) (xs : List V) (v : Value) (us : List Value) (Q : VK), Inv X pins σ H s → RelV x v → Vals xs us → r x xs H Q →
    wpAny (model X.prog X.w) X.A (call (.builtin id) (v :: us)) (EP X pins σ Q) X.xe s
section
variable {X : Cx} {a b : Expr} {ta tb : TE} {pos : Pos}
theorem IxR.or {r r' : R2} (h : IxR X r) (h' : IxR X r') : IxR X (fun x y H Q => r x y H Q ∨ r' x y H Q) := by
  intro value slice pins s σ H x y v u Q I rx ry q hs
  rcases q with q | q
  · exact h value slice pins s σ H x y v u Q I rx ry q hs
  · exact h' value slice pins s σ H x y v u Q I rx ry q hs
theorem MtR.or {id : String} {r r' : V → List V → Hp → VK → Prop} (h : MtR X id r) (h' : MtR X id r') : MtR X id (fun x xs H Q => r x xs H Q ∨ r' x xs H Q) := by
  intro pins s σ H x xs v us Q I rx rs q
  rcases q with q | q
  · exact h pins s σ H x xs v us Q I rx rs q
  · exact h' pins s σ H x xs v us Q I rx rs q
/-- a[b] -/
theorem pe_ix {r : R2} (hr : IxR X r) (ha : PE X a ta) (hb : PE X b tb) (hs : PlainIx b) : PE X (.Subscript a b pos) (tOp r ta tb) := by
  intro pins s σ H Q I h
  exact Subscript_ (binT ha hb I h fun v u s2 x y H2 I2 rx ry q => hr a b pins s2 σ H2 x y v u Q I2 rx ry q (hs _ _))

def rIxL (K : PySem.W.Frag) : R2 := fun x y H Q => ∃ p xs i v, x = .ref p ∧ y = .int i ∧ SqL K H p xs ∧ atI xs i = some v ∧ Q v H
def rIxT (K : PySem.W.Frag) : R2 := fun x y H Q => ∃ p xs i v, x = .ref p ∧ y = .int i ∧ SqT K H p xs ∧ atI xs i = some v ∧ Q v H
def rIxS : R2 := fun x y H Q => ∃ z i c, x = .str z ∧ y = .int i ∧ z.length ≤ sizeLine ∧ atI z.cps.toList i = some c ∧ Q (.str ⟨#[c]⟩) H
theorem ix_list : IxR X (rIxL X.K) := by
  intro value slice pins s σ H x y v u Q I rx ry h hs
  obtain ⟨p, xs, i, z, rfl, rfl, hq, he, q⟩ := h
  cases rx
  obtain ⟨t, rfl⟩ := ry
  obtain ⟨its, r, pl, hz⟩ := I.list hq
  obtain ⟨j, h1, h2, h3, h4, h5⟩ := atI_get he
  obtain ⟨w, ew, rw'⟩ := r.get h2
  have hl := r.length
  have hn := line63
  have fin : EP X pins σ Q w s := ⟨z, H, I, rw', q⟩
  by_cases h0 : 0 ≤ i
  · have hj : i.toNat = j := by
      rw [seqIndex_of h0 h5] at h1
      exact Option.some.inj h1
    exact item_listR pl.isList h0 (by omega) (by rw [hj]; simpa using ew) fin hs
  · have hj : (i + (its.toArray.size : Int)).toNat = j := by
      rw [seqIndex_neg (by omega) h4] at h1
      rw [List.size_toArray, ← hl]
      exact Option.some.inj h1
    exact subscriptTail_builtinR (x := w) pl.isList.typeIs slot_list_getitem.lookup
      (wpAny_getItem_list_neg (Q := fun r s' => r = w ∧ EP X pins σ Q r s') pl.isList (by omega) (by rw [List.size_toArray] <;> omega) (by omega) (by rw [hj]; simpa using ew) ⟨rfl, fin⟩) hs
theorem ix_tup : IxR X (rIxT X.K) := by
  intro value slice pins s σ H x y v u Q I rx ry h hs
  obtain ⟨p, xs, i, z, rfl, rfl, hq, he, q⟩ := h
  cases rx
  obtain ⟨t, rfl⟩ := ry
  obtain ⟨its, r, pl, hz⟩ := I.tuple hq
  obtain ⟨j, h1, h2, h3, h4, h5⟩ := atI_get he
  obtain ⟨w, ew, rw'⟩ := r.get h2
  have hl := r.length
  have hn := line63
  have fin : EP X pins σ Q w s := ⟨z, H, I, rw', q⟩
  exact subscriptTail_builtinR (x := w) pl.typeIs slot_tuple_getitem.lookup
    (getItem_tuple (j := j) (Q := fun r s' => r = w ∧ EP X pins σ Q r s') pl (by omega) (by omega) (by rw [List.size_toArray, ← hl]; exact h1) (by simpa using ew) ⟨rfl, fin⟩) hs
theorem ix_str : IxR X rIxS := by
  intro value slice pins s σ H x y v u Q I rx ry h hs
  obtain ⟨z, i, c, rfl, rfl, hz, he, q⟩ := h
  obtain ⟨t, rfl⟩ := rx
  obtain ⟨t', rfl⟩ := ry
  obtain ⟨j, h1, h2, h3, h4, h5⟩ := atI_get he
  have hl : z.cps.toList.length = z.length := by simp [Str.length]
  rw [hl] at h1 h4 h5
  have hn := line63
  exact tail_any (typeIs_str s z t) slot_str_getitem.lookup (getItem_str (c := c) (by
    have e1 : decide (i < -(2 ^ 63 : Int)) = false := decide_eq_false (by omega)
    have e2 : decide (i ≥ 2 ^ 63) = false := decide_eq_false (by omega)
    rw [e1, e2, Bool.or_false]) (by rw [h1]; simpa using h2) ⟨.str ⟨#[c]⟩, H, I.tok _, ⟨_, rfl⟩, q⟩) hs
/-- list, tuple or str -/
def rIx (K : PySem.W.Frag) : R2 := fun x y H Q => rIxL K x y H Q ∨ rIxT K x y H Q ∨ rIxS x y H Q
/-! ### xs[i] = v, any sign -/
theorem Inv.lst {pins : List (Addr × Obj)} {σ : St} {H : Hp} {s : Shared} {p : Addr} {xs : List V} (I : Inv X pins σ H s) (h : H p = some (.lst xs)) :
    ∃ (its : List Value) (n : Nat), Vals xs its ∧ s.heap.get? p = some { cls := .type "list", data := .seq its.toArray n } ∧ xs.length ≤ sizeLine := by
  obtain ⟨z, its, n, r, e⟩ := I.hok p _ h
  exact ⟨its, n, r, e, z⟩
def rSetL : V → V → V → Hp → (Hp → Prop) → Prop := fun o i v H Q => ∃ p xs k j, o = .ref p ∧ i = .int k ∧ H p = some (.lst xs) ∧ ixN xs.length k = some j ∧ Q (upd H p (.lst (xs.set j v)))
/-! ### slices -/
theorem slice_bounds (lo hi : Option Int) (n : Nat) : (sliceBounds lo hi none n).1 = ((HT.sIx n 0 lo : Nat) : Int) ∧ (sliceBounds lo hi none n).2.1 = ((HT.sIx n n hi : Nat) : Int) ∧ (sliceBounds lo hi none n).2.2 = 1 := by
  refine ⟨?_, ?_, rfl⟩
  · cases lo with
    | none => simp [sliceBounds, HT.sIx]
    | some i =>
      simp only [sliceBounds, HT.sIx, Option.getD_none, show (1 : Int) > 0 by decide, if_true]
      by_cases h : i < 0
      · simp only [h, if_true] <;> omega
      · simp only [h, if_false] <;> omega
  · cases hi with
    | none => simp [sliceBounds, HT.sIx]
    | some i =>
      simp only [sliceBounds, HT.sIx, Option.getD_none, show (1 : Int) > 0 by decide, if_true]
      by_cases h : i < 0
      · simp only [h, if_true] <;> omega
      · simp only [h, if_false] <;> omega
theorem slicePick_cut (its : List Value) (lo hi : Option Int) : slicePick its.toArray lo hi none = ((its.drop (HT.sIx its.length 0 lo)).take (HT.sIx its.length its.length hi - HT.sIx its.length 0 lo)).toArray := by
  obtain ⟨h1, h2, h3⟩ := slice_bounds lo hi its.toArray.size
  unfold slicePick
  rw [h1, h2, h3]
  simp only [sliceRange_one, pick_run, List.size_toArray] <;> rfl
/-- xs[lo:hi] of a list: a new list -/
def rSlL (K : PySem.W.Frag) : V → Option Int → Option Int → Hp → VK → Prop := fun x lo hi H Q => ∃ a xs, x = .ref a ∧ SqL K H a xs ∧ ∀ p, H p = none → Q (.ref p) (upd H p (.lst (cutV xs lo hi)))
theorem sl_list : SlR X (rSlL X.K) := by
  intro pins s σ H x v vl vu lo hi sl Q I rx hs pl pu h
  obtain ⟨a, xs, rfl, hx, q⟩ := h
  cases rx
  obtain ⟨its, r, ht, hz⟩ := I.list hx
  have hlen := r.length
  refine ⟨"list", _, slot_list_getitem.lookup, ht.isList.typeIs, ?_⟩
  refine wpAny_getItem_list_slice ht.isList hs pl pu .none (by simp) ?_ (by rw [List.size_toArray] <;> omega)
  rw [slicePick_cut, ← hlen]
  refine ⟨.ref s.heap.objs.size, _, I.laid (t' := s.toks) (o := .lst (cutV xs lo hi)) (fun b ob q => Heap.get?_push_of_some _ q) (Nat.le_refl _) ?_, rfl, q _ (I.hok.fresh (Nat.le_refl _))⟩
  exact ⟨Nat.le_trans (cutV_length xs lo hi) hz, _, 0, (r.drop (HT.sIx xs.length 0 lo)).take (HT.sIx xs.length xs.length hi - HT.sIx xs.length 0 lo), Heap.get?_push_size _ rfl⟩

/-! ### in, not in: flat items -/
def flatV : V → Bool
  | .non => true
  | .bl _ => true
  | .int _ => true
  | .str _ => true
  | _ => false
/-- == of flat values -/
def eqV : V → V → Bool
  | .non, .non => true
  | .bl a, .bl b => a == b
  | .bl a, .int b => (if a then 1 else 0) == b
  | .int a, .bl b => a == (if b then 1 else 0)
  | .int a, .int b => a == b
  | .str a, .str b => a == b
  | _, _ => false
/-- the items' answers, read off the values (a value's own answer does not lean on its token) -/
def eqU (x : V) (u : Value) : Bool := match u with
  | .none => eqV .non x
  | .bool b => eqV (.bl b) x
  | .int i _ => eqV (.int i) x
  | .str z _ => eqV (.str z) x
  | _ => false
def inV (x : V) (xs : List V) : Bool := xs.any fun y => eqV y x
/-- x in a list or tuple of flat items -/
def rIn (K : PySem.W.Frag) (neg : Bool) : R2 := fun x y H Q => ∃ p xs, y = .ref p ∧ (SqL K H p xs ∨ SqT K H p xs) ∧ flatV x = true ∧ xs.all flatV = true ∧ Q (.bl (if neg then !inV x xs else inV x xs)) H
/-! ### len, list(x), tuple(x) of any list or tuple that is read -/
theorem call_len_seq : CallR X (.builtin "len") (fun xs H Q => ∃ p ys, xs = [.ref p] ∧ (SqL X.K H p ys ∨ SqT X.K H p ys) ∧ Q (.int ys.length) H) := by
  intro pins s σ H xs us Q I r h
  obtain ⟨p, ys, rfl, hq, q⟩ := h
  obtain ⟨u, rfl, rx⟩ := vals1 r
  cases rx
  have hn := line63
  rcases hq with hq | hq
  · obtain ⟨its, r', pl, hz⟩ := I.list hq
    have hlen := r'.length
    exact Calls.call_len_list pl.isList (by simp only [List.size_toArray] <;> omega) ⟨.int ys.length, H, I.tok _, ⟨s.toks + 1, by rw [List.size_toArray, hlen]⟩, q⟩
  · obtain ⟨its, r', pl, hz⟩ := I.tuple hq
    have hlen := r'.length
    exact len_tuple pl (by simp only [List.size_toArray] <;> omega) ⟨.int ys.length, H, I.tok _, ⟨s.toks + 1, by rw [List.size_toArray, hlen]⟩, q⟩
theorem call_len_str : CallR X (.builtin "len") (fun xs H Q => ∃ z, xs = [.str z] ∧ z.length ≤ sizeLine ∧ Q (.int z.length) H) := by
  intro pins s σ H xs us Q I r h
  obtain ⟨z, rfl, hz, q⟩ := h
  obtain ⟨u, rfl, t, rfl⟩ := vals1 r
  have hn := line63
  exact len_str (by omega) ⟨.int z.length, H, I.tok _, ⟨_, rfl⟩, q⟩
theorem CallR.or {f : Value} {r r' : List V → Hp → VK → Prop} (h : CallR X f r) (h' : CallR X f r') : CallR X f (fun xs H Q => r xs H Q ∨ r' xs H Q) := by
  intro pins s σ H xs us Q I rs q
  rcases q with q | q
  · exact h pins s σ H xs us Q I rs q
  · exact h' pins s σ H xs us Q I rs q
theorem call_list_of : CallR X (.type "list") (fun xs H Q => ∃ p ys, xs = [.ref p] ∧ (SqL X.K H p ys ∨ SqT X.K H p ys) ∧ ∀ l, H l = none → Q (.ref l) (upd H l (.lst ys))) := by
  intro pins s σ H xs us Q I r h
  obtain ⟨p, ys, rfl, hq, q⟩ := h
  obtain ⟨u, rfl, rx⟩ := vals1 r
  cases rx
  have fin : ∀ (its : List Value), Vals ys its → ys.length ≤ sizeLine → ∀ (h' : Heap) (c' : Nat), (∀ b o', s.heap.get? b = some o' → h'.get? b = some o') →
      h'.get? s.heap.objs.size = some { cls := .type "list", dict := none, data := .seq its.toArray c', slots := #[] } → EP X pins σ Q (.ref s.heap.objs.size) { s with heap := h' } := fun its r' hz h' c' kp e =>
    ⟨.ref s.heap.objs.size, _, I.laid (t' := s.toks) kp (Nat.le_refl _) (show ObjOk X.prog X.w _ h' _ (.lst ys) from ⟨hz, its, c', r', e⟩), rfl, q _ (I.hok.fresh (Nat.le_refl _))⟩
  rcases hq with hq | hq
  · obtain ⟨its, r', pl, hz⟩ := I.list hq
    have hlen := r'.length
    obtain ⟨o, ho, hc, n, hd⟩ := pl.isList
    exact call_list_seq p (.inl rfl) ho hc hd (fun h' c' kp e => fin its r' hz h' c' kp e) (by simp only [List.size_toArray] <;> omega)
  · obtain ⟨its, r', pl, hz⟩ := I.tuple hq
    have hlen := r'.length
    obtain ⟨o, ho, hc, n, hd⟩ := pl
    exact call_list_seq p (.inr rfl) ho hc hd (fun h' c' kp e => fin its r' hz h' c' kp e) (by simp only [List.size_toArray] <;> omega)
/-! ### the call of a builtin's method: o.m(..) -/
/-- the value is of that builtin type -/
def tyV (K : PySem.W.Frag) (T : String) (x : V) (H : Hp) : Prop := match x with
  | .str _ => T = "str"
  | .int _ => T = "int"
  | .ref p => (T = "list" ∧ ∃ xs, SqL K H p xs) ∨ (T = "tuple" ∧ ∃ o, K.lookup p = some o ∧ o.cls = .type "tuple" ∧ o.dict = none) ∨
      (T = "dict" ∧ ((∃ kvs, H p = some (.dK kvs)) ∨ ∃ kvs, H p = some (.dT kvs))) ∨ (T = "set" ∧ ∃ S n, H p = some (.set S n))
  | _ => False
theorem tyV_is {pins : List (Addr × Obj)} {σ : St} {H : Hp} {s : Shared} {T : String} {x : V} {v : Value} (I : Inv X pins σ H s) (r : RelV x v) (ty : tyV X.K T x H) :
    s.TypeIs v T ∧ ∀ a, v = .ref a → ∃ ob, s.heap.get? a = some ob ∧ ob.dict = none := by
  cases x with
  | str z =>
    obtain ⟨t, rfl⟩ := r
    cases (show T = "str" from ty)
    exact ⟨typeIs_str s z t, fun _ e => nomatch e⟩
  | int i =>
    obtain ⟨t, rfl⟩ := r
    cases (show T = "int" from ty)
    exact ⟨typeIs_int s i t, fun _ e => nomatch e⟩
  | ref p =>
    cases r
    rcases ty with ⟨rfl, xs, hq⟩ | ⟨rfl, o, hk, hc, hd⟩ | ⟨rfl, hk⟩ | ⟨rfl, S, n, hk⟩
    · obtain ⟨its, _, pl, _⟩ := I.list hq
      refine ⟨pl.isList.typeIs, fun a e => ?_⟩
      cases e
      obtain ⟨o, n, e, c, hd, _⟩ := pl
      exact ⟨o, e, hd⟩
    · refine ⟨⟨o, I.kIn p o hk, hc⟩, fun a e => ?_⟩
      cases e
      exact ⟨o, I.kIn _ o hk, hd⟩
    · have z : ∃ o, s.heap.get? p = some o ∧ o.ExactDict := by
        rcases hk with ⟨kvs, hk⟩ | ⟨kvs, hk⟩
        · obtain ⟨_, _, _, _, o, _, _, e, ex, _⟩ := I.hok p _ hk
          exact ⟨o, e, ex⟩
        · obtain ⟨_, _, _, _, o, _, _, e, ex, _⟩ := I.hok p _ hk
          exact ⟨o, e, ex⟩
      obtain ⟨o, e, ex⟩ := z
      refine ⟨⟨o, e, ex.1⟩, fun a e2 => ?_⟩
      cases e2
      exact ⟨o, e, ex.2.1⟩
    · obtain ⟨o, _, _, _, e, ex, _⟩ := I.hok p _ hk
      refine ⟨⟨o, e, ex.1⟩, fun a e2 => ?_⟩
      cases e2
      exact ⟨o, e, ex.2.1⟩
  | _ => exact False.elim ty
def tBM0 (K : PySem.W.Frag) (T : String) (r : V → List V → Hp → VK → Prop) (to : TE) : TE := fun σ H Q => to σ H fun x H1 => tyV K T x H1 ∧ r x [] H1 Q
def tBM (K : PySem.W.Frag) (T : String) (r : V → List V → Hp → VK → Prop) (to : TE) (t : TA) : TE := fun σ H Q => to σ H fun x H1 => tyV K T x H1 ∧ t σ H1 fun xs H2 => r x xs H2 Q
variable {o e : Expr} {es : List Expr} {to : TE} {t : TA} {name : Str} {apos cpos : Pos} {T id : String} {r : V → List V → Hp → VK → Prop}
theorem pe_bm0 (pa : PlainAttrs T) (slot : Slot T name id) (hty : typeOf (.builtin id) = pure (.type "method_descriptor")) (hm : MtR X id r) (ho : PE X o to)
    (hbase : attributeBase o name X.env (eval o X.env) = eval o X.env := by rfl) (hline : (apos.endLine == cpos.line) = true := by rfl) : PE X (.Call (.Attribute o name apos) [] [] cpos) (tBM0 X.K T r to) := by
  intro pins s σ H Q I h
  refine wpAny_Call_method0_late hbase hline (thn (ho pins s σ H _ I h) fun v s1 ⟨x, H1, I1, r1, ty, q1⟩ => ?_)
  obtain ⟨h1, h2⟩ := tyV_is I1 r1 ty
  exact ⟨T, id, pa, slot, hty, h1, h2, Calls.callWith_builtin rfl (PySem.evalArgs_none (hm pins s1 σ H1 x [] v [] Q I1 r1 .nil q1))⟩
theorem pe_bm (pa : PlainAttrs T) (slot : Slot T name id) (hty : typeOf (.builtin id) = pure (.type "method_descriptor")) (hm : MtR X id r) (ho : PE X o to) (ha : PA X (e :: es) t)
    (hbase : attributeBase o name X.env (eval o X.env) = eval o X.env := by rfl)
    (hfew : ((backTo cpos (starEach (e :: es) X.env)).all (fun x => !x.1) && (backToKw cpos (keywordEach [] X.env)).all (fun x => x.1.isSome)
      && decide ((e :: es).length + ([] : List Keyword).length + (if ([] : List Keyword).isEmpty then 0 else 1) < 30)) = true := by rfl)
    (hline : (apos.endLine == cpos.line) = true := by rfl) (hs : starEach (e :: es) X.env = (false, eval e X.env) :: starEach es X.env := by rfl) (hplain : (backTo cpos (starEach es X.env)).any (·.1) = false := by rfl) :
    PE X (.Call (.Attribute o name apos) (e :: es) [] cpos) (tBM X.K T r to t) := by
  intro pins s σ H Q I h
  refine wpAny_Call_method_late hbase hfew hline rfl (thn (ho pins s σ H _ I h) fun v s1 ⟨x, H1, I1, r1, ty, q1⟩ => ?_)
  obtain ⟨h1, h2⟩ := tyV_is I1 r1 ty
  refine ⟨T, id, pa, slot, hty, h1, h2, ?_⟩
  have hA := ha cpos pins s1 σ H1 _ I1 q1
  rw [hs] at hA ⊢
  refine Calls.callWith_builtin (by show (false || (backTo cpos (starEach es X.env)).any (·.1)) = false; rw [hplain] <;> rfl) (Calls.evalArgs_plain ?_)
  exact thn hA fun us s2 ⟨vs, H2, I2, r2, q2⟩ => hm pins s2 σ H2 x vs v us Q I2 r1 r2 q2
/- xs.append(e), list.index on a module's tuple .. are MtR facts of 06m -/
end
end L2

namespace L2
open PySem PySem.Spec PyProof.Rows

def MtM (X : Cx) (id : String) (r : V → List V → Hp → VK → Prop) : Prop :=
  ∀ (pins : List (Addr × Obj)) (s : Shared) (σ : St) (H : Hp) (x : V) (xs : List V) (v : Value) (us : List Value) (Q : VK), Inv X pins σ H s → RelV x v → Vals xs us → r x xs H Q →
    wpAny (model X.prog X.w) X.A (call (.builtin id) (v :: us)) (EP X pins σ Q) X.xe s

/-! ### lists of values -/
theorem Vals.one : ∀ {x : V} {us : List Value}, Vals [x] us → ∃ u, us = [u] ∧ RelV x u
  | _, _, .cons r .nil => ⟨_, rfl, r⟩
theorem Vals.two : ∀ {x y : V} {us : List Value}, Vals [x, y] us → ∃ u v, us = [u, v] ∧ RelV x u ∧ RelV y v
  | _, _, _, .cons r (.cons q .nil) => ⟨_, _, rfl, r, q⟩
theorem Vals.zero : ∀ {us : List Value}, Vals [] us → us = []
  | _, .nil => rfl
theorem Vals.dropLast {xs : List V} {us : List Value} (h : Vals xs us) : Vals xs.dropLast us.dropLast := by
  induction h with
  | nil => exact .nil
  | cons r t ih =>
    cases t with
    | nil => exact .nil
    | cons q t' => exact .cons r ih
theorem Vals.eraseIdx : ∀ {xs : List V} {us : List Value} (i : Nat), Vals xs us → Vals (xs.eraseIdx i) (us.eraseIdx i)
  | _, _, _, .nil => .nil
  | _, _, 0, .cons _ t => t
  | _, _, i + 1, .cons r t => .cons r (Vals.eraseIdx i t)
theorem Vals.reverse {xs : List V} {us : List Value} (h : Vals xs us) : Vals xs.reverse us.reverse := by
  induction h with
  | nil => exact .nil
  | cons r t ih => rw [List.reverse_cons, List.reverse_cons]; exact Vals.append ih (.cons r .nil)
theorem Vals.rep {xs : List V} {us : List Value} (h : Vals xs us) : ∀ k : Nat, Vals (List.replicate k xs).flatten (List.replicate k us).flatten
  | 0 => .nil
  | k + 1 => by
    rw [List.replicate_succ, List.replicate_succ, List.flatten_cons, List.flatten_cons]
    exact Vals.append h (Vals.rep h k)
theorem foldl_rep (its : List Value) : ∀ (k : Nat) (acc : List Value),
    List.foldl (fun x1 x2 => x1 ++ x2) acc.toArray (List.replicate k its.toArray) = (acc ++ (List.replicate k its).flatten).toArray
  | 0, acc => by simp
  | k + 1, acc => by
    have e : acc.toArray ++ its.toArray = (acc ++ its).toArray := by simp
    have e2 : (acc ++ its) ++ (List.replicate k its).flatten = acc ++ (List.replicate (k + 1) its).flatten := by
      rw [List.replicate_succ, List.flatten_cons, List.append_assoc]
    rw [← e2, ← foldl_rep its k (acc ++ its), ← e, List.replicate_succ, List.foldl_cons]

section
variable {X : Cx} {pins : List (Addr × Obj)} {σ : St} {H : Hp} {s : Shared} {l b : Addr} {xs ys zs : List V}

/-! ### the two steps: a tracked list is rewritten, a new list is laid -/
theorem Inv.lset {its its' : List Value} {n : Nat} {f : Array Value → Array Value} {t' : Nat} (I : Inv X pins σ H s) (hH : H l = some (.lst xs))
    (e : s.heap.get? l = some { cls := .type "list", data := .seq its.toArray n }) (hf : f its.toArray = its'.toArray) (hv : Vals ys its') (hz : ys.length ≤ sizeLine) :
    Inv X pins σ (upd H l (.lst ys)) { s with heap := s.heap.update l (Obj.mapSeq f), toks := t' } := by
  have q := PySem.IsL.update e f
  rw [hf] at q
  refine I.write (x := l) (e := l) (by rw [hH]; exact trivial) (.inl rfl) (fun b' u hb hu => (Heap.get?_update_other s.heap (Obj.mapSeq f) (Ne.symm hb)).trans hu) ⟨_, q⟩ ?_
  exact ⟨hz, its', _, hv, q⟩
theorem Inv.lnew {its : List Value} {t' : Nat} (I : Inv X pins σ H s) (hv : Vals ys its) (hz : ys.length ≤ sizeLine) :
    Inv X pins σ (upd H s.heap.objs.size (.lst ys)) { s with heap := s.heap.push { cls := .type "list", data := .seq its.toArray }, toks := t' } :=
  I.laid (fun _ _ q => Heap.get?_push_of_some _ q) (Nat.le_refl _) ⟨hz, its, 0, hv, Heap.get?_push_size _ rfl⟩
theorem Inv.fresh (I : Inv X pins σ H s) : H s.heap.objs.size = none := I.hok.fresh (Nat.le_refl _)
theorem Inv.lstM (I : Inv X pins σ H s) (hH : H l = some (.lst xs)) : xs.length ≤ sizeLine ∧ ∃ (its : List Value) (n : Nat), Vals xs its ∧ xs.length = its.length ∧ s.heap.get? l = some { cls := .type "list", data := .seq its.toArray n } := by
  obtain ⟨z, its, n, r, e⟩ := I.hok l _ hH
  exact ⟨z, its, n, r, r.length, e⟩

theorem notLongL {n : Nat} (h : n ≤ sizeLine) : Builtin.List.listTooLong n = false := by
  unfold Builtin.List.listTooLong
  exact decide_eq_false (by omega)
end

section
variable {X : Cx}

/-! ### methods -/
def rAppend : V → List V → Hp → VK → Prop := fun x vs H Q => ∃ l xs y, x = .ref l ∧ vs = [y] ∧ H l = some (.lst xs) ∧ xs.length < sizeLine ∧ Q .non (upd H l (.lst (xs ++ [y])))
theorem mt_append : MtM X "list.append" rAppend := by
  intro pins s σ H x vs v us Q I rx rv h
  obtain ⟨l, xs, y, rfl, rfl, hH, hz, q⟩ := h
  cases rx
  obtain ⟨u, rfl, ru⟩ := rv.one
  obtain ⟨z, its, n, r, hl, e⟩ := I.lstM hH
  refine call_meets F.slot_list_append ⟨_, e, rfl⟩ F.entry_list_append (F.args_list_append_2 _ _) (PySem.list_append l its.toArray n u (by rw [List.size_toArray]; omega)) ⟨e, ?_⟩
  refine ⟨.non, _, I.lset (its' := its ++ [u]) hH e (by simp) (r.append (.cons ru .nil)) ?_, rfl, q⟩
  rw [List.length_append, List.length_singleton]
  omega

def rExtend : V → List V → Hp → VK → Prop := fun x vs H Q => ∃ l b xs zs, x = .ref l ∧ vs = [.ref b] ∧ H l = some (.lst xs) ∧ H b = some (.lst zs) ∧ xs.length + zs.length ≤ sizeLine ∧ Q .non (upd H l (.lst (xs ++ zs)))
def rPop : V → List V → Hp → VK → Prop := fun x vs H Q => ∃ l xs y, x = .ref l ∧ vs = [] ∧ H l = some (.lst xs) ∧ xs[xs.length - 1]? = some y ∧ Q y (upd H l (.lst xs.dropLast))
def rPopAt : V → List V → Hp → VK → Prop := fun x vs H Q => ∃ l xs i k y, x = .ref l ∧ vs = [.int i] ∧ H l = some (.lst xs) ∧ -(2 ^ 63) ≤ i ∧ i < 2 ^ 63 ∧ seqIndex? i xs.length = some k ∧ xs[k]? = some y ∧ Q y (upd H l (.lst (xs.eraseIdx k)))
def rReverse : V → List V → Hp → VK → Prop := fun x vs H Q => ∃ l xs, x = .ref l ∧ vs = [] ∧ H l = some (.lst xs) ∧ Q .non (upd H l (.lst xs.reverse))
def rClear : V → List V → Hp → VK → Prop := fun x vs H Q => ∃ l xs, x = .ref l ∧ vs = [] ∧ H l = some (.lst xs) ∧ Q .non (upd H l (.lst []))
/-! ### list + list, list += list, list * int -/
def rCat : R2 := fun x y H Q => ∃ l b xs zs, x = .ref l ∧ y = .ref b ∧ H l = some (.lst xs) ∧ H b = some (.lst zs) ∧ xs.length + zs.length ≤ sizeLine ∧ ∀ p, H p = none → Q (.ref p) (upd H p (.lst (xs ++ zs)))
theorem op_cat : OpR X (binaryOp .Add) rCat := by
  intro pins s σ H x y v u Q I rx ry h
  obtain ⟨l, b, xs, zs, rfl, rfl, hH, hB, hz, q⟩ := h
  cases rx
  cases ry
  obtain ⟨z, its, n, r, hl, e⟩ := I.lstM hH
  obtain ⟨z2, its2, n2, r2, hl2, e2⟩ := I.lstM hB
  refine PySem.P.add_list e e2 ?_ (by rw [List.size_toArray, List.size_toArray]; omega)
  have ea : its.toArray ++ its2.toArray = (its ++ its2).toArray := by simp
  rw [ea]
  exact ⟨.ref _, _, I.lnew (t' := s.toks) (r.append r2) (by rw [List.length_append]; omega), rfl, q _ I.fresh⟩
/-- a list times an int (a negative one is nothing) -/
def rRep : R2 := fun x y H Q => ∃ l k xs, x = .ref l ∧ y = .int k ∧ H l = some (.lst xs) ∧ -(2 ^ 63) ≤ k ∧ k < 2 ^ 63 ∧ xs.length * k.toNat ≤ sizeLine ∧
  ∀ p, H p = none → Q (.ref p) (upd H p (.lst (List.replicate k.toNat xs).flatten))
theorem len_rep {α : Type} (xs : List α) (k : Nat) : (List.replicate k xs).flatten.length = k * xs.length := by
  induction k with
  | zero => simp
  | succ k ih => rw [List.replicate_succ, List.flatten_cons, List.length_append, ih, Nat.succ_mul, Nat.add_comm]
theorem op_rep : OpR X (binaryOp .Mult) rRep := by
  intro pins s σ H x y v u Q I rx ry h
  obtain ⟨l, k, xs, rfl, rfl, hH, h1, h2, hz, q⟩ := h
  cases rx
  obtain ⟨t, rfl⟩ := ry
  obtain ⟨z, its, n, r, hl, e⟩ := I.lstM hH
  have hlen : its.toArray.size * k.toNat ≤ sizeLine := by rw [List.size_toArray, ← hl]; exact hz
  have hcap : ¬ its.toArray.size * k.toNat > (2 ^ 63 - 1) / 8 := by
    have : (sizeLine : Nat) ≤ (2 ^ 63 - 1) / 8 := by decide
    omega
  have hfit : ¬ (!Builtin.List.listFitsIndex k) = true := by
    rw [fitsIndex_both h1 h2]
    exact Bool.false_ne_true
  have hlong : ¬ Builtin.List.listTooLong (its.toArray.size * k.toNat) = true := by
    rw [notLongL hlen]
    exact Bool.false_ne_true
  have hnew : List.foldl (fun x1 x2 => x1 ++ x2) #[] (List.replicate (if its.toArray.isEmpty = true then 0 else k.toNat) its.toArray) = (List.replicate k.toNat its).flatten.toArray := by
    have f0 : ∀ m : Nat, List.foldl (fun x1 x2 => x1 ++ x2) #[] (List.replicate m its.toArray) = (List.replicate m its).flatten.toArray := fun m => by
      have := foldl_rep its m []
      rw [List.nil_append] at this
      exact this
    rw [f0]
    cases its with
    | nil => simp
    | cons a r' => rw [if_neg (by simp)]
  refine wpAny_binaryOp_repeat_ref (T := "list") (U := "int") (by decide) ⟨_, e, rfl⟩ (fun s' => typeIs_int s' k t) noFill_list_mul F.fills_int_mul F.slot_int_rmul repeat_list F.slot_int_index.lookup
    (call_meets F.slot_int_rmul (typeIs_int s k t) F.entry_int_rmul (F.args_int_rmul_2 _ _) (int___rmul___int_list k t l its.toArray n)
      ⟨e, rfl, ⟨_, e, rfl⟩, call_meets F.slot_list_mul ⟨_, e, rfl⟩ F.entry_list_mul (F.args_list_mul_2 _ _) (AutoListH.list___mul___list_int_3 l its.toArray n k t hfit hcap hlong) ⟨e, ?_⟩⟩)
  rw [hnew]
  exact ⟨.ref _, _, I.lnew (t' := s.toks) (r.rep k.toNat) (by rw [len_rep, Nat.mul_comm]; exact hz), rfl, q _ I.fresh⟩

/-! ### del xs[i] -/
end

/-! ### xs[a:b] = ys -/
section
variable {prog : Program} {w : World} {A : Around} {E : Value → Shared → Prop} {s : Shared}
end

section
variable {X : Cx}
end
end L2

namespace L2
open PySem PySem.Spec PyProof.Rows

/-! ### lists of pairs as tables -/
section
variable {κ : Type} [DecidableEq κ]
def valV (kvs : List (κ × V)) (k : κ) : Option V := (kvs.find? fun kv => decide (kv.1 = k)).map (·.2)
/-- in its place, or at the end -/
def putK (kvs : List (κ × V)) (k : κ) (v : V) : List (κ × V) :=
  if (kvs.any fun kv => decide (kv.1 = k)) = true then kvs.map (fun kv => if kv.1 = k then (kv.1, v) else kv) else kvs ++ [(k, v)]
def dropK (kvs : List (κ × V)) (k : κ) : List (κ × V) := kvs.filter fun kv => decide (kv.1 ≠ k)

theorem valV_pos {p : κ × V} {r : List (κ × V)} {k : κ} (e : p.1 = k) : valV (p :: r) k = some p.2 := by simp [valV, List.find?_cons, e]
theorem valV_neg {p : κ × V} {r : List (κ × V)} {k : κ} (e : ¬ p.1 = k) : valV (p :: r) k = valV r k := by simp [valV, List.find?_cons, e]
theorem valV_any (k : κ) : ∀ kvs : List (κ × V), (kvs.any fun kv => decide (kv.1 = k)) = (valV kvs k).isSome
  | [] => rfl
  | p :: r => by
    rw [List.any_cons]
    by_cases e : p.1 = k
    · simp only [valV_pos e, decide_eq_true e, Bool.true_or, Option.isSome_some]
    · rw [valV_neg e, decide_eq_false e, Bool.false_or]; exact valV_any k r
theorem valV_map (k j : κ) (y : V) : ∀ kvs : List (κ × V), valV (kvs.map fun kv => if kv.1 = k then (kv.1, y) else kv) j = (valV kvs j).map fun x => if j = k then y else x
  | [] => rfl
  | p :: r => by
    have ih := valV_map k j y r
    rw [List.map_cons]
    by_cases h : p.1 = k
    · rw [if_pos h]
      by_cases e : p.1 = j
      · rw [valV_pos (p := (p.1, y)) e, valV_pos e, Option.map_some, if_pos (e.symm.trans h)]
      · rw [valV_neg (p := (p.1, y)) e, valV_neg e, ih]
    · rw [if_neg h]
      by_cases e : p.1 = j
      · rw [valV_pos (p := p) e, valV_pos e, Option.map_some, if_neg (fun z => h (e.trans z))]
      · rw [valV_neg (p := p) e, valV_neg e, ih]
theorem valV_snoc (k j : κ) (y : V) : ∀ kvs : List (κ × V), valV kvs k = none → valV (kvs ++ [(k, y)]) j = if j = k then some y else valV kvs j
  | [], _ => by
    by_cases e : k = j
    · rw [if_pos e.symm]; exact valV_pos (p := (k, y)) e
    · rw [if_neg (fun z => e z.symm)]; exact valV_neg (p := (k, y)) e
  | p :: r, hn => by
    rw [List.cons_append]
    have hk : ¬ p.1 = k := fun z => by rw [valV_pos z] at hn; cases hn
    rw [valV_neg hk] at hn
    have ih := valV_snoc k j y r hn
    by_cases e : p.1 = j
    · rw [valV_pos e, valV_pos e, if_neg (fun z => hk (e.trans z))]
    · rw [valV_neg e, valV_neg e, ih]
theorem valV_put (kvs : List (κ × V)) (k j : κ) (y : V) : valV (putK kvs k y) j = if j = k then some y else valV kvs j := by
  unfold putK
  by_cases a : (kvs.any fun kv => decide (kv.1 = k)) = true
  · rw [if_pos a, valV_map]
    rw [valV_any] at a
    by_cases e : j = k
    · obtain ⟨x, hx⟩ := Option.isSome_iff_exists.mp a
      rw [if_pos e, e, hx, Option.map_some, if_pos rfl]
    · rw [if_neg e]
      cases valV kvs j with
      | none => rfl
      | some x => rw [Option.map_some, if_neg e]
  · rw [if_neg a]
    refine valV_snoc k j y kvs ?_
    rw [valV_any] at a
    cases q : valV kvs k with
    | none => rfl
    | some x => rw [q] at a; exact (a rfl).elim
theorem length_putK (kvs : List (κ × V)) (k : κ) (v : V) : (putK kvs k v).length ≤ kvs.length + 1 := by
  unfold putK
  split
  · rw [List.length_map]; omega
  · rw [List.length_append, List.length_cons, List.length_nil]; omega
theorem putK_new {kvs : List (κ × V)} {k : κ} (v : V) (h : valV kvs k = none) : putK kvs k v = kvs ++ [(k, v)] := by
  unfold putK
  rw [valV_any, h]
  exact if_neg (by decide)

theorem RelO.isSome_eq {o : Option V} {u : Option Value} (r : RelO o u) : o.isSome = u.isSome := by
  cases o with
  | none => cases u with
    | none => rfl
    | some _ => exact (show False from r).elim
  | some _ => cases u with
    | none => exact (show False from r).elim
    | some _ => rfl
theorem RelO.getD {o : Option V} {u : Option Value} {d : V} {d' : Value} (r : RelO o u) (rd : RelV d d') : RelV (o.getD d) (u.getD d') := by
  cases o with
  | none => cases u with
    | none => exact rd
    | some _ => exact (show False from r).elim
  | some _ => cases u with
    | none => exact (show False from r).elim
    | some _ => exact r

/-- raw tables of the same keys -/
theorem KV.val {kvs : List (κ × V)} {vs : List (κ × Value)} (r : KV kvs vs) (k : κ) : RelO (valV kvs k) (valueAt vs k) := by
  unfold KV at r
  induction r with
  | nil => exact True.intro
  | @cons p q ps qs h t ih =>
    obtain ⟨h1, h2⟩ := h
    by_cases e : p.1 = k
    · have e' : q.1 = k := h1.symm.trans e
      have b : valueAt (q :: qs) k = some q.2 := by simp [valueAt, List.find?_cons, e']
      rw [valV_pos e, b]; exact h2
    · have e' : ¬ q.1 = k := fun z => e (h1.trans z)
      have b : valueAt (q :: qs) k = valueAt qs k := by simp [valueAt, List.find?_cons, e']
      rw [valV_neg e, b]; exact ih
theorem KV.any {kvs : List (κ × V)} {vs : List (κ × Value)} (r : KV kvs vs) (k : κ) : (kvs.any fun kv => decide (kv.1 = k)) = vs.any fun kv => decide (kv.1 = k) := by
  unfold KV at r
  induction r with
  | nil => rfl
  | cons h t ih => rw [List.any_cons, List.any_cons, ih, h.1]
theorem KV.repl {kvs : List (κ × V)} {vs : List (κ × Value)} (r : KV kvs vs) (k : κ) {y : V} {u : Value} (ry : RelV y u) :
    KV (kvs.map fun kv => if kv.1 = k then (kv.1, y) else kv) (vs.map fun kv => if kv.1 = k then (kv.1, u) else kv) := by
  unfold KV at r ⊢
  induction r with
  | nil => exact .nil
  | @cons p q ps qs h t ih =>
    rw [List.map_cons, List.map_cons]
    refine .cons ?_ ih
    obtain ⟨h1, h2⟩ := h
    by_cases e : p.1 = k
    · rw [if_pos e, if_pos (h1.symm.trans e)]; exact ⟨h1, ry⟩
    · rw [if_neg e, if_neg (fun z => e (h1.trans z))]; exact ⟨h1, h2⟩
theorem KV.put {kvs : List (κ × V)} {vs : List (κ × Value)} (r : KV kvs vs) (k : κ) {y : V} {u : Value} (ry : RelV y u) : KV (putK kvs k y) (stored vs k u) := by
  unfold putK stored
  rw [r.any k]
  by_cases e : (vs.any fun kv => decide (kv.1 = k)) = true
  · rw [if_pos e, if_pos e]; exact r.repl k ry
  · rw [if_neg e, if_neg e]; exact Paired.snoc r ⟨rfl, ry⟩
theorem KV.drop {kvs : List (κ × V)} {vs : List (κ × Value)} (r : KV kvs vs) (k : κ) : KV (dropK kvs k) (without vs k) := by
  unfold KV at r ⊢
  unfold dropK without
  induction r with
  | nil => exact .nil
  | @cons p q ps qs h t ih =>
    obtain ⟨h1, h2⟩ := h
    rw [List.filter_cons, List.filter_cons]
    by_cases e : p.1 = k
    · have a : ¬ decide (p.1 ≠ k) = true := by simp [e]
      have b : ¬ decide (q.1 ≠ k) = true := by simp [h1.symm.trans e]
      rw [if_neg a, if_neg b]; exact ih
    · have e' : ¬ q.1 = k := fun z => e (h1.trans z)
      have a : decide (p.1 ≠ k) = true := by simp [e]
      have b : decide (q.1 ≠ k) = true := by simp [e']
      rw [if_pos a, if_pos b]; exact .cons ⟨h1, h2⟩ ih
theorem KV.keys {kvs : List (κ × V)} {vs : List (κ × Value)} (r : KV kvs vs) : kvs.map (·.1) = vs.map (·.1) := by
  unfold KV at r
  induction r with
  | nil => rfl
  | cons h t ih => rw [List.map_cons, List.map_cons, ih, h.1]
theorem KV.length {kvs : List (κ × V)} {vs : List (κ × Value)} (r : KV kvs vs) : kvs.length = vs.length := Paired.length r
end

/-! ### a tracked dict, its keys ints and texts or tuples of these -/
theorem kV_is {P : Program} {w : World} {k : Key} {u : Value} (r : RelV (kV k) u) : (mixKind P w).is k u = true := by
  cases k with
  | inl i => obtain ⟨t, e⟩ := (show ∃ t, u = Value.int i t from r); subst e; exact mixKind_int P w i t
  | inr x => obtain ⟨t, e⟩ := (show ∃ t, u = Value.str x t from r); subst e; exact mixKind_str P w x t
theorem kV_inj {a b : Key} (e : kV a = kV b) : a = b := by
  cases a with
  | inl i => cases b with
    | inl j => have e' : V.int i = V.int j := e; injection e' with e'; rw [e']
    | inr y => exact nomatch (show V.int i = V.str y from e)
  | inr x => cases b with
    | inl j => exact nomatch (show V.str x = V.int j from e)
    | inr y => have e' : V.str x = V.str y := e; injection e' with e'; rw [e']
theorem items_are {P : Program} {w : World} : ∀ {ks : List Key} {us : List Value}, Vals (ks.map kV) us → ItemsAre (mixKind P w) ks us
  | [], _, r => by rw [List.map_nil] at r; cases r; exact .nil
  | k :: ks, _, r => by
    rw [List.map_cons] at r
    cases r with
    | cons h t => exact .cons (kV_is h) (items_are t)

/-- raw entries of a dict with tuple keys -/
abbrev KT (H : Hp) : List (List Key × V) → List (List Key × Addr × Value) → Prop := Paired fun p q => p.1 = q.1 ∧ H q.2.1 = some (.tup (p.1.map kV)) ∧ RelV p.2 q.2.2
theorem KT.val {H : Hp} {kvs : List (List Key × V)} {xs : List (List Key × Addr × Value)} (r : KT H kvs xs) (k : List Key) : RelO (valV kvs k) ((atKey xs k).map (·.2)) := by
  induction r with
  | nil => exact True.intro
  | @cons p q ps qs h t ih =>
    obtain ⟨h1, _, h2⟩ := h
    by_cases e : p.1 = k
    · have e' : q.1 = k := h1.symm.trans e
      have b : atKey (q :: qs) k = some q.2 := by simp [atKey, List.find?_cons, e']
      rw [valV_pos e, b]; exact h2
    · have e' : ¬ q.1 = k := fun z => e (h1.trans z)
      have b : atKey (q :: qs) k = atKey qs k := by simp [atKey, List.find?_cons, e']
      rw [valV_neg e, b]; exact ih
theorem KT.repl {H : Hp} {kvs : List (List Key × V)} {xs : List (List Key × Addr × Value)} (r : KT H kvs xs) (k : List Key) {y : V} {u : Value} (ry : RelV y u) :
    KT H (kvs.map fun kv => if kv.1 = k then (kv.1, y) else kv) (xs.map (putAt k u)) := by
  induction r with
  | nil => exact .nil
  | @cons p q ps qs h t ih =>
    rw [List.map_cons, List.map_cons]
    refine .cons ?_ ih
    obtain ⟨h1, h2, h3⟩ := h
    unfold putAt
    by_cases e : p.1 = k
    · rw [if_pos e, if_pos (h1.symm.trans e)]; exact ⟨h1, h2, ry⟩
    · rw [if_neg e, if_neg (fun z => e (h1.trans z))]; exact ⟨h1, h2, h3⟩
theorem KT.put {H : Hp} {kvs : List (List Key × V)} {xs : List (List Key × Addr × Value)} (r : KT H kvs xs) (k : List Key) {b : Addr} {y : V} {u : Value} (hb : H b = some (.tup (k.map kV))) (ry : RelV y u) :
    KT H (putK kvs k y) (storedH xs k b u) := by
  have e : (kvs.any fun kv => decide (kv.1 = k)) = (atKey xs k).isSome := by
    rw [valV_any, (r.val k).isSome_eq, Option.isSome_map]
  unfold putK storedH
  rw [e]
  by_cases q : (atKey xs k).isSome = true
  · rw [if_pos q, if_pos q]; exact r.repl k ry
  · rw [if_neg q, if_neg q]; exact Paired.snoc r ⟨rfl, hb, ry⟩
theorem KT.keeps {H H' : Hp} {kvs : List (List Key × V)} {xs : List (List Key × Addr × Value)} (r : KT H kvs xs) (ht : ∀ b ys, H b = some (.tup ys) → H' b = some (.tup ys)) : KT H' kvs xs :=
  Paired.mapP r fun _ _ z => ⟨z.1, ht _ _ z.2.1, z.2.2⟩

section
variable {P : Program} {w : World} {H : Hp} {h : Heap} {a : Addr}
theorem rd_of {u : HO} (ok : HOk P w H h) (e : Rd H a u) : ObjOk P w H h a u := e.ok ok
theorem dk_rd {kvs : List (Key × V)} (ok : HOk P w H h) (e : Rd H a (.dK kvs)) : kvs.length ≤ sizeLine ∧ (a == sysModules) = false ∧ ∃ vs, KV kvs vs ∧ h.DictOf (mixKind P w) a vs :=
  show ObjOk P w H h a (.dK kvs) from rd_of ok e
theorem dk_of {kvs : List (Key × V)} (ok : HOk P w H h) (e : H a = some (.dK kvs)) : kvs.length ≤ sizeLine ∧ (a == sysModules) = false ∧ ∃ vs, KV kvs vs ∧ h.DictOf (mixKind P w) a vs := dk_rd ok (.inl e)
/-- a tracked tuple of ints and texts is a key -/
theorem key_of {ks : List Key} (ok : HOk P w H h) (e : H a = some (.tup (ks.map kV))) : (tupleKind (mixKind P w)).is h ks a := by
  obtain ⟨_, its, r, o, h1, h2, n, h3⟩ := (show ObjOk P w H h a (.tup (ks.map kV)) from ok a _ e)
  exact ⟨o, its.toArray, n, h1, h2, h3, by simpa using items_are r⟩
theorem dt_rd {kvs : List (List Key × V)} (ok : HOk P w H h) (e : Rd H a (.dT kvs)) : kvs.length ≤ sizeLine ∧ (a == sysModules) = false ∧
    ∃ xs, KT H kvs xs ∧ h.DictOfH (tupleKind (mixKind P w)) a xs := by
  obtain ⟨z, y, xs, r, o, es, ep, h1, h2, h3, h4, h5⟩ := (show ObjOk P w H h a (.dT kvs) from rd_of ok e)
  refine ⟨z, y, xs, r, o, es, ep, h1, h2, h3, h4, fun x hx => ?_, h5⟩
  have all : ∀ {l : List (List Key × V)} {m : List (List Key × Addr × Value)}, KT H l m → ∀ x ∈ m, (tupleKind (mixKind P w)).is h x.1 x.2.1 := by
    intro l m q
    induction q with
    | nil => intro x hx; exact nomatch hx
    | @cons p q ps qs hq t ih =>
      intro x hx
      rcases List.mem_cons.mp hx with e | hx
      · subst e
        exact key_of ok (by rw [← hq.1]; exact hq.2.1)
      · exact ih x hx
  exact all r x hx
theorem dt_of {kvs : List (List Key × V)} (ok : HOk P w H h) (e : H a = some (.dT kvs)) : kvs.length ≤ sizeLine ∧ (a == sysModules) = false ∧
    ∃ xs, KT H kvs xs ∧ h.DictOfH (tupleKind (mixKind P w)) a xs := dt_rd ok (.inl e)
end

/-- what the dict at a holds at the key y -/
def DGet (H : Hp) (a : Addr) (y : V) (r : Option V) : Prop :=
  (∃ kvs k, Rd H a (.dK kvs) ∧ y = kV k ∧ r = valV kvs k) ∨ ∃ kvs k b, Rd H a (.dT kvs) ∧ y = .ref b ∧ H b = some (.tup (k.map kV)) ∧ r = valV kvs k
/-- the heap behind a[y] = v -/
def DPut (H : Hp) (a : Addr) (y v : V) (H' : Hp) : Prop :=
  (∃ kvs k, H a = some (.dK kvs) ∧ y = kV k ∧ kvs.length < sizeLine ∧ H' = upd H a (.dK (putK kvs k v))) ∨
  ∃ kvs k b, H a = some (.dT kvs) ∧ y = .ref b ∧ H b = some (.tup (k.map kV)) ∧ kvs.length < sizeLine ∧ H' = upd H a (.dT (putK kvs k v))
theorem DGet.k {H : Hp} {a : Addr} {kvs : List (Key × V)} {k : Key} (e : H a = some (.dK kvs)) : DGet H a (kV k) (valV kvs k) := .inl ⟨kvs, k, .inl e, rfl, rfl⟩
theorem DGet.t {H : Hp} {a b : Addr} {kvs : List (List Key × V)} {k : List Key} (e : H a = some (.dT kvs)) (eb : H b = some (.tup (k.map kV))) : DGet H a (.ref b) (valV kvs k) := .inr ⟨kvs, k, b, .inl e, rfl, eb, rfl⟩
theorem DPut.k {H : Hp} {a : Addr} {kvs : List (Key × V)} {k : Key} {v : V} (e : H a = some (.dK kvs)) (hl : kvs.length < sizeLine) : DPut H a (kV k) v (upd H a (.dK (putK kvs k v))) := .inl ⟨kvs, k, e, rfl, hl, rfl⟩
theorem DPut.t {H : Hp} {a b : Addr} {kvs : List (List Key × V)} {k : List Key} {v : V} (e : H a = some (.dT kvs)) (eb : H b = some (.tup (k.map kV))) (hl : kvs.length < sizeLine) :
    DPut H a (.ref b) v (upd H a (.dT (putK kvs k v))) := .inr ⟨kvs, k, b, e, rfl, eb, hl, rfl⟩

section
variable {X : Cx} {pins : List (Addr × Obj)} {σ : St} {H : Hp} {s : Shared} {a : Addr} {y v : V} {u r : Value} {o : Option V} {A : Around} {E : Value → Shared → Prop}

theorem Inv.big (I : Inv X pins σ H s) : sysModules < s.heap.objs.size := by
  have h : mainGlobals < s.heap.objs.size := (I.mod.glob.keeps I.bk).lt
  exact Nat.lt_trans (by decide) h

/-- d[y], there -/
theorem d_getItem {Q : Value → Shared → Prop} (hu : A.units + 1 < cLine) (I : Inv X pins σ H s) (g : DGet H a y (some v)) (ry : RelV y u) (h : ∀ w' s', Inv X pins σ H s' → RelV v w' → Q w' s') :
    wpAny (model X.prog X.w) A (getItem (.ref a) u) Q E s := by
  rcases g with ⟨kvs, k, e, ey, l⟩ | ⟨kvs, k, b, e, ey, eb, l⟩
  · subst ey
    obtain ⟨z, hd, vs, rel, dd⟩ := dk_rd I.hok e
    obtain ⟨w', hw, rw'⟩ := RelO.some_of (v := v) (o := valueAt vs k) (by rw [l]; exact rel.val k)
    exact wpAny_getItem_of (kV_is ry) dd.mapOf hw (h w' _ (I.tok _) rw')
  · subst ey
    cases (show u = Value.ref b from ry)
    obtain ⟨z, hd, xs, rel, dd⟩ := dt_rd I.hok e
    obtain ⟨w', hw, rw'⟩ := RelO.some_of (v := v) (o := (atKey xs k).map (·.2)) (by rw [l]; exact rel.val k)
    obtain ⟨p, hp, hp2⟩ := Option.map_eq_some_iff.mp hw
    refine wpAny_getItem_heap (tupleKind_room_in1 hu) (key_of I.hok eb) dd hp ?_
    rw [hp2]
    exact h w' _ (I.tok _) rw'
/-- y in d -/
theorem d_in {Q : Value → Shared → Prop} (hu : A.units + 1 < cLine) (I : Inv X pins σ H s) (g : DGet H a y o) (ry : RelV y u) (h : ∀ s', Inv X pins σ H s' → Q (.bool o.isSome) s') :
    wpAny (model X.prog X.w) A (compareOp .In u (.ref a)) Q E s := by
  rcases g with ⟨kvs, k, e, ey, l⟩ | ⟨kvs, k, b, e, ey, eb, l⟩
  · subst ey
    obtain ⟨z, hd, vs, rel, dd⟩ := dk_rd I.hok e
    refine wpAny_in_of (kV_is ry) hd dd.mapOf ?_
    rw [← (rel.val k).isSome_eq, ← l]
    exact h _ (I.tok _)
  · subst ey
    cases (show u = Value.ref b from ry)
    obtain ⟨z, hd, xs, rel, dd⟩ := dt_rd I.hok e
    refine wpAny_in_heap (tupleKind_room_in1 hu) (key_of I.hok eb) hd dd ?_
    have q := (rel.val k).isSome_eq
    rw [Option.isSome_map] at q
    rw [← q, ← l]
    exact h _ (I.tok _)
theorem d_notIn {Q : Value → Shared → Prop} (hu : A.units + 1 < cLine) (I : Inv X pins σ H s) (g : DGet H a y o) (ry : RelV y u) (h : ∀ s', Inv X pins σ H s' → Q (.bool (!o.isSome)) s') :
    wpAny (model X.prog X.w) A (compareOp .NotIn u (.ref a)) Q E s := by
  rcases g with ⟨kvs, k, e, ey, l⟩ | ⟨kvs, k, b, e, ey, eb, l⟩
  · subst ey
    obtain ⟨z, hd, vs, rel, dd⟩ := dk_rd I.hok e
    refine wpAny_notIn_of (kV_is ry) hd dd.mapOf ?_
    rw [← (rel.val k).isSome_eq, ← l]
    exact h _ (I.tok _)
  · subst ey
    cases (show u = Value.ref b from ry)
    obtain ⟨z, hd, xs, rel, dd⟩ := dt_rd I.hok e
    refine wpAny_notIn_heap (tupleKind_room_in1 hu) (key_of I.hok eb) hd dd ?_
    have q := (rel.val k).isSome_eq
    rw [Option.isSome_map] at q
    rw [← q, ← l]
    exact h _ (I.tok _)
/-- a dict's object is replaced -/
theorem d_write {h' : Heap} {t' : Nat} {ob : HO} (I : Inv X pins σ H s) (mu : Mut (H a)) (hs : Heap.SameBut a s.heap h') (he : ∃ q, h'.get? a = some q) (new : ObjOk X.prog X.w (upd H a ob) h' a ob) :
    Inv X pins σ (upd H a ob) { s with heap := h', toks := t' } :=
  I.write (x := a) (e := a) mu (.inl rfl) (fun b q hb z => (hs.2 b hb).trans z) he new
theorem dk_new {P : Program} {w : World} {H' : Hp} {h' : Heap} {kvs : List (Key × V)} {vs : List (Key × Value)} (z : kvs.length ≤ sizeLine) (hd : (a == sysModules) = false) (rel : KV kvs vs) (dd : h'.DictOf (mixKind P w) a vs) :
    ObjOk P w H' h' a (.dK kvs) := ⟨z, hd, vs, rel, dd⟩
/-- d[y] = v -/
theorem d_setItem {H' : Hp} {Q : Unit → Shared → Prop} (hu : A.units + 1 < cLine) (I : Inv X pins σ H s) (g : DPut H a y v H') (ry : RelV y u) (rv : RelV v r) (h : ∀ s', Inv X pins σ H' s' → Q () s') :
    wpAny (model X.prog X.w) A (setItem (.ref a) u r) Q E s := by
  rcases g with ⟨kvs, k, e, ey, l, eH⟩ | ⟨kvs, k, b, e, ey, eb, l, eH⟩
  · subst ey eH
    obtain ⟨z, hd, vs, rel, dd⟩ := dk_of I.hok e
    have hz : vs.length ≤ sizeLine := by rw [← rel.length]; exact z
    have hl : (putK kvs k v).length ≤ sizeLine := by have := length_putK kvs k v; omega
    refine wpAny_setItem_pairs (hsz := hz) (kV_is ry) dd fun h' dd' hs => h _ ?_
    have he : ∃ q, h'.get? a = some q := let ⟨q, _, _, hq, _⟩ := dd'; ⟨q, hq⟩
    exact d_write I (by rw [e]; exact True.intro) hs he (dk_new hl hd (rel.put k rv) dd')
  · subst ey eH
    cases (show u = Value.ref b from ry)
    obtain ⟨z, hd, xs, rel, dd⟩ := dt_of I.hok e
    have hz : xs.length ≤ sizeLine := by rw [← Paired.length rel]; exact z
    have hl : (putK kvs k v).length ≤ sizeLine := by have := length_putK kvs k v; omega
    refine wpAny_setItem_heap (hsz := hz) (tupleKind_room_in1 hu) (key_of I.hok eb) dd fun h' dd' hs => h _ ?_
    obtain ⟨q, es, ep, hq, h2, h3, h4, _, h5⟩ := dd'
    refine d_write I (by rw [e]; exact True.intro) hs ⟨q, hq⟩ ⟨hl, hd, _, (rel.put k eb rv).keeps fun c ys ec => ?_, q, es, ep, hq, h2, h3, h4, h5⟩
    rw [upd_ne (ne_of ec e (fun z => nomatch z))]
    exact ec
end

section
variable {X : Cx} {pins : List (Addr × Obj)} {σ : St} {H : Hp} {s : Shared} {a : Addr} {kvs : List (Key × V)} {k : Key} {u : Value} {A : Around} {E : Value → Shared → Prop}
/-- len(d) -/
theorem d_len {Q : Value → Shared → Prop} (I : Inv X pins σ H s) (e : Rd H a (.dK kvs)) (h : ∀ t s', Inv X pins σ H s' → Q (.int kvs.length t) s') : wpAny (model X.prog X.w) A (call (.builtin "len") [.ref a]) Q E s := by
  obtain ⟨z, hd, vs, rel, dd⟩ := dk_rd I.hok e
  refine call_len_dict hd dd (by rw [← rel.length]; rw [sizeLine_eq] at z; omega) ?_
  rw [← rel.length]
  exact h _ _ (I.tok _)
end

/-! ### readings and rules -/
/-- the element of a subscription, not a slice -/
def NoSl (i : Expr) : Prop := ∀ ov iv, subscripted i false ov iv = operate [ov, iv] (getItem ov iv)
theorem dict_typeIs {X : Cx} {pins : List (Addr × Obj)} {σ : St} {H : Hp} {s : Shared} {a : Addr} {y : V} {o : Option V} (I : Inv X pins σ H s) (g : DGet H a y o) : s.TypeIs (.ref a) "dict" := by
  rcases g with ⟨kvs, k, e, _, _⟩ | ⟨kvs, k, b, e, _, _, _⟩
  · obtain ⟨_, _, vs, _, dd⟩ := dk_rd I.hok e
    exact dd.typeIs
  · obtain ⟨_, _, xs, _, dd⟩ := dt_rd I.hok e
    exact dd.typeIs
/-- d[y] -/
def tDGet (td ty : TE) : TE := fun σ H Q => td σ H fun x H1 => ty σ H1 fun y H2 => ∃ a v, x = .ref a ∧ DGet H2 a y (some v) ∧ Q v H2
/-- y in d, y not in d -/
def tDIn (ty td : TE) : TE := fun σ H Q => ty σ H fun y H1 => td σ H1 fun x H2 => ∃ a o, x = .ref a ∧ DGet H2 a y o ∧ Q (.bl o.isSome) H2
def tDNotIn (ty td : TE) : TE := fun σ H Q => ty σ H fun y H1 => td σ H1 fun x H2 => ∃ a o, x = .ref a ∧ DGet H2 a y o ∧ Q (.bl (!o.isSome)) H2
/-- d[y] = v -/
def sDPut (td ty tv : TE) : TS := fun D σ H => tv σ H fun v H1 => td σ H1 fun x H2 => ty σ H2 fun y H3 => ∃ a H4, x = .ref a ∧ DPut H3 a y v H4 ∧ D.nx σ H4
/-- d[y] op= v -/
def sDAug (td ty tv : TE) (rd : V → V → Hp → VK → Prop) : TS := fun D σ H => td σ H fun x H1 => ty σ H1 fun y H2 => ∃ a v, x = .ref a ∧ DGet H2 a y (some v) ∧
  tv σ H2 fun y2 H3 => rd v y2 H3 fun z H4 => ∃ H5, DPut H4 a y z H5 ∧ D.nx σ H5
/-- del d[y] -/
def sDDel (td ty : TE) : TS := fun D σ H => td σ H fun x H1 => ty σ H1 fun y H2 => ∃ a kvs k, x = .ref a ∧ H2 a = some (.dK kvs) ∧ y = kV k ∧ (valV kvs k).isSome = true ∧ D.nx σ (upd H2 a (.dK (dropK kvs k)))

section
variable {X : Cx} {o i e value : Expr} {pos pos' tpos : Pos} {td ty tv : TE}
theorem ps_dput (hu : X.A.units + 1 < cLine) (ho : PE X o td) (hi : PE X i ty) (hv : PE X value tv) (hs : swapsWith value (some (.Subscript o i pos')) pos.line X.env = pure false) :
    PS X (.Assign [.Subscript o i pos'] value pos) (sDPut td ty tv) := by
  intro pins s σ H D I h
  refine wpAny_Assign_Subscript (thn (hv pins s σ H _ I h) fun r s1 ⟨v, H1, I1, rv, q1⟩ => thn (ho pins s1 σ H1 _ I1 q1) fun u s2 ⟨x, H2, I2, rx, q2⟩ => thn (hi pins s2 σ H2 _ I2 q2) fun iv s3 ⟨y, H3, I3, ry, a, H4, ex, g, q3⟩ => ?_) hs
  subst ex
  obtain rfl : u = Value.ref a := rx
  exact d_setItem hu I3 g ry rv fun s4 I4 => ⟨σ, H4, I4, q3⟩
end

/-! ### displays -/
theorem dk_empty {P : Program} {w : World} {H : Hp} (h : Heap) (hb : sysModules < h.objs.size) : ObjOk P w H (h.push { cls := .type "dict", data := .dict #[] }) h.objs.size (.dK []) :=
  ⟨Nat.zero_le _, beq_eq_false_iff_ne.mpr (Ne.symm (Nat.ne_of_lt hb)), [], .nil, Heap.DictOf.new h⟩
theorem dt_empty {P : Program} {w : World} {H : Hp} (h : Heap) (hb : sysModules < h.objs.size) : ObjOk P w H (h.push { cls := .type "dict", data := .dict #[] }) h.objs.size (.dT []) :=
  ⟨Nat.zero_le _, beq_eq_false_iff_ne.mpr (Ne.symm (Nat.ne_of_lt hb)), [], .nil, _, #[], 0, Heap.get?_push_size _ rfl, ⟨rfl, rfl, rfl⟩, rfl, rfl, List.nodup_nil⟩
/-- {}, to be a dict of the kind that is wanted -/
def tDNewK : TE := fun _ H Q => ∀ p, H p = none → Q (.ref p) (upd H p (.dK []))
def tDNewT : TE := fun _ H Q => ∀ p, H p = none → Q (.ref p) (upd H p (.dT []))
section
variable {X : Cx} {pos : Pos}
theorem pe_dnewK : PE X (.Dict [] [] pos) tDNewK := fun pins s σ H Q I h =>
  wpAny_Dict_empty ⟨.ref s.heap.objs.size, _, I.laid (a := s.heap.objs.size) (o := .dK []) (t' := s.toks) (fun _ _ q => Heap.get?_push_of_some _ q) (Nat.le_refl _) (dk_empty s.heap I.big), rfl, h _ (I.hok.fresh (Nat.le_refl _))⟩
theorem pe_dnewT : PE X (.Dict [] [] pos) tDNewT := fun pins s σ H Q I h =>
  wpAny_Dict_empty ⟨.ref s.heap.objs.size, _, I.laid (a := s.heap.objs.size) (o := .dT []) (t' := s.toks) (fun _ _ q => Heap.get?_push_of_some _ q) (Nat.le_refl _) (dt_empty s.heap I.big), rfl, h _ (I.hok.fresh (Nat.le_refl _))⟩
end

/-- the pairs of a display, from the left -/
def tPairs : List (TE × TE) → St → Hp → (List (V × V) → Hp → Prop) → Prop
  | [], _, H, Q => Q [] H
  | (tk, tv) :: r, σ, H, Q => tk σ H fun x H1 => tv σ H1 fun y H2 => tPairs r σ H2 fun ps H3 => Q ((x, y) :: ps) H3
abbrev VV : List (V × V) → List (Value × Value) → Prop := Paired fun p q => RelV p.1 q.1 ∧ RelV p.2 q.2
def PPs (X : Cx) (pos : Pos) (keys : List (Option Expr)) (values : List Expr) (trs : List (TE × TE)) : Prop :=
  ∀ (pins : List (Addr × Obj)) (s : Shared) (σ : St) (H : Hp) (Q : List (V × V) → Hp → Prop), Inv X pins σ H s → tPairs trs σ H Q →
    wpAny (model X.prog X.w) X.A (evalPairs (pairTrees keys values X.env pos)) (fun vs s' => ∃ ps H', Inv X pins σ H' s' ∧ VV ps vs ∧ Q ps H') X.xe s
def mergeK (kvs more : List (Key × V)) : List (Key × V) := more.foldl (fun acc kv => putK acc kv.1 kv.2) kvs
/-- {k: v, ..} with keys ints and texts; the new dict stands empty while the pairs are made -/
def tDisp (trs : List (TE × TE)) : TE := fun σ H Q => ∀ p, H p = none → tPairs trs σ (upd H p (.dK [])) fun ps H2 => H2 p = some (.dK []) ∧ ∃ kvs : List (Key × V), ps = kvs.map (fun kv => (kV kv.1, kv.2)) ∧ kvs.length ≤ 15 ∧ Q (.ref p) (upd H2 p (.dK (mergeK [] kvs)))
/-! ### methods -/
/-- a method call o.m(e) of a built-in, with one argument: what must be seen of the text -/
structure M1 (X : Cx) (o : Expr) (m : Str) (apos : Pos) (e : Expr) (cpos : Pos) : Prop where
  base : attributeBase o m X.env (eval o X.env) = eval o X.env
  few : ((backTo cpos (starEach [e] X.env)).all (fun x => !x.1) && (backToKw cpos (keywordEach [] X.env)).all (fun x => x.1.isSome)
    && decide (([e] : List Expr).length + ([] : List Keyword).length + (if ([] : List Keyword).isEmpty then 0 else 1) < 30)) = true
  line : (apos.endLine == cpos.line) = true
  trees : backTo cpos (starEach [e] X.env) = [(false, eval e X.env)]
structure M2 (X : Cx) (o : Expr) (m : Str) (apos : Pos) (e f : Expr) (cpos : Pos) : Prop where
  base : attributeBase o m X.env (eval o X.env) = eval o X.env
  few : ((backTo cpos (starEach [e, f] X.env)).all (fun x => !x.1) && (backToKw cpos (keywordEach [] X.env)).all (fun x => x.1.isSome)
    && decide (([e, f] : List Expr).length + ([] : List Keyword).length + (if ([] : List Keyword).isEmpty then 0 else 1) < 30)) = true
  line : (apos.endLine == cpos.line) = true
  trees : backTo cpos (starEach [e, f] X.env) = [(false, eval e X.env), (false, eval f X.env)]

/-- a is a dict, whatever its keys -/
def IsD (H : Hp) (a : Addr) : Prop := (∃ kvs, Rd H a (.dK kvs)) ∨ ∃ kvs, Rd H a (.dT kvs)
theorem isD_at {X : Cx} {pins : List (Addr × Obj)} {σ : St} {H : Hp} {s : Shared} {a : Addr} (I : Inv X pins σ H s) (d : IsD H a) :
    s.TypeIs (.ref a) "dict" ∧ (∀ b, Value.ref a = .ref b → ∃ ob, s.heap.get? b = some ob ∧ ob.dict = none) ∧ (a == sysModules) = false := by
  rcases d with ⟨kvs, e⟩ | ⟨kvs, e⟩
  · obtain ⟨_, hd, vs, _, dd⟩ := dk_rd I.hok e
    refine ⟨dd.typeIs, fun b q => ?_, hd⟩
    cases q
    obtain ⟨ob, _, _, h1, h2, _⟩ := dd
    exact ⟨ob, h1, h2.2.1⟩
  · obtain ⟨_, hd, xs, _, dd⟩ := dt_rd I.hok e
    refine ⟨dd.typeIs, fun b q => ?_, hd⟩
    cases q
    obtain ⟨ob, _, _, h1, h2, _⟩ := dd
    exact ⟨ob, h1, h2.2.1⟩

section
variable {X : Cx} {pins : List (Addr × Obj)} {σ : St} {H : Hp} {s : Shared} {a : Addr} {y d : V} {u r : Value} {o : Option V} {A : Around} {E : Value → Shared → Prop}
/-- d.get(y, x) -/
theorem d_get2 {Q : Value → Shared → Prop} (hu : A.units + 1 < cLine) (I : Inv X pins σ H s) (g : DGet H a y o) (ry : RelV y u) (rd : RelV d r) (h : ∀ w' s', Inv X pins σ H s' → RelV (o.getD d) w' → Q w' s') :
    wpAny (model X.prog X.w) A (call (.builtin "dict.get") [.ref a, u, r]) Q E s := by
  rcases g with ⟨kvs, k, e, ey, l⟩ | ⟨kvs, k, b, e, ey, eb, l⟩
  · subst ey
    obtain ⟨z, hd, vs, rel, dd⟩ := dk_rd I.hok e
    refine call_meetsIn PySem.F.slot_dict_get dd.typeIs PySem.F.entry_dict_get (PySem.F.args_dict_get_3 _ _ _) (meets_dict_get_default (mixKind X.prog X.w) a (kV_is ry) hd r) ⟨_, dd.mapOf, h _ _ (I.tok _) ?_⟩
    rw [l]
    exact (rel.val k).getD rd
  · subst ey
    cases (show u = Value.ref b from ry)
    obtain ⟨z, hd, xs, rel, dd⟩ := dt_rd I.hok e
    refine call_meetsIn PySem.F.slot_dict_get dd.typeIs PySem.F.entry_dict_get (PySem.F.args_dict_get_3 _ _ _) (meetsH_dict_get_default (tupleKind (mixKind X.prog X.w)) a b hd r) ⟨tupleKind_room_in1 hu, k, xs, key_of I.hok eb, dd, h _ _ (I.tok _) ?_⟩
    rw [l]
    exact (rel.val k).getD rd
end

def tDGet1 (td ty : TE) : TE := fun σ H Q => td σ H fun x H1 => ∃ a, x = .ref a ∧ IsD H1 a ∧ ty σ H1 fun y H2 => ∃ o, DGet H2 a y o ∧ Q (o.getD .non) H2
def tDGet2 (td ty tx : TE) : TE := fun σ H Q => td σ H fun x H1 => ∃ a, x = .ref a ∧ IsD H1 a ∧ ty σ H1 fun y H2 => tx σ H2 fun z H3 => ∃ o, DGet H3 a y o ∧ Q (o.getD z) H3
/-- d.pop(k): there; d.pop(k, x): there or not -/
def tDPop1 (td ty : TE) : TE := fun σ H Q => td σ H fun x H1 => ∃ a, x = .ref a ∧ IsD H1 a ∧ ty σ H1 fun y H2 => ∃ kvs k v, H2 a = some (.dK kvs) ∧ y = kV k ∧ valV kvs k = some v ∧ Q v (upd H2 a (.dK (dropK kvs k)))
def tDPop2 (td ty tx : TE) : TE := fun σ H Q => td σ H fun x H1 => ∃ a, x = .ref a ∧ IsD H1 a ∧ ty σ H1 fun y H2 => tx σ H2 fun z H3 => ∃ kvs k, H3 a = some (.dK kvs) ∧ y = kV k ∧
  (∀ v, valV kvs k = some v → Q v (upd H3 a (.dK (dropK kvs k)))) ∧ (valV kvs k = none → Q z H3)
section
variable {X : Cx} {o e f : Expr} {apos cpos : Pos} {td ty tx : TE}
theorem pe_dget2 (hu : X.A.units + 1 < cLine) (ho : PE X o td) (he : PE X e ty) (hf : PE X f tx) (m : M2 X o "get" apos e f cpos) : PE X (.Call (.Attribute o "get" apos) [e, f] [] cpos) (tDGet2 td ty tx) := by
  intro pins s σ H Q I h
  refine wpAny_Call_method m.base m.few m.line PySem.F.plainAttrs_dict PySem.F.slot_dict_get PySem.F.type_dict_get (thn (ho pins s σ H _ I h) fun u s1 ⟨x, H1, I1, rx, a, ex, d, q1⟩ => ?_)
  subst ex
  obtain rfl : u = Value.ref a := rx
  obtain ⟨t1, t2, _⟩ := isD_at I1 d
  refine ⟨t1, t2, ?_⟩
  rw [m.trees]
  refine Calls.callWith_builtin rfl (Calls.evalArgs_plain (Calls.spliced_cons (thn (he pins s1 σ H1 _ I1 q1) fun iv s2 ⟨y, H2, I2, ry, q2⟩ =>
    Calls.spliced_cons (thn (hf pins s2 σ H2 _ I2 q2) fun fv s3 ⟨z, H3, I3, rz, ov, g, q3⟩ => Calls.spliced_nil ?_))))
  exact d_get2 hu I3 g ry rz fun w' s4 I4 rw' => ⟨_, H3, I4, rw', q3⟩
end

/-! ### dict(d): a copy -/
section
variable {X : Cx} {pins : List (Addr × Obj)} {σ : St} {H : Hp} {s : Shared} {a : Addr} {kvs : List (Key × V)} {A : Around} {E : Value → Shared → Prop}
end

section
variable {X : Cx} {pins : List (Addr × Obj)} {σ : St} {H : Hp} {s : Shared} {a : Addr} {y : V} {u : Value} {A : Around} {E : Value → Shared → Prop}
end
end L2

namespace Att
open PySem PySem.W PySem.Calls PyProof.Rows

/-! ### the script -/
theorem ints_of_wellAll {P : Params} {h : Heap} : ∀ (ns : List Int) (vs : List Value), WellAll P h vs (ns.map WData.int) → IntsAre vs ns := by
  intro ns
  induction ns with
  | nil =>
    intro vs w
    rw [List.map_nil] at w
    cases w
    exact .nil
  | cons n ns ih =>
    intro vs w
    rw [List.map_cons] at w
    cases w with
    | cons a b =>
      cases a
      exact .cons _ _ (ih _ b)

theorem script_of {l : OpenLaw} {n : Nat} (hn : l.most = some n) {P : Params} {h : Heap} {args : List WData} {vals : List Value}
    (hpre : l.row.toRowW.claim.pre args = true) (hwl : WellAll P h vals args) :
    ∃ a vs ns, vals = [Value.ref a] ∧ args = [WData.list (ns.map WData.int)] ∧ h.get? a = some { cls := .type "list", data := .seq vs.toArray } ∧ IntsAre vs ns ∧ ns.length ≤ n := by
  have hsh : WShape.hasAll [] args [.list .int] = true := (pre_splitW hpre).1
  have hc : l.pre.holds [] { args := args } = true := (pre_splitW hpre).2
  obtain ⟨d, r, rfl, h1, h2⟩ := hasAllW_cons hsh
  obtain rfl := hasAllW_nil h2
  obtain ⟨xs, rfl, h3⟩ := hasW_list h1
  obtain ⟨ns, rfl⟩ := items_int h3
  have hlen : ns.length ≤ n := by
    unfold OpenLaw.pre at hc
    have h4 : (WTm.not (.lt (.lit (.int (n : Int))) (.len (.arg 0)))).holds [] { args := [.list (ns.map .int)] } = true := by
      have h4 := (holds_andW hc).1
      rw [hn] at h4
      exact h4
    have h5 := condW_of h4 (w_not (w_lt w_lit (w_len_list (w_arg rfl))))
    rw [List.length_map] at h5
    refine Nat.le_of_not_lt fun q => ?_
    have q' : (n : Int) < ((ns.length : Nat) : Int) := by omega
    first
      | (rw [decide_eq_true q'] at h5; exact absurd h5 (by decide))
      | (simp at h5; omega)
  cases hwl with
  | cons w1 w2 =>
    cases w2
    cases w1 with
    | list ho hall => exact ⟨_, _, ns, rfl, rfl, ho, ints_of_wellAll ns _ hall, hlen⟩

theorem post_true (l : OpenLaw) (args : List WData) : l.row.toRowW.claim.post args (.bool true) args = true :=
  postW_of (r := l.row.toRowW) (X := (true == true))
    (show WShape.has [] (.bool true) .bool = true by first | rfl | decide | simp [WShape.has, WShape.arms, WShape.armsAll])
    (show (WTm.eq .res (.lit (.bool true))).value [] { args := args, res := some (.bool true), after := args } = some (.bool (true == true)) from w_eq_bool (w_res rfl) w_lit) rfl

/-! ### the attachment: holds_open's last premise (the goal 'hc' behind k_head) from a wpAny of the law's body -/
/-- the same from a codeAny of the CALL (for a layer whose function contracts speak of calls) -/
theorem attach_call {l : OpenLaw} {n : Nat} {q : Program} {loose : List Str} {XP : (Str → Option Value) → Heap → Prop} {YP : World → Heap → Prop} {d : DefRec}
    (hn : l.most = some n) (hdf : d.params.defaults = [])
    (call : ∀ (w : World) (s₀ s₁ : Shared) (mg mb : Str → Option Value) (fa : Addr) (o : Obj) (pm cd doc : Value) (a : Addr) (vs : List Value) (ns : List Int),
      Ground q loose [] XP w s₀ mg mb s₁.heap → YP w s₁.heap →
      s₁.heap.get? fa = some o → o.data = .func (docDef d.name d.params d.body d.scope pm cd doc) → s₁.heap.CodeRec cd d.name → mg d.name = some (.ref fa) →
      s₁.heap.get? a = some { cls := .type "list", data := .seq vs.toArray } → IntsAre vs ns → ns.length ≤ n → s₁.gens = #[] →
      codeAny (model l.prog w) callerA (.call (.ref fa) ⟨[.ref a], []⟩) (fun r s' => r = .ok (.ret (.bool true)) ∧ OldK s₁.heap s'.heap ∧ s'.os = s₁.os ∧ AllBare s'.gens) s₁) :
    WalkO q loose XP YP l.row.toRowW d [] (fun f vs => PySem.call f vs) := by
  intro w s₀ s₁ mg mb G Y fa o pm cd doc dV kV ho hd hcd hD hmg hg args vals as hpre hlay hrd hwl hlo
  obtain rfl : dV = .none := Dflts.none hD hdf
  obtain rfl : kV = .none := Dflts.noKw hD
  obtain ⟨a, vs, ns, rfl, rfl, hobj, hints, hlen⟩ := script_of hn hpre hwl
  refine enter_call (codeAny_mono (call w s₀ s₁ mg mb fa o pm cd doc a vs ns G Y ho (fd_plain hd) hcd hmg hobj hints hlen hg) fun r s' hq => ?_)
  obtain ⟨rfl, h2, h3, h4⟩ := hq
  exact ⟨.inl ⟨.bool true, .bool true, [], rfl, fun _ => rfl, .bool true, post_true l _, fun _ => ⟨List.Pairwise.nil, fun _ hm => (nomatch hm)⟩⟩, h2, h3, h4⟩

/-! ### rules over ANY heap (no ledger) from facts about the written part K: the library's own take a ledger (News) for what they write -/
section
variable {prog : Program} {w : World} {A : Around} {E : Value → Shared → Prop} {s : Shared} {K : Frag}

/-! the whole heap as the ledger: makes every rule that writes through a ledger a rule over any heap -/
def noObjs (h : Heap) : Heap := { h with objs := #[] }
def ledger (h : Heap) (L d : Addr) : List (Addr × Obj) := (List.range h.objs.size).filterMap fun a => if a = L ∨ a = d then none else (h.get? a).map fun o => (a, o)
end
end Att

namespace L2
open PySem PySem.Spec PyProof.Rows

theorem vals_ints : ∀ {vs : List Value} {ns : List Int}, IntsAre vs ns → Vals (ns.map V.int) vs
  | _, _, .nil => .nil
  | _, _, .cons n t h => .cons ⟨t, rfl⟩ (vals_ints h)

/-- nothing is tracked but the script, known to the object (or it is an object of the module) -/
def Only (H : Hp) : Prop := ∀ b, H b = none ∨ ∃ o xs, H b = some (.frz o (.lst xs))

/-- THE HEAD: the law's promise, at the heap behind the top. F, the promise of the law's def, may use that base is part of the heap (so K.In base, base.Ns mainGlobals mg stand in Mod) -/
theorem law_call {P : Program} {w : World} {K : PySem.W.Frag} {mg mb : Str → Option Value} {CX : CXT} {k : Nat} {fa a : Addr} {fd : FuncData} {x : Str} {sp : Sp} {s₁ : Shared} {vs : List Value} {ns : List Int}
    (KX : K.In s₁.heap) (hns : s₁.heap.Ns mainGlobals mg) (hb : s₁.heap.Ns builtinsNs mb) (hbb : ∀ x : Str, x ≠ "__name__" → mb x = bootBuiltins x) (hlim : s₁.heap.NoLimit) (hg : s₁.gens = #[])
    (ha : s₁.heap.get? a = some { cls := .type "list", data := .seq vs.toArray }) (hi : IntsAre vs ns) (hl : ns.length ≤ sizeLine) (hr : Room k callerA)
    (F : ∀ base : Heap, K.In base → base.Ns mainGlobals mg → FnOk P w K mg base CX k fa fd [x] sp) (hbind : ∀ (s : Shared) (u : Value), BindsTo s fd ⟨[u], []⟩ [(x, u)])
    (hsp : ∀ H : Hp, Only H → SqL K H a (ns.map V.int) → sp [.ref a] H (fun v _ => v = .bl true) fun _ _ _ => False)
    (hCX : ∀ H e s', CX [] H s₁ (fun _ _ _ => False) e s' → False) :
    codeAny (model P w) callerA (.call (.ref fa) ⟨[.ref a], []⟩) (fun r s' => r = .ok (.ret (.bool true)) ∧ OldK s₁.heap s'.heap ∧ s'.os = s₁.os ∧ AllBare s'.gens) s₁ := by
  have rv := vals_ints hi
  have lenV := hi.length
  -- from an abstract heap in which nothing but the script may be tracked
  have core : ∀ H : Hp, Only H → SqL K H a (ns.map V.int) → HOk P w H s₁.heap → (∀ b, H b ≠ none → b = a) → (H a ≠ none → K.lookup a = none) →
      codeAny (model P w) callerA (.call (.ref fa) ⟨[.ref a], []⟩) (fun r s' => r = .ok (.ret (.bool true)) ∧ OldK s₁.heap s'.heap ∧ s'.os = s₁.os ∧ AllBare s'.gens) s₁ := by
    intro H hO hS hok hA hK
    have base_of : ∀ {b : Addr} {o : Obj}, s₁.heap.get? b = some o → H b = none → (hidT s₁.heap H).get? b = some o := fun e n => hidT_get e n
    have noA : ∀ {b : Addr} {o : Obj} {es : Array DictEntry} {ep : Nat}, s₁.heap.get? b = some o → o.data = .dict es ep → H b = none := fun {b o es ep} e d => by
      cases q : H b with
      | none => rfl
      | some u =>
        have e' : b = a := hA b (by rw [q]; simp)
        subst e'
        rw [ha] at e; cases e
        have d' : Data.seq vs.toArray _ = Data.dict es ep := d
        cases d'
    have nsK : ∀ {b : Addr} {m : Str → Option Value}, s₁.heap.Ns b m → (hidT s₁.heap H).Ns b m := fun {b m} ⟨o, es, ep, e, d, r⟩ => ⟨o, es, ep, base_of e (noA e d), d, r⟩
    have hKb : K.In (hidT s₁.heap H) := fun b o e => base_of (KX b o e) (by
      cases q : H b with
      | none => rfl
      | some u =>
        have e' : b = a := hA b (by rw [q]; simp)
        subst e'
        rw [hK (by rw [q]; simp)] at e; cases e)
    have hM : Mod K mg (hidT s₁.heap H) := ⟨hKb, nsK hns, ⟨mb, nsK hb, hbb⟩, let ⟨mc, h1, h2⟩ := hlim; ⟨mc, nsK h1, h2⟩⟩
    have e0 : Env0 P w K mg (hidT s₁.heap H) callerA [] s₁ H := ⟨rfl, hM, fun b o e => of_hidT e, Nat.le_of_eq (hidT_size _ _), trivial, fun b hb => absurd (show b ∈ ([] : List Addr) from hb) (by simp), hok, .of_eq hg⟩
    refine codeAny_mono ((F _ hKb (nsK hns)).run callerA [] s₁ H ⟨[.ref a], []⟩ [.ref a] [.ref a] _ _ hr e0 (hbind s₁ (.ref a)) (.cons rfl .nil) (hsp H hO hS)) fun r s' h => ?_
    cases r with
    | error e => exact (hCX H e s' h).elim
    | ok fl =>
      cases fl with
      | next => exact False.elim h
      | brk => exact False.elim h
      | cont => exact False.elim h
      | ret u =>
        obtain ⟨v, H', os, bare, un, hok', r', q⟩ := h
        have q' : v = .bl true := q
        subst q'
        obtain rfl : u = Value.bool true := r'
        refine ⟨rfl, OldK.of_keep fun b o e => ?_, os, bare⟩
        cases q : H b with
        | none => exact un.keep b o e q (by intro z; exact absurd (show b ∈ ([] : List Addr) from z) (by simp)) (by simp)
        | some u =>
          rcases hO b with z | ⟨ob, xs, z⟩
          · rw [q] at z; cases z
          · have z2 := un.frzs b ob _ z
            obtain ⟨e1, _⟩ := hok b _ z
            obtain ⟨e2, _⟩ := hok' b _ z2
            rw [e] at e1; cases e1
            exact e2
  cases hk : K.lookup a with
  | some o =>
    -- the script is one of the module's own objects
    have e := KX a o hk
    rw [ha] at e
    cases e
    refine core (fun _ => none) (fun _ => .inl rfl) (.inr ⟨_, vs.toArray, _, hk, rfl, rfl, rfl, by rw [List.size_toArray, lenV]; exact hl, by simpa using rv⟩) (fun b u z => by have z' : (none : Option HO) = some u := z; cases z') (fun b z => absurd rfl z) fun z => absurd rfl z
  | none =>
    refine core (fun b => if b = a then some (.frz { cls := .type "list", data := .seq vs.toArray } (.lst (ns.map V.int))) else none) (fun b => ?_) (.inl (.inr ⟨{ cls := .type "list", data := .seq vs.toArray }, if_pos rfl⟩)) (fun b u z => ?_) (fun b z => ?_) fun _ => hk
    · by_cases hb : b = a
      · exact .inr ⟨_, _, if_pos hb⟩
      · exact .inl (if_neg hb)
    · by_cases hb : b = a
      · have z' := (if_pos hb).symm.trans z
        cases z'
        subst hb
        exact ⟨ha, by rw [List.length_map]; exact hl, vs, _, rv, ha⟩
      · have z' := (if_neg hb).symm.trans z
        cases z'
    · by_cases hb : b = a
      · exact hb
      · exact absurd (if_neg hb) z
end L2

namespace L2
open PySem PySem.Spec PyProof.Rows

abbrev KOf {K : PySem.W.Frag} {h : Heap} (_ : K.In h) : PySem.W.Frag := K

/-- the goal that k_head leaves (case hc), from the law's promise. F gives the function object fd (K's own) once, then the promise over every base -/
theorem walk_of {l : PySem.W.OpenLaw} {n k : Nat} {q : Program} {loose : List Str} {XP : (Str → Option Value) → Heap → Prop} {YP : World → Heap → Prop} {d : DefRec} {K : Params → PySem.W.Frag} {CX : World → CXT} {sp : World → Sp} {x : Str}
    (hn : l.most = some n) (hn2 : n ≤ sizeLine) (hdf : d.params.defaults = []) (hr : Room k callerA)
    (hY : ∀ (w : World) (h : Heap), YP w h → (K w.params).In h)
    (F : ∀ (w : World) (mg : Str → Option Value) (fa : Addr) (h : Heap), (K w.params).In h → h.Ns mainGlobals mg → mg d.name = some (.ref fa) →
      ∃ fd : FuncData, (∀ (s : Shared) (u : Value), BindsTo s fd ⟨[u], []⟩ [(x, u)]) ∧
        ∀ base : Heap, (K w.params).In base → base.Ns mainGlobals mg → FnOk l.prog w (K w.params) mg base (CX w) k fa fd [x] (sp w))
    (hsp : ∀ (w : World) (H : Hp) (a : Addr) (ns : List Int), ns.length ≤ n → Only H → SqL (K w.params) H a (ns.map V.int) → sp w [.ref a] H (fun v _ => v = .bl true) fun _ _ _ => False)
    (hCX : ∀ (w : World) (H : Hp) (s : Shared) (e : Value) (s' : Shared), CX w [] H s (fun _ _ _ => False) e s' → False) :
    PySem.W.WalkO q loose XP YP l.row.toRowW d [] (fun f vs => PySem.call f vs) := by
  refine Att.attach_call hn hdf fun w s₀ s₁ mg mb fa o pm cd doc a vs ns G Y ho hd hcd hmg hobj hints hlen hg => ?_
  have KX := hY w _ Y
  obtain ⟨fd, hb, hF⟩ := F w mg fa _ KX G.T.g hmg
  exact law_call KX G.T.g G.T.b G.T.builtins G.T.nolimit hg hobj hints (Nat.le_trans hlen hn2) hr hF hb (fun H hO hS => hsp w H a ns hlen hO hS) fun H e s' => hCX w H s₁ e s'
end L2

namespace L2
open PySem PySem.Spec PyProof.Rows

/-! ### the text by places -/
/-- the j-th statement of a class's body -/
def inClass (s : Stmt) (j : Nat) : Stmt := match s with
  | .ClassDef _ _ _ body _ _ _ _ _ _ _ => body.getD j (.Pass ⟨0, 0, 0, 0⟩)
  | _ => .Pass ⟨0, 0, 0, 0⟩
def defArgs (s : Stmt) : Arguments := match s with
  | .FunctionDef _ a _ _ _ _ _ _ _ _ => a
  | _ => { posonlyargs := [], args := [], vararg := none, kwonlyargs := [], kw_defaults := [], kwarg := none, defaults := [] }
def defBody (s : Stmt) : List Stmt := match s with
  | .FunctionDef _ _ b _ _ _ _ _ _ _ => b
  | _ => []
def defScope (s : Stmt) : Scope := match s with
  | .FunctionDef _ _ _ _ _ _ sc _ _ _ => sc
  | _ => { kind := .function, names := [], isGenerator := false, isCoroutine := false }

/-! ### no exception leaves a def -/
abbrev CX0 : CXT := fun _ _ _ _ _ _ => False
abbrev E0 : XK := fun _ _ _ => False
theorem pass0 {X : Cx} : Passes CX0 X E0 := fun _ _ _ _ _ _ _ h => h.elim

/-! ### a def (or method) of the text as it stands behind the top -/
structure Fun (K : PySem.W.Frag) (x qual : Str) (st : Stmt) (f : Addr) (fd : FuncData) : Prop where
  ex : ∃ (oc : Value) (od : Option Addr) (kV doc pm : Value) (an : Option Addr) (cdv ct : Value) (osl : Array (Option Value)),
    fd = PySem.W.fnOf x qual (defArgs st) (defBody st) (defScope st) .none kV doc pm an cdv ct ∧ K.lookup f = some ⟨oc, od, .func fd, osl⟩ ∧ PySem.W.codeIn K cdv qual = true
  kp : PySem.W.keepIn K (.ref f) = true
section
variable {P : Program} {w : World} {K : PySem.W.Frag} {mg : Str → Option Value} {base : Heap}
/-- THE RULE for a def: its body as a term of rules, and the reading of that term -/
theorem Fun.ok {x qual : Str} {st : Stmt} {f : Addr} {fd : FuncData} {N ps : List Str} {k : Nat} {sp : Sp} (F : Fun K x qual st f fd) (S : FnScope N ps (defScope st)) (len : ∀ vs H Q E, sp vs H Q E → vs.length = ps.length)
    (hbody : ∀ (cdv : Value) (A : Around) (outer : List Env) (s : Shared) (H : Hp) (vs : List V) (Q : VK) (E : XK), Room k (A.deeper (envOfC qual (defScope st) s.heap.objs.size f cdv)) → sp vs H Q E →
      ∃ t, PSs (cxOf CX0 P w K mg base N qual (defScope st) f cdv A outer s H E).nox (defBody st) t ∧ t { nx := fun _ H' => Q .non H', rt := Q } (start N vs) H) : FnOk P w K mg base CX0 (k + 1) f fd ps sp := by
  obtain ⟨oc, od, kV, doc, pm, an, cdv, ct, osl, rfl, lk, hcd⟩ := F.ex
  refine fn_of lk hcd S len fun A outer s H vs Q E hr hsp => ?_
  obtain ⟨t, h, q⟩ := hbody cdv A outer s H vs Q E hr hsp
  exact ⟨t, h.nox, q⟩
/-- how its arguments bind (no defaults): h is «fun _ _ _ _ _ _ us hl => match us, hl with | [_, _], _ => rfl», one _ a parameter -/
theorem Fun.binds {x qual : Str} {st : Stmt} {f : Addr} {fd : FuncData} {ps : List Str} (F : Fun K x qual st f fd)
    (h : ∀ (kV doc pm : Value) (an : Option Addr) (cdv ct : Value) (us : List Value), us.length = ps.length → bindArgs (PySem.W.fnOf x qual (defArgs st) (defBody st) (defScope st) .none kV doc pm an cdv ct) ⟨us, []⟩ = pure (ps.zip us)) : Binds K fd ps [] := by
  obtain ⟨oc, od, kV, doc, pm, an, cdv, ct, osl, rfl, lk, hcd⟩ := F.ex
  exact .all (h kV doc pm an cdv ct)
theorem fun_mk {x qual : Str} {st : Stmt} {f : Addr} {oc : Value} {od an : Option Addr} {osl : Array (Option Value)} {kV doc pm cdv ct : Value} (l : K.lookup f = some ⟨oc, od, .func (PySem.W.fnOf x qual (defArgs st) (defBody st) (defScope st) .none kV doc pm an cdv ct), osl⟩)
    (c : PySem.W.codeIn K cdv qual = true) (k : PySem.W.keepIn K (.ref f) = true) : Fun K x qual st f (PySem.W.fnOf x qual (defArgs st) (defBody st) (defScope st) .none kV doc pm an cdv ct) := ⟨⟨oc, od, kV, doc, pm, an, cdv, ct, osl, rfl, l, c⟩, k⟩
end
theorem hu_of {A : Around} {k : Nat} (hr : Room k A) : A.units + 1 < cLine := Nat.lt_of_le_of_lt (Nat.add_le_add_left (by decide : 1 ≤ 64) _) hr.units
theorem small1000 {n : Nat} (h : n ≤ 1000) : n < sizeLine := Nat.lt_of_le_of_lt h (by decide)

/-! ### expressions in short: the name that stands in the i-th slot -/
section
variable {X : Cx}
/-- len of a dict -/
theorem call_lenD : CallR X (.builtin "len") (fun xs H Q => ∃ a kvs, xs = [V.ref a] ∧ H a = some (.dK kvs) ∧ Q (.int kvs.length) H) := by
  intro pins s σ H xs us Q I r h
  obtain ⟨a, kvs, rfl, ha, q⟩ := h
  obtain ⟨u, rfl, ru⟩ := vals1 r
  cases ru
  exact d_len I (.inl ha) fun t s' I' => ⟨.int kvs.length, H, I', ⟨t, rfl⟩, q⟩
end

/-! ### tests -/
theorem iteF {A B : Prop} (h : B) : if false = true then A else B := by
  rw [if_neg Bool.false_ne_true]
  exact h
theorem iteT {A B : Prop} (h : A) : if true = true then A else B := by
  rw [if_pos rfl]
  exact h
theorem iteNS {c A B : Prop} [Decidable c] (hc : c) (h : B) : if (!decide c) = true then A else B := by
  rw [decide_eq_true hc]
  exact iteF h

/-! ### heaps -/
/-- all that was tracked is as it was -/
def Same (H H' : Hp) : Prop := ∀ b o, H b = some o → H' b = some o
theorem Same.refl (H : Hp) : Same H H := fun _ _ h => h
theorem Same.trans {H H1 H2 : Hp} (a : Same H H1) (b : Same H1 H2) : Same H H2 := fun c o h => b c o (a c o h)
theorem Same.free {H H' : Hp} (e : Same H H') {l : Addr} (h : H' l = Option.none) : H l = Option.none := by
  cases q : H l with
  | none => rfl
  | some o =>
    rw [e l o q] at h
    cases h
theorem Same.seq {K : PySem.W.Frag} {H H' : Hp} {a : Addr} {xs : List V} (e : Same H H') (h : SqL K H a xs) : SqL K H' a xs := by
  rcases h with (h | ⟨o, h⟩) | h
  · exact .inl (.inl (e _ _ h))
  · exact .inl (.inr ⟨o, e _ _ h⟩)
  · exact .inr h

/-! ### a dict's pairs: keys that differ -/
section
variable {κ : Type} [DecidableEq κ]
theorem nd_snoc : ∀ {l : List κ} {k : κ}, l.Nodup → ¬ k ∈ l → (l ++ [k]).Nodup
  | [], k, _, _ => by simp
  | a :: r, k, h, hk => by
    obtain ⟨h1, h2⟩ := List.nodup_cons.mp h
    show (a :: (r ++ [k])).Nodup
    refine List.nodup_cons.mpr ⟨fun m => ?_, nd_snoc h2 fun m => hk (List.mem_cons.mpr (Or.inr m))⟩
    rcases List.mem_append.mp m with q | q
    · exact h1 q
    · exact hk (List.mem_cons.mpr (Or.inl (List.mem_singleton.mp q).symm))
end
end L2

set_option Elab.async false
set_option linter.all false
set_option maxRecDepth 100000
set_option maxHeartbeats 1000000
namespace L2
open PySem PySem.Spec PyProof.Rows

/-! ### a comprehension's closure -/
theorem forIn_yields {α β : Type} {f : α → β → Sem (ForInStep β)} {g : β → α → β} : ∀ (l : List α) (c : β), (∀ x ∈ l, ∀ c, f x c = pure (.yield (g c x))) → forIn l c f = pure (l.foldl g c)
  | [], c, _ => rfl
  | x :: l, c, h => by
    rw [List.forIn_cons, h x List.mem_cons_self, pure_bind, List.foldl_cons]
    exact forIn_yields l (g c x) fun y hy => h y (List.mem_cons_of_mem _ hy)
def cloS (env : Env) (cs : List (Str × Addr)) (x : Str × NameKind) : List (Str × Addr) :=
  if x.2 == NameKind.free then (match env.cells.lookup x.1 with | some c => (x.1, c) :: cs | none => cs) else cs
def clo (env : Env) (names : List (Str × NameKind)) : List (Str × Addr) := names.foldl (cloS env) []
theorem closureFor_clo {scope : Scope} {env : Env} (h : ∀ x ∈ scope.names, x.2 = .free → ∃ c, env.cells.lookup x.1 = some c) : closureFor scope env = pure (clo env scope.names) := by
  simp only [closureFor]
  rw [forIn_yields (g := cloS env) scope.names [] (fun x hx c => ?_)]
  · rfl
  · obtain ⟨n, k⟩ := x
    by_cases e : k = .free
    · subst e
      obtain ⟨a, ha⟩ := h _ hx rfl
      have ha' : env.cells.lookup n = some a := ha
      simp [cellOf, ha', cloS]
    · have e' : (k == NameKind.free) = false := by simpa using e
      simp [cloS, e']
theorem clo_mem {env : Env} : ∀ (names : List (Str × NameKind)) (cs : List (Str × Addr)), (∀ p ∈ cs, env.cells.lookup p.1 = some p.2) → ∀ p ∈ names.foldl (cloS env) cs, env.cells.lookup p.1 = some p.2
  | [], cs, h, p, hp => h p hp
  | x :: r, cs, h, p, hp => by
    refine clo_mem r (cloS env cs x) (fun q hq => ?_) p hp
    unfold cloS at hq
    split at hq
    · split at hq
      · rename_i c e
        rcases List.mem_cons.mp hq with z | z
        · subst z; exact e
        · exact h q z
      · exact h q hq
    · exact h q hq
theorem clo_look {env : Env} {names : List (Str × NameKind)} {x : Str} {c : Addr} (h : (clo env names).lookup x = some c) : env.cells.lookup x = some c :=
  clo_mem names [] (fun _ z => nomatch z) (x, c) (PySem.mem_of_lookup h)
theorem look_keep {env : Env} {x : Str} : ∀ (names : List (Str × NameKind)) (cs : List (Str × Addr)), (∃ c, cs.lookup x = some c) → ∃ c, (names.foldl (cloS env) cs).lookup x = some c
  | [], _, h => h
  | y :: r, cs, h => by
    refine look_keep r _ ?_
    unfold cloS
    split
    · split
      · obtain ⟨c, hc⟩ := h
        rw [List.lookup_cons]
        split
        · exact ⟨_, rfl⟩
        · exact ⟨c, hc⟩
      · exact h
    · exact h
theorem clo_has {env : Env} {x : Str} {c : Addr} (hc : env.cells.lookup x = some c) : ∀ (names : List (Str × NameKind)) (cs : List (Str × Addr)), (x, NameKind.free) ∈ names → ∃ c, (names.foldl (cloS env) cs).lookup x = some c
  | [], _, h => nomatch h
  | y :: r, cs, h => by
    rcases List.mem_cons.mp h with e | e
    · subst e
      refine look_keep r _ ?_
      unfold cloS
      simp only [beq_self_eq_true, if_true]
      rw [hc]
      exact ⟨c, by simp [List.lookup_cons]⟩
    · exact clo_has hc r _ e

/-! ### the block of a comprehension -/
/-- what is asked of its scope: no cell of its own, its free names have cells -/
structure CScope (scope : Scope) : Prop where
  kind : scope.kind = .function
  nocell : ∀ x ∈ scope.names, x.2 ≠ .cell
  names : ∀ x ∈ scope.names, x.2 = .local → scope.names.lookup x.1 = some .local
def cxComp (X : Cx) (scope : Scope) (C : Addr) (N : List Str) (s₀ : Shared) (H₀ : Hp) (fp : List Addr) : Cx :=
  { X with N := N, s₀ := s₀, H₀ := H₀, env := compEnvC scope (clo X.env scope.names) C X.env, outer := X.stack, stack := X.stack, ex := fp, fn := fun _ => false, pn := [], xe := fun _ _ => False }
section
variable {X : Cx} {scope : Scope} {pins : List (Addr × Obj)} {σ : St} {H : Hp} {s : Shared} {fp : List Addr}
theorem lookup_relabel {env : Env} : ∀ {names : List (Str × NameKind)} {x : Str}, (∀ y ∈ names, y.2 ≠ .cell) →
    ((names.map fun (n, k) => if (k == NameKind.free && env.scope.kind == .function && env.kindOf n == some .cell) then (n, NameKind.cell) else (n, k)).lookup x = some .cell ∨
     (names.map fun (n, k) => if (k == NameKind.free && env.scope.kind == .function && env.kindOf n == some .cell) then (n, NameKind.cell) else (n, k)).lookup x = some .free) → (x, NameKind.free) ∈ names
  | [], _, _, h => by rcases h with h | h <;> simp at h
  | (n, k) :: r, x, hn, h => by
    have ih := @lookup_relabel env r x (fun y hy => hn y (List.mem_cons_of_mem _ hy))
    have hk : k ≠ .cell := hn (n, k) List.mem_cons_self
    rw [List.map_cons] at h
    by_cases hx : x = n
    · subst hx
      have hf : k = .free := by
        by_cases hc : (k == NameKind.free && env.scope.kind == .function && env.kindOf x == some .cell) = true
        · simp only [Bool.and_eq_true, beq_iff_eq] at hc
          exact hc.1.1
        · dsimp only at h
          rw [if_neg hc] at h
          rcases h with h | h
          · simp at h; exact absurd h hk
          · simpa using h
      subst hf
      exact List.mem_cons_self
    · have hx' : (x == n) = false := by simpa using hx
      refine List.mem_cons_of_mem _ (ih ?_)
      dsimp only at h ⊢
      by_cases hc : (k == NameKind.free && env.scope.kind == .function && env.kindOf n == some .cell) = true
      · rw [if_pos hc] at h
        simpa only [List.lookup_cons, hx'] using h
      · rw [if_neg hc] at h
        simpa only [List.lookup_cons, hx'] using h
theorem cxComp_ok {N : List Str} (I : Inv X pins σ H s) (S : CScope scope) (hf : ∀ b ∈ fp, FpOk X pins H b) (hlt : ∀ b ∈ fp, b < s.heap.objs.size)
    (hfree : ∀ x, (x, NameKind.free) ∈ scope.names → ∃ c, X.env.cells.lookup x = some c) : (cxComp X scope s.heap.objs.size N s H fp).Ok where
  mod := I.ok.mod
  kind := S.kind
  glob := I.ok.glob
  blt := I.ok.blt
  above := Nat.le_refl _
  inj := fun x y c h1 h2 => I.ok.inj x y c (clo_look h1) (clo_look h2)
  has := fun x hx => by
    have hm : (x, NameKind.free) ∈ scope.names := lookup_relabel S.nocell hx
    obtain ⟨c, hc⟩ := hfree x hm
    exact clo_has hc scope.names [] hm
  cab := fun x c h => absurd (show false = true from h) Bool.false_ne_true
  hd := I.ok.hd
  frames := I.ok.frames
  stk := .inl rfl
  exf := fun b hb => ⟨Nat.ne_of_lt (hlt b hb), fun x c h => (hf b hb).2.2.2.2.1 x c (clo_look h)⟩
  bs := fun b o e => I.bs b o e
  bsz := Nat.le_trans I.ok.bsz I.sz
  noex := fun b o e hb => by
    rcases (hf b hb).2.2.2.1 with z | z
    · exact I.ok.noex b o e z
    · exact absurd (Nat.lt_of_lt_of_le (Heap.lt_size e) I.ok.bsz) (Nat.not_lt.mpr z)
  exfs := fun b hb z => by
    rcases List.mem_cons.mp (I.stkSub b z) with e | e
    · exact (hf b hb).2.1 e
    · exact (hf b hb).2.2.1 e
  funs := I.stack
  frf := I.stkFree
/-- captured names: their places in the def's names, and in the block's scope they are free -/
structure Caps (X : Cx) (scope : Scope) (fr : List Nat) : Prop where
  cap : ∀ j ∈ fr, ∃ x, X.N[j]? = some x ∧ (X.env.scope.names.lookup x = some .cell ∨ X.env.scope.names.lookup x = some .free) ∧ scope.names.lookup x = some .free
  free : ∀ x, (x, NameKind.free) ∈ scope.names → X.env.scope.names.lookup x = some .cell ∨ X.env.scope.names.lookup x = some .free
/-- the block's names and their values -/
def nmC (X : Cx) (tgs : List Str) (fr : List Nat) : List Str := tgs ++ fr.map fun j => X.N.getD j ""
def stC (k : Nat) (fr : List Nat) (σ : St) : St := List.replicate k none ++ fr.map fun j => (σ[j]?).getD none
theorem relabel_free {env : Env} : ∀ {names : List (Str × NameKind)} {x : Str}, names.lookup x = some .free →
    ((names.map fun (n, k) => if (k == NameKind.free && env.scope.kind == .function && env.kindOf n == some .cell) then (n, NameKind.cell) else (n, k)).lookup x = some .cell ∨
     (names.map fun (n, k) => if (k == NameKind.free && env.scope.kind == .function && env.kindOf n == some .cell) then (n, NameKind.cell) else (n, k)).lookup x = some .free)
  | [], _, h => by simp at h
  | (n, k) :: r, x, h => by
    have ih := @relabel_free env r x
    rw [List.map_cons]
    dsimp only
    cases hx : x == n with
    | true =>
      rw [List.lookup_cons, hx] at h
      obtain rfl : k = .free := by simpa using h
      by_cases hc : (NameKind.free == NameKind.free && env.scope.kind == .function && env.kindOf n == some .cell) = true
      · rw [if_pos hc]; left; simp [List.lookup_cons, hx]
      · rw [if_neg hc]; right; simp [List.lookup_cons, hx]
    | false =>
      rw [List.lookup_cons, hx] at h
      by_cases hc : (k == NameKind.free && env.scope.kind == .function && env.kindOf n == some .cell) = true
      · rw [if_pos hc]; simpa only [List.lookup_cons, hx] using ih h
      · rw [if_neg hc]; simpa only [List.lookup_cons, hx] using ih h
theorem comp_inv {tgs : List Str} {fr : List Nat} {h₁ : Heap} {tk : Nat} (I : Inv X pins σ H s) (S : CScope scope) (P : Caps X scope fr) (hf : ∀ b ∈ fp, FpOk X pins H b) (hlt : ∀ b ∈ fp, b < s.heap.objs.size)
    {m : Str → Option Value} (hns : h₁.Ns s.heap.objs.size m) (hk : ∀ b o, s.heap.get? b = some o → h₁.get? b = some o) :
    Inv (cxComp X scope s.heap.objs.size (nmC X tgs fr) s H fp) [] (stC tgs.length fr σ) H { s with heap := h₁, toks := tk } := by
  have hfree : ∀ x, (x, NameKind.free) ∈ scope.names → ∃ c, X.env.cells.lookup x = some c := fun x hx => I.ok.has x (P.free x hx)
  refine ⟨cxComp_ok I S hf hlt hfree, rfl, I.bare, Un.kept hk, ⟨m, hns, fun i x v h1 h2 h3 => ?_⟩, fun x c h => ?_, I.hok.fresh (Nat.le_refl _), fun x c h => I.freeC x c (clo_look h), fun p hp => absurd (show p ∈ ([] : List (Addr × Obj)) from hp) (by simp), I.hok.kept hk, ?_⟩
  · have hi : tgs.length ≤ i := by
      by_cases hi : i < tgs.length
      · unfold stC at h2
        rw [List.getElem?_append_left (by simpa using hi), List.getElem?_replicate] at h2
        split at h2 <;> cases h2
      · omega
    have h1' : (fr.map fun j => X.N.getD j "")[i - tgs.length]? = some x := by
      have h1 : (nmC X tgs fr)[i]? = some x := h1
      unfold nmC at h1
      rw [List.getElem?_append_right hi] at h1
      exact h1
    have h2' : (fr.map fun j => (σ[j]?).getD none)[i - tgs.length]? = some (some v) := by
      unfold stC at h2
      rw [List.getElem?_append_right (by simpa using hi), List.length_replicate] at h2
      exact h2
    rw [List.getElem?_map] at h1' h2'
    cases ej : fr[i - tgs.length]? with
    | none => rw [ej] at h1'; cases h1'
    | some j =>
      rw [ej] at h1' h2'
      have e1 : X.N.getD j "" = x := Option.some.inj h1'
      have e2 : (σ[j]?).getD none = some v := Option.some.inj h2'
      obtain ⟨y, hy, hkx, hks⟩ := P.cap j (List.mem_of_getElem? ej)
      have exy : x = y := by
        rw [← e1, List.getD_eq_getElem?_getD, hy]; rfl
      subst exy
      have e3 : σ[j]? = some (some v) := by
        cases q : σ[j]? with
        | none => rw [q] at e2; cases e2
        | some o => rw [q] at e2; exact congrArg some e2
      obtain ⟨m0, hn0, hl⟩ := I.loc
      obtain ⟨u, r, l⟩ := hl j x v hy e3 (.inr hkx)
      refine ⟨u, r, .inr ⟨relabel_free hks, ?_⟩⟩
      obtain ⟨c, hc⟩ := I.ok.has x hkx
      obtain ⟨c', hc'⟩ := clo_has hc scope.names [] (PySem.mem_of_lookup hks)
      have hcc : X.env.cells.lookup x = some c' := clo_look hc'
      refine ⟨c', hc', ?_⟩
      rcases l with ⟨lk, _⟩ | ⟨_, c2, hc2, z⟩
      · have lk : X.env.scope.names.lookup x = some .local := lk
        rcases hkx with q | q <;> (rw [q] at lk; cases lk)
      · rw [hc2] at hcc; cases hcc
        obtain ⟨o, ho, hd⟩ := z
        exact ⟨o, hk _ o ho, hd⟩
  · obtain ⟨v, o, ho, hd⟩ := I.cell x c (clo_look h)
    exact ⟨v, o, hk _ o ho, hd⟩
  · show (stC tgs.length fr σ).length = (nmC X tgs fr).length
    unfold stC nmC
    simp
/-- back out of the block -/
theorem comp_out {N : List Str} {C : Addr} {σ' : St} {H' : Hp} {s' : Shared} {h' : Heap} (I : Inv X pins σ H s) (hC : C = s.heap.objs.size) (hf : ∀ b ∈ fp, FpOk X pins H b) (J : Inv (cxComp X scope C N s H fp) [] σ' H' s')
    (hs : Heap.SameBut C s'.heap h') : Inv X pins σ H' { s' with heap := h' } := by
  have nC : H' C = none := J.free
  have neC : ∀ b o, s.heap.get? b = some o → b ≠ C := fun b o e => by rw [hC]; exact Nat.ne_of_lt (Heap.lt_size e)
  have hok : HOk X.prog X.w H' h' := fun b ob e => by
    refine (J.hok b ob e).stay (fun c w' hc q => (hs.2 c ?_).trans q) (fun _ q => q) fun _ _ q => q
    rintro rfl
    rcases hc with rfl | hc
    · rw [nC] at e; cases e
    · rw [nC] at hc; cases hc
  have u : Un (frs X.stack) fp H H' s.heap s'.heap := J.base
  refine I.call' (s' := { s' with heap := h' }) (ch := fp) J.os ⟨fun b o e n hb hx => ?_, fun b o e n hb hx => ?_, u.free, fun b o e hx => ?_, u.tups, u.frzs, u.tbls⟩ hok J.bare fun b hb => ?_
  · exact (hs.2 b (neC b o e)).trans (u.keep b o e n hb hx)
  · obtain ⟨sl, q⟩ := u.slot b o e n hb hx
    exact ⟨sl, (hs.2 b (neC b o e)).trans q⟩
  · obtain ⟨o', q⟩ := u.there b o e hx
    exact ⟨o', (hs.2 b (neC b o e)).trans q⟩
  · obtain ⟨_, f1, f2, f3, f4, f5⟩ := hf b hb
    exact ⟨f3, f1, f4, f5⟩
end

/-! ### the loop -/
section
variable {prog : Program} {w : World} {A : Around} {R : Result → Shared → Prop} {s : Shared}
/-- no test, or one -/
def wpIfs (M : Model) (A : Around) (env : Env) : List Expr → (Bool → Shared → Prop) → Shared → Prop
  | [], Q, s => Q true s
  | c :: _, Q, s => wpAny M A (isTrue c env (eval c env)) Q (fun _ _ => False) s
theorem wpIfs_nil {M : Model} {A : Around} {env : Env} {Q : Bool → Shared → Prop} {s : Shared} : wpIfs M A env [] Q s = Q true s := rfl
theorem compLoop_gen {elt target iter : Expr} {ifs : List Expr} {scope : Scope} {pos : Pos} {it acc : Value} {env : Env} (hi : ifs = [] ∨ ∃ c, ifs = [c]) (I : Nat → Shared → Prop)
    (turn : ∀ n s, I n s → wpAny (model prog w) A (pyNext it) (fun r s₁ => match r with
      | none => R (.ok .next) s₁
      | some v => wpAny (model prog w) A (letOwnedTupleGo target it v) (fun _ s₁' => wpAny (model prog w) A (assign target env v) (fun _ s₂ => wpIfs (model prog w) A env ifs (fun ok s₃ =>
          if ok = true then wpAny (model prog w) A (eval elt env) (fun x s₄ => wpAny (model prog w) A (call (.builtin "list.append") [acc, x]) (fun _ s₅ => ∃ m, m < n ∧ I m s₅) (fun _ _ => False) s₄) (fun _ _ => False) s₃
          else ∃ m, m < n ∧ I m s₃) s₂) (fun _ _ => False) s₁') (fun _ _ => False) s₁) (fun _ _ => False) s)
    (n : Nat) (h : I n s) : codeAny (model prog w) A (.compLoop (.ListComp elt [⟨target, iter, ifs, 0⟩] scope pos) 0 it acc env) R s := by
  refine codeAny_loop rfl I (fun n s hI => ?_) n h
  show wpAny _ _ ((compTurn (.ListComp elt [⟨target, iter, ifs, 0⟩] scope pos) 0 it acc env).onRaise (fun x => do noteFrame x env; theTreesLotGoes x)) _ _ s
  refine wpAny_noted ?_
  have F : ∀ {α : Type} {m : Sem α} {Q : α → Shared → Prop} {E : Value → Shared → Prop} {s : Shared}, wpAny (model prog w) A m Q (fun _ _ => False) s → wpAny (model prog w) A m Q E s := fun h => wpAny_mono h (fun _ _ q => q) fun _ _ z => z.elim
  rcases hi with rfl | ⟨c, rfl⟩
  · have e : compTurn (.ListComp elt [⟨target, iter, [], 0⟩] scope pos) 0 it acc env = (standAt iter.pos >>= fun _ => pyNext it >>= fun r => match r with
      | none => pure (.done .next)
      | some v => letOwnedTupleGo target it v >>= fun _ => assign target env v >>= fun _ =>
        (eval elt env >>= fun x => call (.builtin "list.append") [acc, x] >>= fun _ => pure ()) >>= fun _ =>
          again (.compLoop (.ListComp elt [⟨target, iter, [], 0⟩] scope pos) 0 it acc env)) := by rfl
    rw [e]
    refine wpAny_bind (wpAny_standAt (wpAny_bind (F (thn (turn n s hI) fun r s₁ h₁ => ?_))))
    cases r with
    | none => exact wpAny_pure h₁
    | some v =>
      refine wpAny_bind (F (thn h₁ fun _ s1 h1 => wpAny_bind (F (thn h1 fun _ s2 h2 => ?_))))
      rw [wpIfs_nil, if_pos rfl] at h2
      exact wpAny_bind (wpAny_bind (F (thn h2 fun x s3 h3 => wpAny_bind (F (thn h3 fun _ s4 h4 => wpAny_pure (wpAny_pure ⟨rfl, h4⟩))))))
  · have e : compTurn (.ListComp elt [⟨target, iter, [c], 0⟩] scope pos) 0 it acc env = (standAt iter.pos >>= fun _ => pyNext it >>= fun r => match r with
      | none => pure (.done .next)
      | some v => letOwnedTupleGo target it v >>= fun _ => assign target env v >>= fun _ =>
        (forIn [c] true fun c r => if r = true then (do let ok ← isTrue c env (eval c env); pure (ForInStep.yield ok)) else pure (ForInStep.yield r)) >>= fun ok =>
          if ok = true then (eval elt env >>= fun x => call (.builtin "list.append") [acc, x] >>= fun _ => pure ()) >>= fun _ => again (.compLoop (.ListComp elt [⟨target, iter, [c], 0⟩] scope pos) 0 it acc env)
          else again (.compLoop (.ListComp elt [⟨target, iter, [c], 0⟩] scope pos) 0 it acc env)) := by rfl
    rw [e]
    refine wpAny_bind (wpAny_standAt (wpAny_bind (F (thn (turn n s hI) fun r s₁ h₁ => ?_))))
    cases r with
    | none => exact wpAny_pure h₁
    | some v =>
      refine wpAny_bind (F (thn h₁ fun _ s1 h1 => wpAny_bind (F (thn h1 fun _ s2 h2 => ?_))))
      have h2 : wpAny (model prog w) A (isTrue c env (eval c env)) _ (fun _ _ => False) s2 := h2
      refine wpAny_bind ?_
      rw [List.forIn_cons]
      refine wpAny_bind ?_
      rw [if_pos rfl]
      refine wpAny_bind (F (thn h2 fun ok s3 h3 => wpAny_pure ?_))
      show wpAny _ _ (forIn ([] : List Expr) ok _) _ _ s3
      rw [List.forIn_nil]
      refine wpAny_pure ?_
      cases ok with
      | true =>
        rw [if_pos rfl] at h3 ⊢
        exact wpAny_bind (wpAny_bind (F (thn h3 fun x s4 h4 => wpAny_bind (F (thn h4 fun _ s5 h5 => wpAny_pure (wpAny_pure ⟨rfl, h5⟩))))))
      | false =>
        rw [if_neg Bool.false_ne_true] at h3 ⊢
        exact wpAny_pure ⟨rfl, h3⟩
end

/-! ### the rule -/
abbrev TTo := Option TT
def tIfs : TTo → TT
  | none => fun _ H Q => Q true H
  | some t => t
theorem tIfs_none {σ : St} {H : Hp} {Q : Bool → Hp → Prop} : tIfs none σ H Q = Q true H := rfl
/-- nothing that is known is lost -/
def Wk (σ σ2 : St) : Prop := ∀ (i : Nat) (v : V), σ[i]? = some (some v) → σ2[i]? = some (some v)
theorem Wk.refl (σ : St) : Wk σ σ := fun _ _ h => h
theorem Wk.set {σ σ2 : St} {i : Nat} {o : Option V} (w : Wk σ σ2) (hi : σ[i]? = some none) : Wk σ (σ2.set i o) := fun j v h => by
  by_cases e : i = j
  · subst e; rw [hi] at h; cases h
  · rw [List.getElem?_set_ne e]; exact w j v h
/-- W: turn, measure, the list so far, the heap (the list at D stands in it) -/
def tComp (wi : TI) (k : Nat) (fr : List Nat) (g : TG) (tt : TTo) (te : TE) : TE := fun σ H Q => wi σ H fun J H1 => ∀ D, H1 D = none → ∃ W : Nat → Nat → List V → Hp → Prop, (∃ m, W 0 m [] (upd H1 D (.lst []))) ∧
  ∀ i m ys H, W i m ys H → (J.stop i H ∧ Q (.ref D) H) ∨ (J.go i H ∧ ∀ x H', J.yld i H x H' → g x (stC k fr σ) H' fun σ2 H2 => Wk (stC k fr σ) σ2 ∧ tIfs tt σ2 H2 fun c H3 =>
    if c = true then te σ2 H3 fun v H4 => H4 D = some (.lst ys) ∧ ys.length < sizeLine ∧ ∃ m', m' < m ∧ W (i + 1) m' (ys ++ [v]) (upd H4 D (.lst (ys ++ [v]))) else ∃ m', m' < m ∧ W (i + 1) m' ys H3)
/-- the tests' readings in the block -/
def PIfs (X : Cx) : List Expr → TTo → Prop
  | [], none => True
  | [c], some t => PT X c t
  | _, _ => False
section
variable {X : Cx} {scope : Scope} {tg elt iter : Expr} {ifs : List Expr} {tgs : List Str} {fr : List Nat} {g : TG} {tt : TTo} {te : TE} {pos : Pos}
/-- the block's parts, wherever its frame, its entry and its iterator lie -/
structure Block (X : Cx) (scope : Scope) (tgs : List Str) (fr : List Nat) (tg elt : Expr) (ifs : List Expr) (g : TG) (tt : TTo) (te : TE) : Prop where
  sc : CScope scope
  caps : Caps X scope fr
  calm : X.calm = true
  tgt : ∀ C s₀ H₀ fp, PG (cxComp X scope C (nmC X tgs fr) s₀ H₀ fp) tg g
  ift : ∀ C s₀ H₀ fp, PIfs (cxComp X scope C (nmC X tgs fr) s₀ H₀ fp) ifs tt
  el : ∀ C s₀ H₀ fp, PE (cxComp X scope C (nmC X tgs fr) s₀ H₀ fp) elt te
theorem Block.few {X : Cx} (B : Block X scope tgs fr tg elt ifs g tt te) (s : Shared) : ifs = [] ∨ ∃ c, ifs = [c] := by
  have h := B.ift 0 s (fun _ => none) []
  match ifs, tt, h with
  | [], none, _ => exact .inl rfl
  | [c], some _, _ => exact .inr ⟨c, rfl⟩
theorem comp_run (B : Block X scope tgs fr tg elt ifs g tt te) {pins : List (Addr × Obj)} {σ : St} {H1 : Hp} {s : Shared} {it : Addr} {fp : List Addr} {tn : Nat → Heap → Prop} {J : It} {Q : VK} {RR : Value → Addr → Result → Shared → Prop} {E : Value → Shared → Prop}
    (I : Inv X pins σ H1 s) (T : Turn X.prog X.w X.K tg J fp it tn) (t0 : tn 0 s.heap) (hf : ∀ b ∈ fp, FpOk X pins H1 b)
    (hw : ∀ D, H1 D = none → ∃ W : Nat → Nat → List V → Hp → Prop, (∃ m, W 0 m [] (upd H1 D (.lst []))) ∧
      ∀ i m ys H, W i m ys H → (J.stop i H ∧ Q (.ref D) H) ∨ (J.go i H ∧ ∀ x H', J.yld i H x H' → g x (stC tgs.length fr σ) H' fun σ2 H2 => Wk (stC tgs.length fr σ) σ2 ∧ tIfs tt σ2 H2 fun c H3 =>
        if c = true then te σ2 H3 fun v H4 => H4 D = some (.lst ys) ∧ ys.length < sizeLine ∧ ∃ m', m' < m ∧ W (i + 1) m' (ys ++ [v]) (upd H4 D (.lst (ys ++ [v]))) else ∃ m', m' < m ∧ W (i + 1) m' ys H3))
    (hR : ∀ D C H' s', Inv X pins σ H' s' → H' C = none → C ≠ X.env.locals → X.s₀.heap.objs.size ≤ C → (∀ x c, X.env.cells.lookup x = some c → c ≠ C) → (∀ p ∈ X.pn ++ pins, p.1 ≠ C) → (∃ m, s'.heap.Ns C m) → Q (.ref D) H' → RR (.ref D) C (.ok .next) s') :
    wpAny (model X.prog X.w) X.A (newList []) (fun acc s₃ => wpAny (model X.prog X.w) X.A (newFunctionEnv scope X.env.globals (clo X.env scope.names) [] X.env.qual none .none (some X.env)) (fun cenv s₄ =>
      codeAny (model X.prog X.w) X.A (.compStart (.ListComp elt [⟨tg, iter, ifs, 0⟩] scope pos) 0 (.ref it) acc { cenv with scope := relabel scope X.env }) (RR acc cenv.locals) s₄) E s₃) E s := by
  have few := B.few s
  refine wpAny_newObj_type ?_ (Nat.zero_le _)
  have nD : H1 s.heap.objs.size = none := I.hok.fresh (Nat.le_refl _)
  have I3 : Inv X pins σ (upd H1 s.heap.objs.size (.lst [])) { s with heap := s.heap.push { cls := .type "list", data := .seq ([] : List Value).toArray } } :=
    I.laid (t' := s.toks) (fun _ _ q => Heap.get?_push_of_some _ q) (Nat.le_refl _) ⟨Nat.zero_le _, [], 0, .nil, Heap.get?_push_size _ rfl⟩
  obtain ⟨W, ⟨m0, w0⟩, turn⟩ := hw _ nD
  have lt0 : ∀ b ∈ fp, b < s.heap.objs.size := fun b hb => let ⟨o, e, _⟩ := T.obj 0 _ t0 b hb; Heap.lt_size e
  have hf3 : ∀ b ∈ fp, FpOk X pins (upd H1 s.heap.objs.size (.lst [])) b := fun b hb => by
    obtain ⟨a0, a1⟩ := hf b hb
    exact ⟨by rw [upd_ne (Nat.ne_of_lt (lt0 b hb))]; exact a0, a1⟩
  refine wpAny_newFunctionEnv B.sc.nocell (fun y hy => nomatch hy) (fun h₁ hns hsb => ?_) B.sc.kind
  generalize hs3 : ({ s with heap := s.heap.push { cls := .type "list", data := .seq ([] : List Value).toArray } } : Shared) = s3 at I3 hns hsb ⊢
  have lt3 : ∀ b ∈ fp, b < s3.heap.objs.size := fun b hb => by
    rw [← hs3]; show b < (s.heap.push _).objs.size; rw [Heap.size_push]; exact Nat.lt_succ_of_lt (lt0 b hb)
  have k3 : ∀ b o, s3.heap.get? b = some o → h₁.get? b = some o := fun b o e => (hsb.2 b (Nat.ne_of_lt (Heap.lt_size e))).trans (Heap.get?_push_of_some _ e)
  have k0 : ∀ b o, s.heap.get? b = some o → s3.heap.get? b = some o := fun b o e => by rw [← hs3]; exact Heap.get?_push_of_some _ e
  have JI := comp_inv (tgs := tgs) (tk := s3.toks + ([] : List (Str × Value)).length) I3 B.sc B.caps hf3 lt3 hns k3
  have t1 : tn 0 h₁ := T.keep _ _ _ t0 fun b hb o e => k3 b o (k0 b o e)
  have loop : codeAny (model X.prog X.w) X.A (.compLoop (.ListComp elt [⟨tg, iter, ifs, 0⟩] scope pos) 0 (.ref it) (.ref s.heap.objs.size) (compEnvC scope (clo X.env scope.names) s3.heap.objs.size X.env))
      (RR (.ref s.heap.objs.size) s3.heap.objs.size) { s3 with heap := h₁, toks := s3.toks + ([] : List (Str × Value)).length } := by
    refine compLoop_gen few (fun n s' => ∃ i ys σ' H', Inv (cxComp X scope s3.heap.objs.size (nmC X tgs fr) s3 (upd H1 s.heap.objs.size (.lst [])) fp) [] σ' H' s' ∧ Wk (stC tgs.length fr σ) σ' ∧ tn i s'.heap ∧ (∀ b ∈ fp, H' b = none) ∧ W i n ys H')
      ?_ m0 ⟨0, [], _, _, JI, Wk.refl _, t1, fun b hb => (hf3 b hb).1, w0⟩
    rintro n s5 ⟨i, ys, σ5, H5, J5, wk5, t5, fr5, w5⟩
    have fpo : ∀ {H' : Hp}, (∀ b ∈ fp, H' b = none) → ∀ b ∈ fp, FpOk (cxComp X scope s3.heap.objs.size (nmC X tgs fr) s3 (upd H1 s.heap.objs.size (.lst [])) fp) [] H' b := fun {H'} hn b hb =>
      ⟨hn b hb, (J5.ok.exf b hb).1, J5.ok.exfs b hb, .inl hb, fun x c e => (J5.ok.exf b hb).2 x c e, fun p hp => absurd (show p ∈ ([] : List (Addr × Obj)) from hp) (by simp)⟩
    have J5' := J5.weak (σ' := stC tgs.length fr σ) (by rw [J5.len]; exact JI.len) wk5
    rcases turn i n ys H5 w5 with ⟨stop, q⟩ | ⟨go, step⟩
    · refine thn (T.done (cxComp X scope s3.heap.objs.size (nmC X tgs fr) s3 (upd H1 s.heap.objs.size (.lst [])) fp) rfl rfl rfl B.calm i [] s5 _ H5 _ J5' (fpo fr5) t5 stop) fun r s6 ⟨hr, J6⟩ => ?_
      subst hr
      have I6 : Inv X pins σ H5 s6 := comp_out (h' := s6.heap) I3 rfl hf3 J6 (Heap.SameBut.refl ..)
      obtain ⟨m6, n6, _⟩ := J6.loc
      have szC := J6.ok.above
      exact hR _ _ H5 s6 I6 J6.free (Nat.ne_of_gt I3.lt) I3.sz (fun x c e z => by
        obtain ⟨v, o, ho, _⟩ := I3.cell x c e
        exact absurd (Heap.lt_size ho) (by rw [z]; exact Nat.lt_irrefl _)) (fun p hp z => absurd (Heap.lt_size (I3.pin p hp).1) (by rw [z]; exact Nat.lt_irrefl _)) ⟨m6, n6⟩ q
    · refine thn (T.item (cxComp X scope s3.heap.objs.size (nmC X tgs fr) s3 (upd H1 s.heap.objs.size (.lst [])) fp) rfl rfl rfl B.calm i [] s5 _ H5 _ J5' (fpo fr5) t5 go) fun r s6 ⟨u, hr, h6⟩ => ?_
      subst hr
      refine thn h6 fun _ s7 ⟨x, H7, J7, r7, y7, t7, fr7⟩ => ?_
      have J7' := J7.pinned (fpo fr7) (T.obj _ _ t7)
      refine thn (B.tgt _ _ _ _ _ s7 _ H7 x u _ J7' r7 (step x H7 y7)) fun _ s8 ⟨σ8, H8, J8, wk8, q8⟩ => ?_
      have again : ∀ {s9 : Shared} {H9 : Hp} {zs : List V}, Inv (cxComp X scope s3.heap.objs.size (nmC X tgs fr) s3 (upd H1 s.heap.objs.size (.lst [])) fp) ([] ++ pinsAt fp s7.heap) σ8 H9 s9 → (∃ m', m' < n ∧ W (i + 1) m' zs H9) →
          ∃ m, m < n ∧ ∃ i ys σ' H', Inv (cxComp X scope s3.heap.objs.size (nmC X tgs fr) s3 (upd H1 s.heap.objs.size (.lst [])) fp) [] σ' H' s9 ∧ Wk (stC tgs.length fr σ) σ' ∧ tn i s9.heap ∧ (∀ b ∈ fp, H' b = none) ∧ W i m ys H' := fun {s9 H9 zs} J9 ⟨m', hm, w9⟩ => by
        refine ⟨m', hm, i + 1, zs, σ8, H9, J9.unpinned, wk8, T.keep _ _ _ t7 fun b hb o e => (J9.pin (b, o) (List.mem_append_right _ (List.mem_append_right _ (mem_pinsAt hb e)))).1, fun b hb => ?_, w9⟩
        obtain ⟨o, e, _⟩ := T.obj _ _ t7 b hb
        exact (J9.pin (b, o) (List.mem_append_right _ (List.mem_append_right _ (mem_pinsAt hb e)))).2.1
      have fin : ∀ {s9 : Shared} {H9 : Hp}, Inv (cxComp X scope s3.heap.objs.size (nmC X tgs fr) s3 (upd H1 s.heap.objs.size (.lst [])) fp) ([] ++ pinsAt fp s7.heap) σ8 H9 s9 →
          te σ8 H9 (fun v H4 => H4 s.heap.objs.size = some (.lst ys) ∧ ys.length < sizeLine ∧ ∃ m', m' < n ∧ W (i + 1) m' (ys ++ [v]) (upd H4 s.heap.objs.size (.lst (ys ++ [v])))) →
          wpAny (model X.prog X.w) X.A (eval elt (compEnvC scope (clo X.env scope.names) s3.heap.objs.size X.env)) (fun x s₄ => wpAny (model X.prog X.w) X.A (call (.builtin "list.append") [.ref s.heap.objs.size, x]) (fun _ s₅ => ∃ m, m < n ∧ ∃ i ys σ' H', Inv (cxComp X scope s3.heap.objs.size (nmC X tgs fr) s3 (upd H1 s.heap.objs.size (.lst [])) fp) [] σ' H' s₅ ∧ Wk (stC tgs.length fr σ) σ' ∧ tn i s₅.heap ∧ (∀ b ∈ fp, H' b = none) ∧ W i m ys H') (fun _ _ => False) s₄) (fun _ _ => False) s9 := fun {s9 H9} J9 q9 => by
        refine thn (B.el _ _ _ _ _ s9 σ8 H9 _ J9 q9) fun v sA ⟨y, HA, JA, rA, eD, ez, qA⟩ => ?_
        exact thn (mt_append (X := cxComp X scope s3.heap.objs.size (nmC X tgs fr) s3 (upd H1 s.heap.objs.size (.lst [])) fp) _ sA σ8 HA (.ref s.heap.objs.size) [y] (.ref s.heap.objs.size) [v] (fun _ H' => H' = upd HA s.heap.objs.size (.lst (ys ++ [y]))) JA rfl (.cons rA .nil)
          ⟨_, ys, y, rfl, rfl, eD, ez, rfl⟩) fun _ sB ⟨_, HB, JB, _, eB⟩ => by subst eB; exact again JB qA
      match ifs, tt, B.ift s3.heap.objs.size s3 (upd H1 s.heap.objs.size (.lst [])) fp, q8 with
      | [], none, _, q8 =>
        rw [tIfs_none, if_pos rfl] at q8
        rw [wpIfs_nil, if_pos rfl]
        exact fin J8 q8
      | [c], some t, hc, q8 =>
        show wpAny _ _ (isTrue c _ (eval c _)) _ _ s8
        refine thn (hc _ s8 σ8 H8 _ J8 q8) fun ok s9 ⟨H9, J9, q9⟩ => ?_
        cases ok with
        | true =>
          rw [if_pos rfl] at q9 ⊢
          exact fin J9 q9
        | false =>
          rw [if_neg Bool.false_ne_true] at q9 ⊢
          exact again J9 q9
  refine codeAny_compStart_list loop (T.self _ _ _ _ _ t1 loop)
/-- [elt for tg in iter (if test)] -/
theorem pe_comp {wi : TI} (hi : PI X tg iter wi) (B : Block X scope tgs fr tg elt ifs g tt te) (hs : ∀ x, foldedSetIterable iter X.env x = pure x := by intro _; rfl) :
    PE X (.ListComp elt [⟨tg, iter, ifs, 0⟩] scope pos) (tComp wi tgs.length fr g tt te) := by
  intro pins s σ H Q I h
  rw [eval_ListComp]
  have hclo : closureFor scope X.env = pure (clo X.env scope.names) := closureFor_clo fun x hx e => I.ok.has x.1 (B.caps.free x.1 (by rw [← e]; exact hx))
  refine wpAny_comprehension_free (use := none) rfl hs hclo B.sc.kind B.sc.names (thn (hi pins s σ H _ I h) fun v s1 h1 => thn h1 fun itv s2 h2 => ?_)
  obtain ⟨it, fp, tn, J, H2, e, I2, T, t0, f0, hw⟩ := h2
  subst e
  refine comp_run (RR := fun acc C => compPost (model X.prog X.w) X.A X.xe none (EP X pins σ Q) acc C) (Q := Q) B I2 T t0 f0 hw fun D C H' s' I' nC c1 c2 c3 c4 ns q => ?_
  obtain ⟨m, hm⟩ := ns
  exact ⟨m, hm, fun h' sb => ⟨.ref D, H', I'.turned (t' := s'.toks) (fun b o hb e => (sb.2 b hb).trans e) nC c1 (.inr c2) c3 c4, rfl, q⟩⟩
/-- name = [elt for tg in iter (if test)] -/
theorem ps_setComp (hN : X.N.Nodup) (i : Nat) {x : Str} {pos' spos : Pos} {wi : TI} (hi : PI X tg iter wi) (B : Block X scope tgs fr tg elt ifs g tt te) (hix : X.N[i]? = some x := by rfl) (hx : Loc X.env.scope x := by first | exact Or.inl rfl | exact Or.inr rfl)
    (hsw : swapsWith (.ListComp elt [⟨tg, iter, ifs, 0⟩] scope pos) (some (.Name x pos')) spos.line X.env = pure true := by rfl)
    (hf : X.fn x = true ∨ X.env.scope.names.lookup x = some .local := by first | exact .inl rfl | exact .inr rfl | assumption) (hs : ∀ x, foldedSetIterable iter X.env x = pure x := by intro _; rfl) :
    PS X (.Assign [.Name x pos'] (.ListComp elt [⟨tg, iter, ifs, 0⟩] scope pos) spos) (tAsg (tComp wi tgs.length fr g tt te) (gName i)) := by
  intro pins s σ H Dn I h
  have hclo : closureFor scope X.env = pure (clo X.env scope.names) := closureFor_clo fun x hx e => I.ok.has x.1 (B.caps.free x.1 (by rw [← e]; exact hx))
  rw [exec_Assign_Name_used _ _ _ _ hsw]
  refine wpAny_bind (wpAny_standAt (wpAny_bind ?_))
  show wpAny _ X.A (do let _ ← comprehension (.ListComp elt [⟨tg, iter, ifs, 0⟩] scope pos) scope X.env _ (newList []) false (eval iter X.env) (some (assign (.Name x pos') X.env))) _ _ s
  refine wpAny_bind (wpAny_mono (wpAny_comprehension_free (use := some (assign (.Name x pos') X.env)) (Q := fun _ s' => SP X pins Dn .next s') rfl hs hclo B.sc.kind B.sc.names
    (thn (hi pins s σ H _ I h) fun v s1 h1 => thn h1 fun itv s2 h2 => ?_)) (fun _ s' hq => wpAny_pure (wpAny_pure hq)) fun _ _ e => e)
  obtain ⟨it, fp, tn, J, H2, e, I2, T, t0, f0, hw⟩ := h2
  subst e
  refine comp_run (RR := fun acc C => compPost (model X.prog X.w) X.A X.xe (some (assign (.Name x pos') X.env)) (fun _ s' => SP X pins Dn .next s') acc C) (Q := fun y H1 => gName i y σ H1 Dn.nx) B I2 T t0 f0 hw fun D C H' s' I' nC c1 c2 c3 c4 ns q => ?_
  obtain ⟨m, hm⟩ := ns
  show wpAny _ X.A (assign (.Name x pos') X.env (.ref D)) _ _ s'
  refine wpAny_assign_Name (store_ok2 (v := .ref D) I' hN hix hx rfl (fun s'' I'' ch => ?_) hf)
  obtain ⟨a, sb, ha⟩ := ch
  have hCa : C ≠ a := by
    rcases ha with ha | ha
    · rw [ha]; exact c1
    · exact fun z => c3 x a ha z.symm
  refine ⟨m, hm.sameBut sb hCa, fun h' sb' => ⟨_, H', I''.turned (t' := s''.toks) (fun b o hb e => (sb'.2 b hb).trans e) nC c1 (.inr c2) c3 c4, q⟩⟩
end
end L2

set_option Elab.async false
set_option linter.all false
set_option maxRecDepth 100000
set_option maxHeartbeats 1000000
namespace L2
open PySem PySem.Spec PyProof.Rows
section
variable {X : Cx}
theorem PE.imp {e : Expr} {t t' : TE} (h : PE X e t) (i : ∀ σ H Q, t' σ H Q → t σ H Q) : PE X e t' := fun pins s σ H Q I hw => h pins s σ H Q I (i σ H Q hw)
theorem OpR.imp {f : Value → Value → Sem Value} {r r' : R2} (h : OpR X f r) (i : ∀ x y H Q, r' x y H Q → r x y H Q) : OpR X f r' := fun pins s σ H x y v u Q I rx ry hw => h pins s σ H x y v u Q I rx ry (i x y H Q hw)
theorem CallR.imp {f : Value} {r r' : List V → Hp → VK → Prop} (h : CallR X f r) (i : ∀ xs H Q, r' xs H Q → r xs H Q) : CallR X f r' := fun pins s σ H xs us Q I rx hw => h pins s σ H xs us Q I rx (i xs H Q hw)

/-! ### names, types as values, stores -/
def gV (i : Nat) : TE := fun σ H Q => match σ[i]? with
  | some (some v) => Q v H
  | _ => False
theorem nv (i : Nat) {x : Str} {pos : Pos} (hN : X.N[i]? = some x := by rfl) (hv : Vis X.env.scope x := by first | exact Or.inl rfl | exact Or.inr (Or.inl rfl) | exact Or.inr (Or.inr rfl)) (hd : (x == ("__debug__" : Str)) = false := by decide)
    (hcd : (x == ("__classdict__" : Str)) = false := by decide) : PE X (.Name x pos) (gV i) :=
  (pe_var hN hv hd hcd).imp fun σ H Q h => by
    unfold gV at h
    split at h
    · exact ⟨_, ‹_›, h⟩
    · exact h.elim
theorem nt {x : Str} {T : String} {pos : Pos} (hm : X.mg x = none) (hv : bootBuiltins x = some (.type T)) (hg : Gl X x := by rfl) (hn : x ≠ "__name__" := by decide) (hd : (x == ("__debug__" : Str)) = false := by decide) : PE X (.Name x pos) (tC (.ty T)) := pe_bltn hg hm hv rfl hn hd
theorem ps_setG (hN : X.N.Nodup) (i : Nat) {x : Str} {e : Expr} {te : TE} {pos pos' : Pos} (he : PE X e te) (hi : X.N[i]? = some x := by rfl) (hx : Loc X.env.scope x := by first | exact Or.inl rfl | exact Or.inr rfl)
    (hs : swapsWith e (some (.Name x pos')) pos.line X.env = pure false := by rfl) (hf : X.fn x = true ∨ X.env.scope.names.lookup x = some .local := by first | exact .inl rfl | exact .inr rfl | assumption) :
    PS X (.Assign [.Name x pos'] e pos) (tAsg te (gName i)) := ps_set hN hi hx he hs hf
theorem pg_nameG (hN : X.N.Nodup) (i : Nat) {x : Str} {pos : Pos} (hi : X.N[i]? = some x := by rfl) (hx : Loc X.env.scope x := by first | exact Or.inl rfl | exact Or.inr rfl) (hf : X.fn x = true ∨ X.env.scope.names.lookup x = some .local := by first | exact .inl rfl | exact .inr rfl | assumption) :
    PG X (.Name x pos) (gName i) := pg_name hN hi hx hf

/-! ### arithmetic -/
def gAdd (K : PySem.W.Frag) : R2 := fun x y H Q => match x, y with
  | .int i, .int j => Q (.int (i + j)) H
  | .str i, .str j => i.length + j.length ≤ sizeLine ∧ Q (.str (i ++ j)) H
  | .ref a, .ref b => (∃ xs zs, H a = some (.lst xs) ∧ H b = some (.lst zs) ∧ xs.length + zs.length ≤ sizeLine ∧ ∀ p, H p = none → Q (.ref p) (upd H p (.lst (xs ++ zs)))) ∨
      (∃ xs ys, SqT K H a xs ∧ SqT K H b ys ∧ xs ≠ [] ∧ ys ≠ [] ∧ xs.length + ys.length ≤ sizeLine ∧ ∀ p, H p = none → Q (.ref p) (upd H p (.tup (xs ++ ys))))
  | _, _ => False
theorem op_addG : OpR X (binaryOp .Add) (gAdd X.K) := by
  intro pins s σ H x y v u Q I rx ry h
  unfold gAdd at h
  split at h
  · exact op_add pins s σ H _ _ v u Q I rx ry ⟨_, _, rfl, rfl, h⟩
  · exact op_add_str pins s σ H _ _ v u Q I rx ry ⟨_, _, rfl, rfl, h.1, h.2⟩
  · rcases h with ⟨xs, zs, h1, h2, h3, h4⟩ | ⟨xs, ys, h1, h2, h3, h4, h5, h6⟩
    · exact op_cat pins s σ H _ _ v u Q I rx ry ⟨_, _, xs, zs, rfl, rfl, h1, h2, h3, h4⟩
    · exact op_catT pins s σ H _ _ v u Q I rx ry ⟨_, _, xs, ys, rfl, rfl, h1, h2, h3, h5, fun z => absurd z h4, fun _ => h6⟩
  · exact h.elim
def gMinus : R2 := fun x y H Q => match x, y with
  | .int i, .int j => Q (.int (i - j)) H
  | _, _ => False
theorem op_subG : OpR X (binaryOp .Sub) gMinus := op_sub.imp fun x y H Q h => by
  unfold gMinus at h
  split at h
  · exact ⟨_, _, rfl, rfl, h⟩
  · exact h.elim
theorem op_mul_str : OpR X (binaryOp .Mult) (fun x y H Q => ∃ z n, x = .str z ∧ y = .int n ∧ MulOk z n ∧ Q (.str (Txt.mul z n)) H) := by
  intro pins s σ H x y v u Q I rx ry h
  obtain ⟨z, n, rfl, rfl, hm, q⟩ := h
  obtain ⟨t, rfl⟩ := rx
  obtain ⟨t', rfl⟩ := ry
  exact SB.mul hm fun t' k => ⟨.str _, H, I.tok k, ⟨t', rfl⟩, q⟩
def gMul : R2 := fun x y H Q => match x, y with
  | .int i, .int j => CMul i j ∧ Q (.int (i * j)) H
  | .str z, .int n => MulOk z n ∧ Q (.str (Txt.mul z n)) H
  | .ref l, .int k => ∃ xs, H l = some (.lst xs) ∧ -(2 ^ 63) ≤ k ∧ k < 2 ^ 63 ∧ xs.length * k.toNat ≤ sizeLine ∧ ∀ p, H p = none → Q (.ref p) (upd H p (.lst (List.replicate k.toNat xs).flatten))
  | _, _ => False
theorem op_mulG : OpR X (binaryOp .Mult) gMul := by
  intro pins s σ H x y v u Q I rx ry h
  unfold gMul at h
  split at h
  · exact op_mul pins s σ H _ _ v u Q I rx ry ⟨_, _, rfl, rfl, h.1, h.2⟩
  · exact op_mul_str pins s σ H _ _ v u Q I rx ry ⟨_, _, rfl, rfl, h.1, h.2⟩
  · obtain ⟨xs, h1, h2, h3, h4, h5⟩ := h
    exact op_rep pins s σ H _ _ v u Q I rx ry ⟨_, _, xs, rfl, rfl, h1, h2, h3, h4, h5⟩
  · exact h.elim
def gMod : R2 := fun x y H Q => match x, y with
  | .int i, .int j => 0 < j ∧ Q (.int (i % j)) H
  | _, _ => False
theorem op_modG : OpR X (binaryOp .Mod) gMod := op_mod.imp fun x y H Q h => by
  unfold gMod at h
  split at h
  · exact ⟨_, _, rfl, rfl, h.1, h.2⟩
  · exact h.elim
def gDiv : R2 := fun x y H Q => match x, y with
  | .int i, .int j => CDiv i j ∧ Q (.int (i / j)) H
  | _, _ => False
def gNeg : V → Hp → VK → Prop := fun x H Q => match x with
  | .int i => Q (.int (-i)) H
  | _ => False
/-! ### orders -/
def gCmp (p : Int → Int → Bool) : R2 := fun x y H Q => match x, y with
  | .int i, .int j => Q (.bl (p i j)) H
  | _, _ => False
theorem gCmp_imp {f : Value → Value → Sem Value} {p : Int → Int → Bool} (h : OpR X f (rI0 fun i j => .bl (p i j))) : OpR X f (gCmp p) := h.imp fun x y H Q h => by
  unfold gCmp at h
  split at h
  · exact ⟨_, _, rfl, rfl, h⟩
  · exact h.elim
theorem op_ltG : OpR X (compareOp .Lt) (gCmp fun i j => decide (i < j)) := gCmp_imp op_lt
theorem op_leG : OpR X (compareOp .LtE) (gCmp fun i j => decide (i ≤ j)) := gCmp_imp op_le
theorem op_gtG : OpR X (compareOp .Gt) (gCmp fun i j => decide (j < i)) := gCmp_imp op_gt
/-! ### items -/
inductive Item (K : PySem.W.Frag) (H : Hp) : V → V → V → Prop where
  | lst {p : Addr} {xs : List V} {i : Int} {v : V} (h : SqL K H p xs) (e : atI xs i = some v) : Item K H (.ref p) (.int i) v
  | tup {p : Addr} {xs : List V} {i : Int} {v : V} (h : SqT K H p xs) (e : atI xs i = some v) : Item K H (.ref p) (.int i) v
  | str {z : Str} {i : Int} {c : Nat} (hz : z.length ≤ sizeLine) (e : atI z.cps.toList i = some c) : Item K H (.str z) (.int i) (.str ⟨#[c]⟩)
  | dct {a : Addr} {y v : V} (g : DGet H a y (some v)) : Item K H (.ref a) y v
theorem ixG (hu : X.A.units + 1 < cLine) : IxR X (fun x y H Q => ∃ v, Item X.K H x y v ∧ Q v H) := by
  intro value slice pins s σ H x y v u Q I rx ry h hs
  obtain ⟨z, it, q⟩ := h
  cases it with
  | lst h e => exact ix_list value slice pins s σ H _ _ v u Q I rx ry ⟨_, _, _, _, rfl, rfl, h, e, q⟩ hs
  | tup h e => exact ix_tup value slice pins s σ H _ _ v u Q I rx ry ⟨_, _, _, _, rfl, rfl, h, e, q⟩ hs
  | str h e => exact ix_str value slice pins s σ H _ _ v u Q I rx ry ⟨_, _, _, rfl, rfl, h, e, q⟩ hs
  | @dct a _ _ g =>
    obtain rfl : v = Value.ref a := rx
    exact tail_any (dict_typeIs I g) PySem.F.slot_dict_getitem.lookup (d_getItem hu I g ry fun w' s3 I3 rw' => ⟨_, H, I3, rw', q⟩) hs
/-! ### calls of built-ins -/
theorem tyOf_kit {pins : List (Addr × Obj)} {σ : St} {H : Hp} {s : Shared} {x : V} {u t : Value} (I : Inv X pins σ H s) (rx : RelV x u) (ty : TyOf X.K H x t) : ∃ P : Heap → Prop, PySem.W.KitX X.K u t P ∧ P s.heap ∧ u ≠ .builtin "__main__.__loader__#opaque" := by
  cases ty with
  | non => cases (show u = Value.none from rx); exact ⟨_, PySem.W.kitx_none, True.intro, fun z => nomatch z⟩
  | bl y => cases (show u = Value.bool y from rx); exact ⟨_, PySem.W.kitx_bool, True.intro, fun z => nomatch z⟩
  | int i => obtain ⟨t, q⟩ := (show ∃ t, u = Value.int i t from rx); cases q; exact ⟨_, PySem.W.kitx_int, True.intro, fun z => nomatch z⟩
  | str y => obtain ⟨t, q⟩ := (show ∃ t, u = Value.str y t from rx); cases q; exact ⟨_, PySem.W.kitx_str, True.intro, fun z => nomatch z⟩
  | flt y => obtain ⟨t, q⟩ := (show ∃ t, u = Value.float y t from rx); cases q; exact ⟨_, PySem.W.kitx_float, True.intro, fun z => nomatch z⟩
  | @lst a xs ea =>
    cases (show u = Value.ref a from rx)
    obtain ⟨_, _, n, _, h1⟩ := (show ObjOk X.prog X.w H s.heap a (.lst xs) from I.hok a _ ea)
    exact ⟨_, PySem.W.kitx_list, ⟨_, h1, rfl⟩, fun z => nomatch z⟩
  | @frz a ob xs ea =>
    cases (show u = Value.ref a from rx)
    obtain ⟨_, _, _, n, _, h1⟩ := (show ObjOk X.prog X.w H s.heap a (.frz ob (.lst xs)) from I.hok a _ ea)
    exact ⟨_, PySem.W.kitx_list, ⟨_, h1, rfl⟩, fun z => nomatch z⟩
  | @tup a xs ea =>
    cases (show u = Value.ref a from rx)
    obtain ⟨_, _, _, p⟩ := (show ObjOk X.prog X.w H s.heap a (.tup xs) from I.hok a _ ea)
    obtain ⟨o, h1, h2, _⟩ := p
    exact ⟨_, PySem.W.kitx_tuple, ⟨o, h1, h2⟩, fun z => nomatch z⟩
  | @dK a kvs ea =>
    cases (show u = Value.ref a from rx)
    obtain ⟨_, _, vs, _, p⟩ := (show ObjOk X.prog X.w H s.heap a (.dK kvs) from I.hok a _ ea)
    obtain ⟨o, es, ep, h1, h2, _⟩ := p
    exact ⟨_, PySem.W.kitx_dict, ⟨o, h1, h2.1⟩, fun z => nomatch z⟩
  | @dT a kvs ea =>
    cases (show u = Value.ref a from rx)
    obtain ⟨_, _, xs, _, o, es, ep, h1, h2, _⟩ := (show ObjOk X.prog X.w H s.heap a (.dT kvs) from I.hok a _ ea)
    exact ⟨_, PySem.W.kitx_dict, ⟨o, h1, h2.1⟩, fun z => nomatch z⟩
  | @ins a C dx fs ea cl ha hn htk hm =>
    cases (show u = Value.ref a from rx)
    obtain ⟨mA, O, _⟩ := ins_get I.hok ea
    obtain ⟨od, J, _⟩ := O.look
    exact ⟨_, PySem.W.kitx_own (cl.get _) cl.hd ha hn htk hm, J, fun z => nomatch z⟩
theorem vals_ty : ∀ {ns : List String} {us : List Value}, Vals (ns.map V.ty) us → us = ns.map Value.type
  | [], _, .nil => rfl
  | n :: ns, _, .cons r t => by
    cases (show _ = Value.type n from r)
    rw [vals_ty t]; rfl
/-- isinstance(x, T), isinstance(x, (T, ..)) -/
def gIsi (K : PySem.W.Frag) : List V → Hp → VK → Prop := fun xs H Q => match xs with
  | [x, .ty n] => ∃ t b, TyOf K H x t ∧ PySem.W.kitOne K t (.type n) = some b ∧ Q (.bl b) H
  | [x, .ref tp] => ∃ (ns : List String) (t : Value) (b : Bool), H tp = some (.tup (ns.map V.ty)) ∧ TyOf K H x t ∧ PySem.W.kitAny K t (ns.map Value.type) = some b ∧ Q (.bl b) H
  | _ => False
theorem call_isinstanceG : CallR X (.builtin "isinstance") (gIsi X.K) := by
  intro pins s σ H xs us Q I r h
  unfold gIsi at h
  split at h
  · obtain ⟨t, b, ty, e, q⟩ := h
    obtain ⟨u, v, rfl, ru, rv⟩ := Vals.two r
    cases (show v = Value.type _ from rv)
    obtain ⟨P, k, p, ne⟩ := tyOf_kit I ru ty
    exact PySem.W.kia_one k I.kIn p e ne fun tk => ⟨.bl b, H, I.tok tk, rfl, q⟩
  · rename_i x tp
    obtain ⟨ns, t, b, htp, ty, e, q⟩ := h
    obtain ⟨u, v, rfl, ru, rv⟩ := Vals.two r
    cases (show v = Value.ref tp from rv)
    obtain ⟨P, k, p, ne⟩ := tyOf_kit I ru ty
    obtain ⟨_, its, rt, ⟨cls, dd, data, sl⟩, h1, h2, n, h3⟩ := (show ObjOk X.prog X.w H s.heap tp (.tup (ns.map V.ty)) from I.hok tp _ htp)
    simp only at h2 h3
    subst h2 h3
    have hi := vals_ty rt
    subst hi
    exact PySem.W.kia_tup k I.kIn p h1 e ne fun tk => ⟨.bl b, H, I.tok tk, rfl, q⟩
  · exact h.elim
def gMin : List V → Hp → VK → Prop := fun xs H Q => match xs with
  | [.int i, .int j] => Q (.int (if j < i then j else i)) H
  | _ => False
theorem call_minG (hc : X.calm = true := by rfl) : CallR X (.builtin "min") gMin := (call_min2 hc).imp fun xs H Q h => by
  unfold gMin at h
  split at h
  · exact ⟨_, _, rfl, h⟩
  · exact h.elim
def gMax : List V → Hp → VK → Prop := fun xs H Q => match xs with
  | [.int i, .int j] => Q (.int (if i < j then j else i)) H
  | _ => False
def gLen (K : PySem.W.Frag) : List V → Hp → VK → Prop := fun xs H Q => match xs with
  | [.ref p] => ∃ n : Nat, ((∃ ys, (SqL K H p ys ∨ SqT K H p ys) ∧ n = ys.length) ∨ (∃ kvs : List (Key × V), H p = some (.dK kvs) ∧ n = kvs.length)) ∧ Q (.int n) H
  | [.str z] => z.length ≤ sizeLine ∧ Q (.int z.length) H
  | _ => False
theorem call_lenG : CallR X (.builtin "len") (gLen X.K) := by
  intro pins s σ H xs us Q I r h
  unfold gLen at h
  split at h
  · obtain ⟨n, h | h, q⟩ := h
    · obtain ⟨ys, hy, rfl⟩ := h
      exact call_len_seq pins s σ H _ us Q I r ⟨_, ys, rfl, hy, q⟩
    · obtain ⟨kvs, hk, rfl⟩ := h
      exact call_lenD pins s σ H _ us Q I r ⟨_, kvs, rfl, hk, q⟩
  · exact call_len_str pins s σ H _ us Q I r ⟨_, rfl, h.1, h.2⟩
  · exact h.elim
theorem call_int_str : CallR X (.type "int") (fun xs H Q => ∃ z n, xs = [.str z] ∧ PySem.intText? z = some n ∧ z.length ≤ 640 ∧ Q (.int n) H) := by
  intro pins s σ H xs us Q I r h
  obtain ⟨z, n, rfl, e, hl, q⟩ := h
  obtain ⟨u, rfl, t, rfl⟩ := vals1 r
  exact PySem.W.KIN.call_text e hl ⟨.int n, H, I.tok _, ⟨_, rfl⟩, q⟩
def gInt : List V → Hp → VK → Prop := fun xs H Q => match xs with
  | [.str z] => ∃ n, PySem.intText? z = some n ∧ z.length ≤ 640 ∧ Q (.int n) H
  | [.bl b] => Q (.int (if b then 1 else 0)) H
  | [.int i] => Q (.int i) H
  | _ => False
theorem call_intG : CallR X (.type "int") gInt := by
  intro pins s σ H xs us Q I r h
  unfold gInt at h
  split at h
  · obtain ⟨n, h1, h2, h3⟩ := h
    exact call_int_str pins s σ H _ us Q I r ⟨_, n, rfl, h1, h2, h3⟩
  · exact call_int1 pins s σ H _ us Q I r (.inr ⟨_, rfl, h⟩)
  · exact call_int1 pins s σ H _ us Q I r (.inl ⟨_, rfl, h⟩)
  · exact h.elim
end
end L2

set_option Elab.async false
set_option linter.all false
set_option maxRecDepth 100000
set_option maxHeartbeats 1000000
namespace L2
open PySem PySem.Spec PyProof.Rows
/-! ### defs of the text -/
structure DefAt (K : PySem.W.Frag) (mg : Str → Option Value) (x : Str) (st : Stmt) (ps : List Str) : Prop where
  ex : ∃ f fd, Fun K x x st f fd ∧ mg x = some (.ref f) ∧ ∀ us : List Value, us.length = ps.length → bindArgs fd ⟨us, []⟩ = pure (ps.zip us)
structure Own (P : Program) (w : World) (K : PySem.W.Frag) (mg : Str → Option Value) (base : Heap) (x : Str) (k : Nat) (ps : List Str) (sp : Sp) : Prop where
  ex : ∃ f fd, FnOk P w K mg base CX0 k f fd ps sp ∧ mg x = some (.ref f) ∧ PySem.W.keepIn K (.ref f) = true ∧ ∀ us : List Value, us.length = ps.length → bindArgs fd ⟨us, []⟩ = pure (ps.zip us)
theorem defAt_mk {K : PySem.W.Frag} {h : Heap} {mg : Str → Option Value} {x : Str} {st : Stmt} {ps : List Str} {f : Addr} {oc kV doc pm cdv ct : Value} {od an : Option Addr} {osl : Array (Option Value)} (X : K.In h) (G : h.Ns mainGlobals mg)
    (a : PySem.W.nsIn K mainGlobals x = some (some (.ref f))) (l : K.lookup f = some ⟨oc, od, .func (PySem.W.fnOf x x (defArgs st) (defBody st) (defScope st) .none kV doc pm an cdv ct), osl⟩) (c : PySem.W.codeIn K cdv x = true) (k : PySem.W.keepIn K (.ref f) = true)
    (hb : ∀ (kV doc pm : Value) (an : Option Addr) (cdv ct : Value) (us : List Value), us.length = ps.length → bindArgs (PySem.W.fnOf x x (defArgs st) (defBody st) (defScope st) .none kV doc pm an cdv ct) ⟨us, []⟩ = pure (ps.zip us)) : DefAt K mg x st ps :=
  ⟨f, _, fun_mk l c k, PySem.W.mg_of X G a, hb kV doc pm an cdv ct⟩
section
variable {P : Program} {w : World} {K : PySem.W.Frag} {mg : Str → Option Value} {base : Heap}
theorem DefAt.own {x : Str} {st : Stmt} {N ps : List Str} {k : Nat} {sp : Sp} (D : DefAt K mg x st ps) (S : FnScope N ps (defScope st)) (len : ∀ vs H Q E, sp vs H Q E → vs.length = ps.length)
    (hbody : ∀ (f : Addr) (cdv : Value) (A : Around) (outer : List Env) (s : Shared) (H : Hp) (vs : List V) (Q : VK) (E : XK), Room k (A.deeper (envOfC x (defScope st) s.heap.objs.size f cdv)) → sp vs H Q E →
      ∃ t, PSs (cxOf CX0 P w K mg base N x (defScope st) f cdv A outer s H E).nox (defBody st) t ∧ t { nx := fun _ H' => Q .non H', rt := Q } (start N vs) H) : Own P w K mg base x (k + 1) ps sp := by
  obtain ⟨f, fd, F, hm, hb⟩ := D.ex
  exact ⟨f, fd, F.ok S len (hbody f), hm, F.kp, hb⟩
theorem Own.mono {x : Str} {j k : Nat} {ps : List Str} {sp : Sp} (O : Own P w K mg base x j ps sp) (h : j ≤ k) : Own P w K mg base x k ps sp := by
  obtain ⟨f, fd, F, a, b, c⟩ := O.ex
  exact ⟨f, fd, F.mono h, a, b, c⟩
theorem Own.imp {x : Str} {k : Nat} {ps : List Str} {sp sp' : Sp} (O : Own P w K mg base x k ps sp) (h : ∀ vs H Q E, sp' vs H Q E → sp vs H Q E) : Own P w K mg base x k ps sp' := by
  obtain ⟨f, fd, F, a, b, c⟩ := O.ex
  exact ⟨f, fd, F.imp h, a, b, c⟩
end
def tOwn (sp : Sp) (t : TA) : TE := fun σ H Q => t σ H fun vs H1 => sp vs H1 Q E0
section
variable {X : Cx}
theorem pe_own {x : Str} {j k : Nat} {ps : List Str} {sp : Sp} {e : Expr} {es : List Expr} {t : TA} {p pos : Pos} (O : Own X.prog X.w X.K X.mg X.base x j ps sp) (hr : Room k X.A) (hg : Gl X x) (ha : PA X (e :: es) t) (hj : j ≤ k := by first | decide | omega) (hdb : (x == ("__debug__" : Str)) = false := by decide)
    (he : starEach (e :: es) X.env = (false, eval e X.env) :: starEach es X.env := by rfl) (hpl : (backTo pos (starEach es X.env)).any (·.1) = false := by rfl) : PE X (.Call (.Name x p) (e :: es) [] pos) (tOwn sp t) := by
  obtain ⟨f, fd, F, a, b, c⟩ := O.ex
  refine (pe_call (dvs := []) (E := E0) F (hr.mono hj) hg a b (Binds.all c) .nil pass0 ha hdb he hpl).imp fun σ H Q h => ?_
  unfold tCall
  unfold tOwn at h
  simpa only [List.append_nil] using h
end
/-! ### the law's own head -/
def spLaw (K : PySem.W.Frag) : Sp := fun vs H Q _ => ∃ (a : Addr) (ns : List Int), vs = [.ref a] ∧ SqL K H a (ns.map V.int) ∧ ns.length ≤ 63 ∧ ∀ H', Q (.bl true) H'
end L2
namespace L2
open PySem
theorem bb_len : bootBuiltins "len" = some (.builtin "len") := by kernel_rfl
theorem bb_min : bootBuiltins "min" = some (.builtin "min") := by kernel_rfl
theorem bb_max : bootBuiltins "max" = some (.builtin "max") := by kernel_rfl
theorem bb_sorted : bootBuiltins "sorted" = some (.builtin "sorted") := by kernel_rfl
theorem bb_isinstance : bootBuiltins "isinstance" = some (.builtin "isinstance") := by kernel_rfl
theorem bb_int : bootBuiltins "int" = some (.type "int") := by kernel_rfl
theorem bb_bool : bootBuiltins "bool" = some (.type "bool") := by kernel_rfl
theorem bb_str : bootBuiltins "str" = some (.type "str") := by kernel_rfl
theorem bb_list : bootBuiltins "list" = some (.type "list") := by kernel_rfl
theorem bb_dict : bootBuiltins "dict" = some (.type "dict") := by kernel_rfl
theorem bb_tuple : bootBuiltins "tuple" = some (.type "tuple") := by kernel_rfl
theorem bb_set : bootBuiltins "set" = some (.type "set") := by kernel_rfl
end L2
namespace L2
open PySem
theorem kt_bool_bool (K : PySem.W.Frag) : PySem.W.kitOne K (.type "bool") (.type "bool") = some true := rfl
theorem kt_int_bool (K : PySem.W.Frag) : PySem.W.kitOne K (.type "int") (.type "bool") = some false := rfl
theorem kt_int_int (K : PySem.W.Frag) : PySem.W.kitOne K (.type "int") (.type "int") = some true := rfl
theorem kt_str_bool (K : PySem.W.Frag) : PySem.W.kitOne K (.type "str") (.type "bool") = some false := rfl
theorem kt_str_int (K : PySem.W.Frag) : PySem.W.kitOne K (.type "str") (.type "int") = some false := rfl
theorem kt_str_str (K : PySem.W.Frag) : PySem.W.kitOne K (.type "str") (.type "str") = some true := rfl
theorem kt_list_bool (K : PySem.W.Frag) : PySem.W.kitOne K (.type "list") (.type "bool") = some false := rfl
theorem kt_list_int (K : PySem.W.Frag) : PySem.W.kitOne K (.type "list") (.type "int") = some false := rfl
theorem kt_list_str (K : PySem.W.Frag) : PySem.W.kitOne K (.type "list") (.type "str") = some false := rfl
theorem kt_list_dict (K : PySem.W.Frag) : PySem.W.kitOne K (.type "list") (.type "dict") = some false := rfl
theorem kt_list_tuple (K : PySem.W.Frag) : PySem.W.kitOne K (.type "list") (.type "tuple") = some false := rfl
theorem kt_list_list (K : PySem.W.Frag) : PySem.W.kitOne K (.type "list") (.type "list") = some true := rfl
theorem kt_tuple_bool (K : PySem.W.Frag) : PySem.W.kitOne K (.type "tuple") (.type "bool") = some false := rfl
theorem kt_tuple_int (K : PySem.W.Frag) : PySem.W.kitOne K (.type "tuple") (.type "int") = some false := rfl
theorem kt_tuple_str (K : PySem.W.Frag) : PySem.W.kitOne K (.type "tuple") (.type "str") = some false := rfl
theorem kt_tuple_dict (K : PySem.W.Frag) : PySem.W.kitOne K (.type "tuple") (.type "dict") = some false := rfl
theorem kt_tuple_tuple (K : PySem.W.Frag) : PySem.W.kitOne K (.type "tuple") (.type "tuple") = some true := rfl
theorem kt_tuple_list (K : PySem.W.Frag) : PySem.W.kitOne K (.type "tuple") (.type "list") = some false := rfl
theorem kt_dict_bool (K : PySem.W.Frag) : PySem.W.kitOne K (.type "dict") (.type "bool") = some false := rfl
theorem kt_dict_int (K : PySem.W.Frag) : PySem.W.kitOne K (.type "dict") (.type "int") = some false := rfl
theorem kt_dict_str (K : PySem.W.Frag) : PySem.W.kitOne K (.type "dict") (.type "str") = some false := rfl
theorem kt_dict_dict (K : PySem.W.Frag) : PySem.W.kitOne K (.type "dict") (.type "dict") = some true := rfl
theorem ka_list_lt (K : PySem.W.Frag) : PySem.W.kitAny K (.type "list") (["list", "tuple"].map Value.type) = some true := rfl
theorem ka_tuple_lt (K : PySem.W.Frag) : PySem.W.kitAny K (.type "tuple") (["list", "tuple"].map Value.type) = some true := rfl
theorem same_upd {H : Hp} {p : Addr} {o : HO} (h : H p = none) : Same H (upd H p o) := fun b u e => by rw [upd_ne (ne_of_none e h)]; exact e
end L2
namespace L2
theorem iteD {c A B : Prop} [Decidable c] (h : ¬ c) (hb : B) : if decide c = true then A else B := by
  rw [decide_eq_false h]; exact iteF hb
theorem iteDT {c A B : Prop} [Decidable c] (h : c) (ha : A) : if decide c = true then A else B := by
  rw [decide_eq_true h]; exact iteT ha
theorem iteNT {A B : Prop} (hb : B) : if (!true) = true then A else B := iteF hb
end L2

set_option Elab.async false
set_option linter.all false
set_option maxRecDepth 100000
set_option maxHeartbeats 1000000
namespace L2
open PySem PySem.Spec PyProof.Rows
/-! ### == of two values, to a depth -/
def scl : V → V → Bool
  | .non, .non => true | .non, .int _ => true | .int _, .non => true | .non, .bl _ => true | .bl _, .non => true | .non, .str _ => true | .str _, .non => true
  | .int _, .int _ => true | .bl _, .bl _ => true | .str _, .str _ => true
  | .int _, .str _ => true | .str _, .int _ => true | .bl _, .str _ => true | .str _, .bl _ => true
  | _, _ => false
inductive DEq (K : PySem.W.Frag) (H : Hp) : Nat → V → V → Bool → Prop where
  | scal {n : Nat} {x y : V} (h : scl x y = true) : DEq K H n x y (decide (x = y))
  | same {n : Nat} {a : Addr} : DEq K H n (.ref a) (.ref a) true
  | lst {n : Nat} {a b : Addr} {xs ys : List V} (e : Nat → Bool) (ha : SqL K H a xs) (hb : SqL K H b ys) (hn : a ≠ b) (hl : xs.length = ys.length) (h : ∀ j x y, xs[j]? = some x → ys[j]? = some y → DEq K H n x y (e j)) : DEq K H (n + 1) (.ref a) (.ref b) ((List.range xs.length).all e)
  | lstN {n : Nat} {a b : Addr} {xs ys : List V} (ha : SqL K H a xs) (hb : SqL K H b ys) (hn : a ≠ b) (hl : xs.length ≠ ys.length) : DEq K H (n + 1) (.ref a) (.ref b) false
  | tup {n : Nat} {a b : Addr} {xs ys : List V} (e : Nat → Bool) (ha : SqT K H a xs) (hb : SqT K H b ys) (hn : a ≠ b) (h : ∀ j x y, xs[j]? = some x → ys[j]? = some y → DEq K H n x y (e j)) : DEq K H (n + 1) (.ref a) (.ref b) ((List.range (min xs.length ys.length)).all e && xs.length == ys.length)
  | dct {n : Nat} {a b : Addr} {kvs : List (Key × V)} (ha : Rd H a (.dK kvs)) (hb : Rd H b (.dK kvs)) (hn : a ≠ b) (hk : ∀ p ∈ kvs, ∃ i, p.1 = Sum.inl i) (hv : ∀ p ∈ kvs, (∃ r, p.2 = .ref r) ∨ scl p.2 p.2 = true) : DEq K H (n + 1) (.ref a) (.ref b) true
/-! two dicts of ints with the same things in them -/
theorem dictOf_any {P P' : Program} {w w' : World} {h : Heap} {a : Addr} {vs : List (Key × Value)} (d : h.DictOf (mixKind P w) a vs) (hk : ∀ p ∈ vs, ∃ i, p.1 = Sum.inl i) : h.DictOf (mixKind P' w') a vs := by
  obtain ⟨o, es, ep, ho, hc, hd, hka, hpa, hn⟩ := d
  have pp : ∀ {l : List DictEntry} {vs : List (Key × Value)}, Pairs (mixKind P w) l vs → Pairs (mixKind P' w') l vs := fun h => by
    induction h with
    | nil => exact .nil
    | cons h1 h2 _ ih => exact .cons h1 h2 ih
  have mm : ∀ {l : List DictEntry} {vs : List (Key × Value)}, Pairs (mixKind P w) l vs → ∀ e ∈ l, ∃ p ∈ vs, keyIs p.1 e.key = true := fun h => by
    induction h with
    | nil => intro e he; exact nomatch he
    | cons h1 h2 _ ih =>
      intro e he
      rcases List.mem_cons.mp he with rfl | he
      · exact ⟨_, List.mem_cons_self, h1⟩
      · obtain ⟨p, hp, hx⟩ := ih e he
        exact ⟨p, List.mem_cons_of_mem _ hp, hx⟩
  refine ⟨o, es, ep, ho, hc, hd, fun e he => ?_, pp hpa, hn⟩
  obtain ⟨k, h1, h2⟩ := hka e he
  obtain ⟨p, hp, hx⟩ := mm hpa e (by simpa using he)
  obtain ⟨i, hi⟩ := hk p hp
  have ek : k = p.1 := (mixKind P w).inj _ _ _ h1 hx
  rw [hi] at ek
  subst ek
  exact ⟨_, h1, h2⟩
theorem hits_of {A : Around} {s : Shared} {kb : List (Key × Value)} : ∀ {ka : List (Key × Value)}, (∀ p ∈ ka, ∃ y, valueAt kb p.1 = some y ∧ SeqAt.EqAt A s p.2 y true) → PySem.W.KeqHits A s kb ka true
  | [], _ => .nil
  | (k, v) :: r, h => by
    obtain ⟨y, h1, h2⟩ := h (k, v) List.mem_cons_self
    exact .hit (e := true) (b := true) h1 h2 (hits_of fun p hp => h p (List.mem_cons_of_mem _ hp))
theorem valueAt_mem : ∀ {vs : List (Key × Value)} {k : Key} {v : Value}, (vs.map (·.1)).Nodup → (k, v) ∈ vs → valueAt vs k = some v
  | (k', v') :: r, k, v, hn, hm => by
    obtain ⟨n1, n2⟩ := List.nodup_cons.mp hn
    unfold valueAt
    rw [List.find?_cons]
    by_cases e : k' = k
    · subst e
      rcases List.mem_cons.mp hm with z | z
      · cases z; simp
      · exact absurd (List.mem_map.mpr ⟨_, z, rfl⟩) n1
    · rcases List.mem_cons.mp hm with z | z
      · cases z; exact absurd rfl e
      · have ih := valueAt_mem n2 z
        unfold valueAt at ih
        simp only [e, decide_false]
        exact ih
theorem two_of : ∀ {kvs : List (Key × V)} {us vs : List (Key × Value)}, KV kvs us → KV kvs vs → ∀ p ∈ us, ∃ q ∈ kvs, ∃ v, (p.1, v) ∈ vs ∧ q.1 = p.1 ∧ RelV q.2 p.2 ∧ RelV q.2 v
  | _, _, _, .nil, .nil, p, hp => nomatch hp
  | _, _, _, .cons (a := q) (b := x) h t, .cons (b := y) h' t', p, hp => by
    rcases List.mem_cons.mp hp with rfl | hp
    · exact ⟨q, List.mem_cons_self, y.2, List.mem_cons.mpr (.inl (by rw [← h.1, h'.1])), h.1, h.2, h'.2⟩
    · obtain ⟨q', h1, v, h2, h3⟩ := two_of t t' p hp
      exact ⟨q', List.mem_cons_of_mem _ h1, v, List.mem_cons_of_mem _ h2, h3⟩
section
variable {X : Cx} {pins : List (Addr × Obj)} {σ : St} {H : Hp} {s : Shared}
theorem scl_eqAt {x y : V} {u v : Value} {A : Around} (h : scl x y = true) (rx : RelV x u) (ry : RelV y v) : SeqAt.EqAt A s u v (decide (x = y)) := by
  have fin : ∀ {k k' : Bool} {u v : Value}, SeqAt.EqAt A s u v k → k = k' → SeqAt.EqAt A s u v k' := fun h e => e ▸ h
  cases x with
  | non =>
    cases (show u = Value.none from rx)
    cases y with
    | non => cases (show v = Value.none from ry); exact fin (SeqAt.EqAt.same _) (by simp)
    | bl j => cases (show v = Value.bool j from ry); exact fin (SeqAt.EqAt.none_bool _) (by simp)
    | int j => obtain ⟨t', rfl⟩ := ry; exact fin (SeqAt.EqAt.none_int _ _) (by simp)
    | str j => obtain ⟨t', rfl⟩ := ry; exact fin (SeqAt.EqAt.none_str _ _) (by simp)
    | _ => exact absurd (show false = true from h) Bool.false_ne_true
  | bl i =>
    cases (show u = Value.bool i from rx)
    cases y with
    | non => cases (show v = Value.none from ry); exact fin (SeqAt.EqAt.bool_none _) (by simp)
    | bl j => cases (show v = Value.bool j from ry); exact fin (SeqAt.EqAt.bool_bool _ _) dec_bl.symm
    | str j => obtain ⟨t', rfl⟩ := ry; exact fin (SeqAt.EqAt.bool_str _ _ _) (by simp)
    | _ => exact absurd (show false = true from h) Bool.false_ne_true
  | int i =>
    obtain ⟨t, rfl⟩ := rx
    cases y with
    | non => cases (show v = Value.none from ry); exact fin (SeqAt.EqAt.int_none _ _) (by simp)
    | int j => obtain ⟨t', rfl⟩ := ry; exact fin (SeqAt.EqAt.int_int _ _ _ _) dec_int.symm
    | str j => obtain ⟨t', rfl⟩ := ry; exact fin (SeqAt.EqAt.int_str _ _ _ _) (by simp)
    | _ => exact absurd (show false = true from h) Bool.false_ne_true
  | str i =>
    obtain ⟨t, rfl⟩ := rx
    cases y with
    | non => cases (show v = Value.none from ry); exact fin (SeqAt.EqAt.str_none _ _) (by simp)
    | bl j => cases (show v = Value.bool j from ry); exact fin (SeqAt.EqAt.str_bool _ _ _) (by simp)
    | int j => obtain ⟨t', rfl⟩ := ry; exact fin (SeqAt.EqAt.str_int _ _ _ _) (by simp)
    | str j => obtain ⟨t', rfl⟩ := ry; exact fin (SeqAt.EqAt.str_str _ _ _ _) dec_str.symm
    | _ => exact absurd (show false = true from h) Bool.false_ne_true
  | _ => cases y <;> exact absurd (show false = true from h) Bool.false_ne_true
theorem DEq.eqAt {n : Nat} {x y : V} {b : Bool} (d : DEq X.K H n x y b) (I : Inv X pins σ H s) : ∀ {A : Around} {u v : Value}, RelV x u → RelV y v → A.units + n < cLine → SeqAt.EqAt A s u v b := by
  induction d with
  | scal h => intro A u v rx ry _; exact scl_eqAt h rx ry
  | same => intro A u v rx ry _; cases rx; cases ry; exact SeqAt.EqAt.same _
  | lst e ha hb hn hl h ih =>
    intro A u v rx ry hu
    cases rx; cases ry
    obtain ⟨its, r1, p1, _⟩ := I.list ha
    obtain ⟨its2, r2, p2, _⟩ := I.list hb
    have e1 := r1.length
    have e2 := r2.length
    have z := SeqAt.RcAt.lists (A := A) (e := e) p1.isList p2.isList (by simp; omega) (by omega) fun j h1 h2 => by
      have g1 : its[j]? = some its[j] := by simp at h1; simp [h1]
      have g2 : its2[j]? = some its2[j] := by simp at h2; simp [h2]
      simp at h1 h2
      have q1 : ∃ x, _ = some x := ⟨_, List.getElem?_eq_getElem (show j < _ from by rw [e1]; exact h1)⟩
      obtain ⟨x, hx⟩ := q1
      have q2 : ∃ x, _ = some x := ⟨_, List.getElem?_eq_getElem (show j < _ from by rw [e2]; exact h2)⟩
      obtain ⟨y, hy⟩ := q2
      obtain ⟨u', hu', ru'⟩ := r1.get hx
      obtain ⟨v', hv', rv'⟩ := r2.get hy
      rw [g1] at hu'; cases hu'
      rw [g2] at hv'; cases hv'
      exact ih j x y hx hy ru' rv' (by show A.units + 1 + _ < _; omega)
    refine SeqAt.EqAt.of_refs hn ?_
    rw [e1]
    simpa using z
  | lstN ha hb hn hl =>
    intro A u v rx ry hu
    cases rx; cases ry
    obtain ⟨its, r1, p1, _⟩ := I.list ha
    obtain ⟨its2, r2, p2, _⟩ := I.list hb
    have e1 := r1.length
    have e2 := r2.length
    exact SeqAt.EqAt.of_refs hn (SeqAt.RcAt.lists_lengths p1.isList p2.isList (by simp; omega) (by omega))
  | tup e ha hb hn h ih =>
    intro A u v rx ry hu
    cases rx; cases ry
    obtain ⟨its, r1, p1, _⟩ := I.tuple ha
    obtain ⟨its2, r2, p2, _⟩ := I.tuple hb
    have e1 := r1.length
    have e2 := r2.length
    have z := SeqAt.RcAt.tuples (A := A) (e := e) p1 p2 (by omega) fun j h1 h2 => by
      have g1 : its[j]? = some its[j] := by simp at h1; simp [h1]
      have g2 : its2[j]? = some its2[j] := by simp at h2; simp [h2]
      simp at h1 h2
      have q1 : ∃ x, _ = some x := ⟨_, List.getElem?_eq_getElem (show j < _ from by rw [e1]; exact h1)⟩
      obtain ⟨x, hx⟩ := q1
      have q2 : ∃ x, _ = some x := ⟨_, List.getElem?_eq_getElem (show j < _ from by rw [e2]; exact h2)⟩
      obtain ⟨y, hy⟩ := q2
      obtain ⟨u', hu', ru'⟩ := r1.get hx
      obtain ⟨v', hv', rv'⟩ := r2.get hy
      rw [g1] at hu'; cases hu'
      rw [g2] at hv'; cases hv'
      exact ih j x y hx hy ru' rv' (by show A.units + 1 + _ < _; omega)
    refine SeqAt.EqAt.of_refs hn ?_
    rw [e1, e2]
    simpa using z
  | dct ha hb hn hk hv =>
    intro A u v rx ry hu
    cases rx; cases ry
    obtain ⟨_, y1, us, r1, d1⟩ := dk_rd I.hok ha
    obtain ⟨_, y2, vs, r2, d2⟩ := dk_rd I.hok hb
    have l1 := Paired.length r1
    have l2 := Paired.length r2
    have nd : (vs.map (·.1)).Nodup := by obtain ⟨_, _, _, _, _, _, _, _, n⟩ := id d2; exact n
    have k1 : ∀ p ∈ us, ∃ i, p.1 = Sum.inl i := fun p hp => by
      obtain ⟨q, hq, _, _, e, _⟩ := two_of r1 r2 p hp
      rw [← e]; exact hk q hq
    have k2 : ∀ p ∈ vs, ∃ i, p.1 = Sum.inl i := fun p hp => by
      obtain ⟨q, hq, _, _, e, _⟩ := two_of r2 r1 p hp
      rw [← e]; exact hk q hq
    refine SeqAt.EqAt.of_refs hn fun prog w E Q h => ?_
    refine PySem.W.keq_eq (knd := mixKind prog w) (r := true) y1 y2 (dictOf_any d1 k1) (dictOf_any d2 k2) (by omega) (fun _ => hits_of fun p hp => ?_) (by rw [show us.length = vs.length by omega]; simpa using h)
    obtain ⟨q, hq, v, h1, h2, h3, h4⟩ := two_of r1 r2 p hp
    refine ⟨v, valueAt_mem nd h1, ?_⟩
    rcases hv q hq with ⟨r, e⟩ | e
    · rw [e] at h3 h4
      rw [show p.2 = .ref r from h3, show v = .ref r from h4]
      exact SeqAt.EqAt.same _
    · have := scl_eqAt (s := s) (A := A.in1) e h3 h4
      rwa [decide_eq_true rfl] at this
end
end L2

set_option Elab.async false
set_option linter.all false
set_option maxRecDepth 100000
/-! A tree of questions that sorts: what it ends with, whatever the questions are about. -/
namespace Own
open PySem PySem.W PyProof.Rows

/-- a strict weak order on places -/
structure Ord (c : Nat → Nat → Bool) : Prop where
  asym : ∀ i j, c i j = true → c j i = false
  trans : ∀ i j k, c j i = false → c k j = false → c k i = false
theorem Ord.refl {c : Nat → Nat → Bool} (o : Ord c) (i : Nat) : c i i = false := by
  cases h : c i i with
  | false => rfl
  | true => have := o.asym i i h; rw [h] at this; exact this
/-- every question is about places below n, and c answers it -/
def cmpP (n : Nat) (c : Nat → Nat → Bool) : Nat → Nat → (Bool → Shared → Prop) → Shared → Prop := fun i j C s => i < n ∧ j < n ∧ C (c i j) s
abbrev gd (p : Array Nat) (i : Nat) : Nat := p.getD i 0
theorem gd_eq (p : Array Nat) (i : Nat) : gd p i = (p[i]?).getD 0 := by
  unfold gd; rw [Array.getD_eq_getD_getElem?]
structure Ar (n : Nat) (p : Array Nat) : Prop where
  size : p.size = n
  low : ∀ i, gd p i < n
  perm : p.Perm (List.range n).toArray
theorem low_of {n : Nat} {p : Array Nat} (h0 : 0 < n) (h : p.Perm (List.range n).toArray) (i : Nat) : gd p i < n := by
  rw [gd_eq]
  cases e : p[i]? with
  | none => exact h0
  | some x =>
    have hm : x ∈ p := Array.mem_of_getElem? e
    have hm2 : x ∈ (List.range n).toArray := (h.mem_iff).mp hm
    simp at hm2
    exact hm2
theorem Ar.mk' {n : Nat} {p : Array Nat} (h0 : 0 < n) (h : p.Perm (List.range n).toArray) : Ar n p :=
  ⟨by rw [h.size_eq]; simp, low_of h0 h, h⟩
theorem Ar.start {n : Nat} (h0 : 0 < n) : Ar n (List.range n).toArray := .mk' h0 (Array.Perm.refl _)
theorem Ar.rev {n : Nat} {p : Array Nat} (h0 : 0 < n) (a : Ar n p) (i j : Nat) : Ar n (kas_rev p i j) := .mk' h0 ((mirror_perm _ _ _ _).trans a.perm)
theorem Ar.bub {n : Nat} {p : Array Nat} (h0 : 0 < n) (a : Ar n p) (k d : Nat) : Ar n (bubble p k d) := .mk' h0 ((bubble_perm _ _ _).trans a.perm)
theorem gd_rev {n : Nat} {p : Array Nat} (a : Ar n p) {i j : Nat} (hj : j ≤ n) (k : Nat) : gd (kas_rev p i j) k = if i ≤ k ∧ k < j then gd p (i + j - 1 - k) else gd p k := by
  rw [gd_eq]
  unfold kas_rev
  rw [getElem?_mirror_all (by rw [a.size]; exact hj)]
  split <;> rw [gd_eq]
theorem gd_bub {n : Nat} {p : Array Nat} (a : Ar n p) {src d : Nat} (hs : src < n) (hd : d ≤ src) (k : Nat) :
    gd (bubble p src d) k = if k = src - d then gd p src else if src - d < k ∧ k ≤ src then gd p (k - 1) else gd p k := by
  rw [gd_eq, getElem?_bubble (by rw [a.size]; exact hs) d hd]
  split
  · rw [gd_eq]
  · split <;> rw [gd_eq]
def Up (c : Nat → Nat → Bool) (p : Array Nat) (m : Nat) : Prop := ∀ i j, i ≤ j → j < m → c (gd p j) (gd p i) = false
def Dn (c : Nat → Nat → Bool) (p : Array Nat) (m : Nat) : Prop := ∀ i j, i ≤ j → j < m → c (gd p i) (gd p j) = false
section
variable {c : Nat → Nat → Bool} {n : Nat} {s : Shared}
theorem Up.one (o : Ord c) (p : Array Nat) : Up c p 1 := fun i j h1 h2 => by
  obtain rfl : i = j := by omega
  exact o.refl _
theorem Up.succ (o : Ord c) {p : Array Nat} {m : Nat} (u : Up c p m) (h : 0 < m → c (gd p m) (gd p (m - 1)) = false) : Up c p (m + 1) := fun i j h1 h2 => by
  by_cases hj : j < m
  · exact u i j h1 hj
  · obtain rfl : j = m := by omega
    by_cases hi : i = j
    · subst hi; exact o.refl _
    · exact o.trans _ (gd p (j - 1)) _ (u i (j - 1) (by omega) (by omega)) (h (by omega))
theorem Dn.succ (o : Ord c) {p : Array Nat} {m : Nat} (u : Dn c p m) (h : 0 < m → c (gd p (m - 1)) (gd p m) = false) : Dn c p (m + 1) := fun i j h1 h2 => by
  by_cases hj : j < m
  · exact u i j h1 hj
  · obtain rfl : j = m := by omega
    by_cases hi : i = j
    · subst hi; exact o.refl _
    · exact o.trans _ (gd p (j - 1)) _ (h (by omega)) (u i (j - 1) (by omega) (by omega))

/-- the rising run -/
theorem asc_run (o : Ord c) {p : Array Nat} (a : Ar n p) {G : Nat → Shared → Prop} : ∀ (f m : Nat), Up c p m → 1 ≤ m → (∀ m', m ≤ m' → m' ≤ m + f → Up c p m' → (m' < m + f → c (gd p m') (gd p (m' - 1)) = true) → G m' s) →
    (kas_asc p f m).kasWp (cmpP n c) G s
  | 0, m, u, _, h => h m (Nat.le_refl _) (Nat.le_refl _) u (fun z => absurd z (Nat.lt_irrefl _))
  | f + 1, m, u, h1, h => by
    refine ⟨a.low _, a.low _, ?_⟩
    show KasT.kasWp (cmpP n c) (if c (p.getD m 0) (p.getD (m - 1) 0) = true then KasT.ret m else kas_asc p f (m + 1)) G s
    by_cases e : c (p.getD m 0) (p.getD (m - 1) 0) = true
    · rw [if_pos e]
      exact h m (Nat.le_refl _) (by omega) u (fun _ => e)
    · rw [if_neg e]
      have e' : c (gd p m) (gd p (m - 1)) = false := by simpa using e
      exact asc_run o a f (m + 1) (u.succ o fun _ => e') (by omega) fun m' a1 a2 a3 a4 => h m' (by omega) (by omega) a3 (fun z => a4 (by omega))

/-- a stretch of equals turned round -/
theorem rev_eqv (o : Ord c) {p : Array Nat} (a : Ar n p) {l m : Nat} (hm : m ≤ n) (he : ∀ x y, l ≤ x → x < m → l ≤ y → y < m → c (gd p x) (gd p y) = false) (k : Nat) :
    c (gd (kas_rev p l m) k) (gd p k) = false ∧ c (gd p k) (gd (kas_rev p l m) k) = false := by
  rw [gd_rev a hm]
  by_cases hc : l ≤ k ∧ k < m
  · rw [if_pos hc]
    exact ⟨he _ _ (by omega) (by omega) (by omega) (by omega), he _ _ (by omega) (by omega) (by omega) (by omega)⟩
  · rw [if_neg hc]
    exact ⟨o.refl _, o.refl _⟩
theorem Dn.eqv (o : Ord c) {p p' : Array Nat} {m : Nat} (d : Dn c p m) (e : ∀ k, c (gd p' k) (gd p k) = false ∧ c (gd p k) (gd p' k) = false) : Dn c p' m := fun i j h1 h2 =>
  o.trans (gd p' j) (gd p i) (gd p' i) (o.trans (gd p' j) (gd p j) (gd p i) (e j).2 (d i j h1 h2)) (e i).1
/-- the last q + 1 of m are equal -/
def Eqs (c : Nat → Nat → Bool) (p : Array Nat) (m q : Nat) : Prop := q + 1 ≤ m ∧ ∀ k, m - (q + 1) ≤ k → k < m → c (gd p (m - 1)) (gd p k) = false
theorem Eqs.all (o : Ord c) {p : Array Nat} {m q : Nat} (d : Dn c p m) (e : Eqs c p m q) : ∀ x y, m - (q + 1) ≤ x → x < m → m - (q + 1) ≤ y → y < m → c (gd p x) (gd p y) = false := fun x y _ hx hy1 hy2 =>
  o.trans (gd p y) (gd p (m - 1)) (gd p x) (e.2 y hy1 hy2) (d x (m - 1) (by omega) (by omega))
theorem desc_run (o : Ord c) (h0 : 0 < n) {G : Array Nat × Nat × Nat → Shared → Prop} : ∀ (f m q : Nat) (p : Array Nat), Ar n p → m + f ≤ n → Dn c p m → Eqs c p m q →
    (∀ p' m' q', Ar n p' → 1 ≤ m' → m' ≤ m + f → Dn c p' m' → Eqs c p' m' q' → G (p', m', q') s) → (kas_desc f p m q).kasWp (cmpP n c) G s
  | 0, m, q, p, a, _, d, e, h => h p m q a (by have := e.1; omega) (Nat.le_refl _) d e
  | f + 1, m, q, p, a, hf, d, e, h => by
    have h1 : 1 ≤ m := by have := e.1; omega
    refine ⟨a.low _, a.low _, ?_⟩
    show KasT.kasWp (cmpP n c) (if c (p.getD m 0) (p.getD (m - 1) 0) = true then (if q > 0 then kas_desc f (kas_rev p (m - (q + 1)) m) (m + 1) 0 else kas_desc f p (m + 1) 0)
      else KasT.ask (p.getD (m - 1) 0) (p.getD m 0) fun d => if d = true then KasT.ret (p, m, q) else kas_desc f p (m + 1) (q + 1)) G s
    by_cases e1 : c (p.getD m 0) (p.getD (m - 1) 0) = true
    · rw [if_pos e1]
      have e1' : c (gd p (m - 1)) (gd p m) = false := o.asym _ _ e1
      have new : ∀ p', Ar n p' → (∀ k, c (gd p' k) (gd p k) = false ∧ c (gd p k) (gd p' k) = false) → (kas_desc f p' (m + 1) 0).kasWp (cmpP n c) G s := fun p' a' ev => by
        have d' : Dn c p' m := d.eqv o ev
        have step : c (gd p' (m - 1)) (gd p' m) = false := o.trans (gd p' m) (gd p (m - 1)) (gd p' (m - 1)) (o.trans (gd p' m) (gd p m) (gd p (m - 1)) (ev m).2 e1') (ev (m - 1)).1
        refine desc_run o h0 f (m + 1) 0 p' a' (by omega) (d'.succ o fun _ => step) ⟨by omega, fun k k1 k2 => ?_⟩ fun p'' m'' q'' b1 b2 b3 b4 b5 => h p'' m'' q'' b1 b2 (by omega) b4 b5
        obtain rfl : k = m + 1 - 1 := by omega
        exact o.refl _
      by_cases hq : q > 0
      · rw [if_pos hq]
        exact new _ (a.rev h0 _ _) (rev_eqv o a (by omega) (e.all o d))
      · rw [if_neg hq]
        exact new p a fun k => ⟨o.refl _, o.refl _⟩
    · rw [if_neg e1]
      have e1' : c (gd p m) (gd p (m - 1)) = false := by simpa using e1
      refine ⟨a.low _, a.low _, ?_⟩
      show KasT.kasWp (cmpP n c) (if c (p.getD (m - 1) 0) (p.getD m 0) = true then KasT.ret (p, m, q) else kas_desc f p (m + 1) (q + 1)) G s
      by_cases e2 : c (p.getD (m - 1) 0) (p.getD m 0) = true
      · rw [if_pos e2]
        exact h p m q a h1 (by omega) d e
      · rw [if_neg e2]
        have e2' : c (gd p (m - 1)) (gd p m) = false := by simpa using e2
        refine desc_run o h0 f (m + 1) (q + 1) p a (by omega) (d.succ o fun _ => e2') ⟨by have := e.1; omega, fun k k1 k2 => ?_⟩ fun p'' m'' q'' b1 b2 b3 b4 b5 => h p'' m'' q'' b1 b2 (by omega) b4 b5
        show c (gd p (m + 1 - 1)) (gd p k) = false
        rw [Nat.add_sub_cancel]
        by_cases hk : k = m
        · subst hk; exact o.refl _
        · exact o.trans (gd p k) (gd p (m - 1)) (gd p m) (e.2 k (by omega) (by omega)) e1'
theorem Dn.up (o : Ord c) {p : Array Nat} (a : Ar n p) {m : Nat} (hm : m ≤ n) (d : Dn c p m) : Up c (kas_rev p 0 m) m := fun i j h1 h2 => by
  rw [gd_rev a hm, gd_rev a hm, if_pos ⟨Nat.zero_le _, h2⟩, if_pos ⟨Nat.zero_le _, by omega⟩]
  exact d _ _ (by omega) (by omega)
theorem tail_run (o : Ord c) (h0 : 0 < n) {p : Array Nat} (a : Ar n p) {m : Nat} (h1 : 1 ≤ m) (hm : m ≤ n) (d : Dn c p m) {G : Nat × Array Nat → Shared → Prop}
    (h : ∀ m' p', Ar n p' → 1 ≤ m' → m' ≤ n → Up c p' m' → G (m', p') s) : (kas_tail3 m n p).kasWp (cmpP n c) G s := by
  unfold kas_tail3
  rw [KasT.kasWp_bind]
  exact asc_run o (a.rev h0 _ _) (n - m) m (d.up o a hm) h1 fun m' b1 b2 b3 _ => h m' _ (a.rev h0 _ _) (by omega) (by omega) b3
theorem descPart_run (o : Ord c) (h0 : 0 < n) {p : Array Nat} (a : Ar n p) {m : Nat} (hm : m + 1 ≤ n) (d : Dn c p (m + 1)) {G : Nat × Array Nat → Shared → Prop}
    (h : ∀ m' p', Ar n p' → 1 ≤ m' → m' ≤ n → Up c p' m' → G (m', p') s) : (kas_descPart m n p).kasWp (cmpP n c) G s := by
  unfold kas_descPart
  rw [KasT.kasWp_bind]
  refine desc_run o h0 (n - (m + 1)) (m + 1) 0 p a (by omega) d ⟨by omega, fun k k1 k2 => ?_⟩ fun p' m' q' a' b1 b2 d' e' => ?_
  · obtain rfl : k = m + 1 - 1 := by omega
    exact o.refl _
  · show KasT.kasWp (cmpP n c) (if q' > 0 then kas_tail3 m' n (kas_rev p' (m' - (q' + 1)) m') else kas_tail3 m' n p') G s
    by_cases hq : q' > 0
    · rw [if_pos hq]
      exact tail_run o h0 (a'.rev h0 _ _) b1 (by omega) (d'.eqv o (rev_eqv o a' (by omega) (e'.all o d'))) h
    · rw [if_neg hq]
      exact tail_run o h0 a' b1 (by omega) d' h
theorem count_run (o : Ord c) (h0 : 0 < n) {p : Array Nat} (a : Ar n p) {G : Nat × Array Nat → Shared → Prop}
    (h : ∀ m' p', Ar n p' → 1 ≤ m' → m' ≤ n → Up c p' m' → G (m', p') s) : (kas_count n p).kasWp (cmpP n c) G s := by
  unfold kas_count
  rw [KasT.kasWp_bind]
  refine asc_run o a (n - 1) 1 (.one o p) (Nat.le_refl _) fun m b1 b2 u st => ?_
  show KasT.kasWp (cmpP n c) (if (m == n) = true then KasT.ret (m, p) else if m > 1 then KasT.ask (p.getD 0 0) (p.getD (m - 1) 0) fun c => if c = true then KasT.ret (m, p) else kas_descPart m n (kas_rev p 0 m)
    else kas_descPart m n p) G s
  by_cases e1 : (m == n) = true
  · rw [if_pos e1]
    exact h m p a b1 (by omega) u
  · rw [if_neg e1]
    have hlt : m + 1 ≤ n := by
      have : m ≠ n := fun q => e1 (by rw [q]; exact beq_self_eq_true _)
      omega
    have st' : c (gd p (m - 1)) (gd p m) = false := o.asym _ _ (st (by omega))
    by_cases e2 : m > 1
    · rw [if_pos e2]
      refine ⟨a.low _, a.low _, ?_⟩
      show KasT.kasWp (cmpP n c) (if c (p.getD 0 0) (p.getD (m - 1) 0) = true then KasT.ret (m, p) else kas_descPart m n (kas_rev p 0 m)) G s
      by_cases e3 : c (p.getD 0 0) (p.getD (m - 1) 0) = true
      · rw [if_pos e3]
        exact h m p a b1 (by omega) u
      · rw [if_neg e3]
        have e3' : c (gd p 0) (gd p (m - 1)) = false := by simpa using e3
        have all : ∀ x y, 0 ≤ x → x < m → 0 ≤ y → y < m → c (gd p x) (gd p y) = false := fun x y _ hx _ hy =>
          o.trans (gd p y) (gd p (m - 1)) (gd p x) (u y (m - 1) (by omega) (by omega)) (o.trans (gd p (m - 1)) (gd p 0) (gd p x) e3' (u 0 x (by omega) hx))
        have ev := rev_eqv o a (l := 0) (m := m) (by omega) all
        have d : Dn c p m := fun i j h1 h2 => all i j (by omega) (by omega) (by omega) h2
        refine descPart_run o h0 (a.rev h0 _ _) hlt ((d.eqv o ev).succ o fun _ => ?_) h
        exact o.trans _ (gd p (m - 1)) _ (o.trans _ (gd p m) _ (ev m).2 st') (ev (m - 1)).1
    · rw [if_neg e2]
      obtain rfl : m = 1 := by omega
      refine descPart_run o h0 a hlt ?_ h
      refine Dn.succ o (fun i j h1 h2 => ?_) fun _ => st'
      obtain rfl : i = j := by omega
      exact o.refl _
/-- where the k-th belongs among the k ahead of it -/
theorem place_run (o : Ord c) {p : Array Nat} (a : Ar n p) {k : Nat} {G : Nat → Shared → Prop} : ∀ (f l r : Nat), r - l ≤ f → l ≤ r → r ≤ k → (∀ i, i < l → c (gd p k) (gd p i) = false) → (∀ i, r ≤ i → i < k → c (gd p k) (gd p i) = true) → Up c p k →
    (∀ l', l' ≤ k → (∀ i, i < l' → c (gd p k) (gd p i) = false) → (∀ i, l' ≤ i → i < k → c (gd p k) (gd p i) = true) → G l' s) → (kas_place p k f l r).kasWp (cmpP n c) G s
  | 0, l, r, hf, hl, hr, h1, h2, u, h => h l (by omega) h1 (fun i hi hk => h2 i (by omega) hk)
  | f + 1, l, r, hf, hl, hr, h1, h2, u, h => by
    unfold kas_place
    by_cases e : l ≥ r
    · rw [if_pos e]
      exact h l (by omega) h1 (fun i hi hk => h2 i (by omega) hk)
    · rw [if_neg e]
      refine ⟨a.low _, a.low _, ?_⟩
      show KasT.kasWp (cmpP n c) (if c (p.getD k 0) (p.getD ((l + r) / 2) 0) = true then kas_place p k f l ((l + r) / 2) else kas_place p k f ((l + r) / 2 + 1) r) G s
      by_cases e1 : c (p.getD k 0) (p.getD ((l + r) / 2) 0) = true
      · rw [if_pos e1]
        refine place_run o a f l _ (by omega) (by omega) (by omega) h1 (fun i hi hk => ?_) u h
        -- p k < p mid ≤ p i
        cases z : c (gd p k) (gd p i) with
        | true => rfl
        | false =>
          have := o.trans (gd p ((l + r) / 2)) (gd p i) (gd p k) (u ((l + r) / 2) i hi hk) z
          have e1' : c (gd p k) (gd p ((l + r) / 2)) = true := e1
          rw [e1'] at this
          cases this
      · rw [if_neg e1]
        have e1' : c (gd p k) (gd p ((l + r) / 2)) = false := by simpa using e1
        refine place_run o a f _ r (by omega) (by omega) hr (fun i hi => ?_) h2 u h
        exact o.trans (gd p i) (gd p ((l + r) / 2)) (gd p k) (u i ((l + r) / 2) (by omega) (by omega)) e1'
theorem bin_run (o : Ord c) (h0 : 0 < n) {G : Array Nat → Shared → Prop} : ∀ (f k : Nat) (p : Array Nat), Ar n p → k + f ≤ n → Up c p k → (∀ p', Ar n p' → Up c p' (k + f) → G p' s) → (kas_bin f p k).kasWp (cmpP n c) G s
  | 0, k, p, a, hf, u, h => h p a u
  | f + 1, k, p, a, hf, u, h => by
    unfold kas_bin
    rw [KasT.kasWp_bind]
    refine place_run o a k 0 k (by omega) (by omega) (Nat.le_refl _) (fun i hi => absurd hi (Nat.not_lt_zero _)) (fun i hi hk => absurd hk (by omega)) u fun l hl h1 h2 => ?_
    have g := gd_bub a (src := k) (d := k - l) (by omega) (by omega)
    have el : k - (k - l) = l := by omega
    rw [el] at g
    refine bin_run o h0 f (k + 1) _ (a.bub h0 _ _) (by omega) (fun i j hij hj => ?_) fun p' a' u' => h p' a' (by rw [show k + (f + 1) = k + 1 + f by omega]; exact u')
    rw [g i, g j]
    by_cases i1 : i = l
    · rw [if_pos i1]
      by_cases j1 : j = l
      · rw [if_pos j1]; exact o.refl _
      · rw [if_neg j1, if_pos (by omega)]
        exact o.asym _ _ (h2 (j - 1) (by omega) (by omega))
    · rw [if_neg i1]
      by_cases i2 : l < i ∧ i ≤ k
      · rw [if_pos i2, if_neg (by omega), if_pos (by omega)]
        exact u _ _ (by omega) (by omega)
      · rw [if_neg i2]
        by_cases j1 : j = l
        · rw [if_pos j1]
          exact h1 i (by omega)
        · rw [if_neg j1]
          by_cases j2 : l < j ∧ j ≤ k
          · rw [if_pos j2]
            exact u _ _ (by omega) (by omega)
          · rw [if_neg j2]
            exact u _ _ hij (by omega)
theorem sort_run (o : Ord c) (h0 : 0 < n) {G : Array Nat → Shared → Prop} (h : ∀ p', Ar n p' → Up c p' n → G p' s) : (kas_sort n).kasWp (cmpP n c) G s := by
  unfold kas_sort
  rw [KasT.kasWp_bind]
  refine count_run o h0 (.start h0) fun m p a b1 b2 u => ?_
  show KasT.kasWp (cmpP n c) (if m < n then kas_bin (n - max m 1) p (max m 1) else KasT.ret p) G s
  have em : max m 1 = m := by omega
  rw [em]
  by_cases e : m < n
  · rw [if_pos e]
    exact bin_run o h0 (n - m) m p a (by omega) u fun p' a' u' => h p' a' (by rw [show m + (n - m) = n by omega] at u'; exact u')
  · rw [if_neg e]
    obtain rfl : m = n := by omega
    exact h p a u
/-- answers by the state, as c gives them -/
theorem ask_run {cmp : Nat → Nat → (Bool → Shared → Prop) → Shared → Prop} {J : Shared → Prop} (hc : ∀ i j C s, i < n → j < n → J s → (∀ s', J s' → C (c i j) s') → cmp i j C s) {α : Type} {G : α → Prop} {Q : α → Shared → Prop} (hQ : ∀ a s', G a → J s' → Q a s') :
    ∀ (t : KasT α) (s s0 : Shared), t.kasWp (cmpP n c) (fun a _ => G a) s0 → J s → t.kasWp cmp Q s
  | .ret a, s, _, h, j => hQ a s h j
  | .ask i k f, s, s0, h, j => hc i k _ s h.1 h.2.1 j fun s' j' => ask_run hc hQ (f (c i k)) s' s0 h.2.2 j'
end
end Own

set_option Elab.async false
set_option linter.all false
set_option maxRecDepth 100000
set_option maxHeartbeats 4000000
namespace Own
open PySem PySem.W PyProof.Rows
section
variable {prog : Program} {w : World} {A : Around} {E : Value → Shared → Prop} {s : Shared}
/-- list.sort, the comparisons answered by c -/
theorem list_sort_own {a : Addr} {vs : List Value} {n : Nat} {κ : SortKind} {c : Nat → Nat → Bool} {P : Fin → Shared → Prop} (ho : s.heap.get? a = some (seqObj "list" vs.toArray n)) (h64 : vs.length < 64) (o : Ord c)
    (hkind : 2 ≤ vs.length → ∀ (s' : Shared) (Q : SortKind → Shared → Prop), (∀ b ob, b ≠ a → s.heap.get? b = some ob → s'.heap.get? b = some ob) → Q κ s' → wpAny (model prog w) A (keyKind' vs.toArray) Q (fun _ _ => False) s')
    (hlt : ∀ i j (s' : Shared) (Q : Bool → Shared → Prop), i < vs.length → j < vs.length → (∀ b ob, b ≠ a → s.heap.get? b = some ob → s'.heap.get? b = some ob) → Q (c i j) s' → wpAny (model prog w) A (keyLt' κ (vs.getD i Value.none) (vs.getD j Value.none)) Q (fun _ _ => False) s')
    (h : ∀ p : Array Nat, p.Perm (List.range vs.length).toArray → Up c p vs.length → P (.done (.ret .none)) { s with heap := sortedHeap s.heap a vs (p.toList.map fun i => vs.getD i Value.none).toArray }) :
    wpAny (model prog w) A (Builtin.«list.sort» ⟨[.ref a], []⟩) P E s := by
  rw [list_sort_plain]
  have ha : a < s.heap.objs.size := Heap.lt_size ho
  refine wpAny_bind (listItems_at ho rfl ?_)
  refine wpAny_bind (listUpdate_at ho rfl ?_ (by rw [List.size_toArray, sizeLine_eq]; omega) (Nat.zero_le _))
  obtain ⟨e1, ho1⟩ : ∃ e1, (s.heap.update a (Obj.mapSeq fun _ => #[])).get? a = some (seqObj "list" #[] e1) := ⟨_, get?_update_seq ho (fun _ => #[])⟩
  refine wpAny_bind (seqEpoch_at ho1 rfl ?_)
  refine wpAny_bind (wpAny_newTuple ?_ (by show vs.length ≤ _; rw [sizeLine_eq]; omega))
  refine wpAny_bind (wpAny_newList ?_ (Nat.zero_le _))
  refine wpAny_holding ?_
  have ho6 : (((s.heap.update a (Obj.mapSeq fun _ => #[])).push (seqObj "tuple" vs.toArray 0)).push (seqObj "list" #[] 0)).get? a = some (seqObj "list" #[] e1) := by
    rw [Heap.get?_push_ne _ _ _ (by rw [size_push', Heap.size_update]; exact Nat.ne_of_lt (Nat.lt_succ_of_lt ha)), Heap.get?_push_ne _ _ _ (by rw [Heap.size_update]; exact Nat.ne_of_lt ha)]
    exact ho1
  have keep : ∀ b ob, b ≠ a → s.heap.get? b = some ob → (((s.heap.update a (Obj.mapSeq fun _ => #[])).push (seqObj "tuple" vs.toArray 0)).push (seqObj "list" #[] 0)).get? b = some ob := fun b ob hb e =>
    Heap.get?_push_of_some _ (Heap.get?_push_of_some _ ((Heap.get?_update_other _ _ (Ne.symm hb)).trans e))
  show wpAny (model prog w) A _ P E { s with heap := ((s.heap.update a (Obj.mapSeq fun _ => #[])).push (seqObj "tuple" vs.toArray 0)).push (seqObj "list" #[] 0) }
  dsimp only
  have hsz : vs.toArray.size = vs.length := by simp
  by_cases h2 : vs.toArray.size < 2
  · rw [if_pos h2, if_pos h2]
    refine wpAny_bind (wpAny_pure ?_)
    rw [StateT.run_pure]
    refine wpAny_bind (wpAny_pure ?_)
    dsimp only
    refine wpAny_bind (seqEpoch_at ho6 rfl ?_)
    refine wpAny_bind (listUpdate_at ho6 rfl ?_ (Nat.zero_le _) (hsz2 := by rw [Array.size_map]; show (pairsOf vs).size ≤ _; rw [pairsOf_size, sizeLine_eq]; omega))
    simp only [bne_self_eq_false, Bool.false_eq_true, if_false]
    have hz := h (List.range vs.length).toArray (Array.Perm.refl _) (fun i j hij hj => by
      obtain rfl : i = j := by rw [hsz] at h2; omega
      exact o.refl _)
    refine wpAny_pure ?_
    have e : ((List.range vs.length).toArray.toList.map fun i => vs.getD i Value.none).toArray = (arrOf (SortSt.mk' general' (vs.toArray.zip vs.toArray) #[] 7 none)).map (·.2) := by
      apply Array.toList_inj.mp
      show (List.range vs.length).map _ = ((vs.toArray.zip vs.toArray).map (·.2)).toList
      rw [Array.toList_map]
      have ez : (vs.toArray.zip vs.toArray).toList = vs.zip vs := by simp
      rw [ez]
      rw [show (vs.zip vs).map (fun x => x.2) = vs from by rw [List.map_snd_zip]; exact Nat.le_refl _]
      apply List.ext_getElem?
      intro i
      rw [List.getElem?_map]
      by_cases hi : i < vs.length
      · simp [hi]
      · simp [hi]
    rw [e] at hz
    exact hz
  · rw [if_neg h2, if_neg h2]
    have l2 : 2 ≤ vs.length := by omega
    refine wpAny_bind (wpAny_mono (hkind l2 { s with heap := ((s.heap.update a (Obj.mapSeq fun _ => #[])).push (seqObj "tuple" vs.toArray 0)).push (seqObj "list" #[] 0) } (fun k s' => k = κ ∧ s' = { s with heap := ((s.heap.update a (Obj.mapSeq fun _ => #[])).push (seqObj "tuple" vs.toArray 0)).push (seqObj "list" #[] 0) }) keep ⟨rfl, rfl⟩) (fun κ' s0 hk => ?_) fun _ _ x => x.elim)
    obtain ⟨rfl, rfl⟩ := hk
    have tree : (kas_sort vs.length).kasWp (kas_ask prog w A κ' vs) (fun p s' => (p.Perm (List.range vs.length).toArray ∧ Up c p vs.length) ∧ s' = { s with heap := ((s.heap.update a (Obj.mapSeq fun _ => #[])).push (seqObj "tuple" vs.toArray 0)).push (seqObj "list" #[] 0) })
        { s with heap := ((s.heap.update a (Obj.mapSeq fun _ => #[])).push (seqObj "tuple" vs.toArray 0)).push (seqObj "list" #[] 0) } :=
      ask_run (n := vs.length) (c := c) (J := fun s' => s' = { s with heap := ((s.heap.update a (Obj.mapSeq fun _ => #[])).push (seqObj "tuple" vs.toArray 0)).push (seqObj "list" #[] 0) }) (G := fun p => p.Perm (List.range vs.length).toArray ∧ Up c p vs.length)
        (fun i j C s' hi hj hJ hC => by subst hJ; exact hlt i j _ C hi hj keep (hC _ rfl)) (fun p s' hg hJ => ⟨hg, hJ⟩) _ _ s (sort_run o (by omega) fun p' a' u' => ⟨a'.perm, u'⟩) rfl
    refine wpAny_bind (wpAny_mono (kat_run (Q := fun st' s' => ∃ p : Array Nat, p.size = vs.length ∧ arrOf st' = p.map (kas_item (vs.toArray.zip vs.toArray)) ∧ failedOf st' = none ∧ (p.Perm (List.range vs.length).toArray ∧ Up c p vs.length) ∧ s' = { s with heap := ((s.heap.update a (Obj.mapSeq fun _ => #[])).push (seqObj "tuple" vs.toArray 0)).push (seqObj "list" #[] 0) })
      rfl l2 h64 (fun p' st' s' a1 a2 a3 a4 => ⟨p', a1, a2, a3, a4.1, a4.2⟩) tree) ?_ fun _ _ e => e)
    rintro ⟨⟨⟩, st'⟩ s' ⟨p, hp, har, hf, ⟨hpm, hup⟩, rfl⟩
    dsimp only
    refine wpAny_bind (seqEpoch_at ho6 rfl ?_)
    have hsn : (arrOf st').map (·.2) = List.toArray (p.toList.map fun i => vs.getD i Value.none) := kat_snds rfl har
    refine wpAny_bind (listUpdate_at ho6 rfl ?_ (Nat.zero_le _) (hsz2 := by rw [hsn]; simp only [List.size_toArray, List.length_map, Array.length_toList]; rw [hp, sizeLine_eq]; omega))
    rw [hf, hsn]
    simp only [bne_self_eq_false, Bool.false_eq_true, if_false]
    exact wpAny_pure (h p hpm hup)
end
end Own

set_option Elab.async false
set_option linter.all false
set_option maxRecDepth 100000
set_option maxHeartbeats 4000000
namespace Own
open PySem PySem.W PyProof.Rows
section
variable {prog : Program} {w : World} {A : Around} {E : Value → Shared → Prop} {s : Shared}
/-- every object of h stands in h' -/
def Kp (h h' : Heap) : Prop := ∀ b ob, h.get? b = some ob → h'.get? b = some ob
/-- the keys' kind, the comparisons, wherever the objects of h stand -/
structure SortC (prog : Program) (w : World) (vs : List Value) (κ : SortKind) (c : Nat → Nat → Bool) (h : Heap) : Prop where
  ord : Ord c
  kind : 2 ≤ vs.length → ∀ (A : Around) (s' : Shared) (Q : SortKind → Shared → Prop), Kp h s'.heap → Q κ s' → wpAny (model prog w) A (keyKind' vs.toArray) Q (fun _ _ => False) s'
  lt : ∀ i j (A : Around) (s' : Shared) (Q : Bool → Shared → Prop), i < vs.length → j < vs.length → Kp h s'.heap → Q (c i j) s' → wpAny (model prog w) A (keyLt' κ (vs.getD i Value.none) (vs.getD j Value.none)) Q (fun _ _ => False) s'
theorem sorted_via {v : Value} {Q : Value → Shared → Prop} (hc : ∀ A' : Around, A'.handled = A.handled → wpAny (model prog w) A' (collect v) (fun vs s1 => vs.length < 64 ∧ ∃ κ c, SortC prog w vs κ c s1.heap ∧
      ∀ p : Array Nat, p.Perm (List.range vs.length).toArray → Up c p vs.length → ∀ h', Kp s1.heap h' → (∃ e, h'.get? s1.heap.objs.size = some (seqObj "list" (p.toList.map fun i => vs.getD i Value.none).toArray e)) → Q (.ref s1.heap.objs.size) { s1 with heap := h' }) E s) :
    wpAny (model prog w) A (call (.builtin "sorted") [v]) Q E s := by
  refine Calls.call_function_entry kind_sorted plain_sorted entry_sorted (args_sorted1 _) ?_
  unfold Builtin.«sorted»
  refine wpAny_bind (m := checkCount "sorted" 1 1 _) (wpAny_pure ?_)
  refine wpAny_bind (wpAny_mono (hc _ rfl) (fun vs s1 h1 => ?_) fun _ _ e => e)
  obtain ⟨h64, κ, c, C, fin⟩ := h1
  refine wpAny_bind (wpAny_newList ?_ (by rw [sizeLine_eq]; omega))
  have hoL : (s1.heap.push (seqObj "list" vs.toArray 0)).get? s1.heap.objs.size = some (seqObj "list" vs.toArray 0) := Heap.get?_push_size _ rfl
  have kp1 : Kp s1.heap (s1.heap.push (seqObj "list" vs.toArray 0)) := fun b ob e => Heap.get?_push_of_some _ e
  have kp2 : ∀ s' : Shared, (∀ b ob, b ≠ s1.heap.objs.size → (s1.heap.push (seqObj "list" vs.toArray 0)).get? b = some ob → s'.heap.get? b = some ob) → Kp s1.heap s'.heap := fun s' hk b ob e => hk b ob (Nat.ne_of_lt (Heap.lt_size e)) (kp1 b ob e)
  show wpAny _ _ _ _ _ { s1 with heap := s1.heap.push (seqObj "list" vs.toArray 0) }
  refine wpAny_bind (wpAny_holding (wpAny_call_entry slot_list_sort ⟨_, hoL, rfl⟩ entry_list_sort (list_sort_own (s := { s1 with heap := s1.heap.push (seqObj "list" vs.toArray 0) }) hoL h64 C.ord (fun l2 s' Q' hk q => C.kind l2 _ s' Q' (kp2 s' hk) q)
    (fun i j s' Q' hi hj hk q => C.lt i j _ s' Q' hi hj (kp2 s' hk) q) fun p hp hup => ⟨_, rfl, ?_⟩) (args_list_sort _)))
  refine wpAny_pure ⟨_, rfl, fin p hp hup _ (fun b ob e => ?_) ?_⟩
  · have hlt : b < s1.heap.objs.size := Heap.lt_size e
    show (sortedHeap (s1.heap.push (seqObj "list" vs.toArray 0)) s1.heap.objs.size vs _).get? b = some ob
    unfold sortedHeap
    rw [Heap.get?_update_ne _ _ _ _ (Nat.ne_of_lt hlt)]
    refine Heap.get?_push_of_some _ (Heap.get?_push_of_some _ ?_)
    rw [Heap.get?_update_ne _ _ _ _ (Nat.ne_of_lt hlt)]
    exact kp1 b ob e
  · show ∃ e, (sortedHeap (s1.heap.push (seqObj "list" vs.toArray 0)) s1.heap.objs.size vs _).get? s1.heap.objs.size = some _
    unfold sortedHeap
    obtain ⟨e1, ho1⟩ : ∃ e1, ((s1.heap.push (seqObj "list" vs.toArray 0)).update s1.heap.objs.size (Obj.mapSeq fun _ => #[])).get? s1.heap.objs.size = some (seqObj "list" #[] e1) := ⟨_, get?_update_seq hoL (fun _ => #[])⟩
    have ho2 := Heap.get?_push_of_some (seqObj "list" #[] 0) (Heap.get?_push_of_some (seqObj "tuple" vs.toArray 0) ho1)
    exact ⟨_, get?_update_seq ho2 _⟩
end
end Own

set_option Elab.async false
set_option linter.all false
set_option maxRecDepth 100000
set_option maxHeartbeats 1000000
namespace Own
open PySem PySem.W PyProof.Rows L2
/-! ### rows of ints and texts, in the order of tuples -/
def klt : Key → Key → Bool
  | .inl i, .inl j => decide (i < j)
  | .inr x, .inr y => decide (x.cps.toList < y.cps.toList)
  | .inl _, .inr _ => true
  | .inr _, .inl _ => false
theorem str_ext {x y : Str} (h : x.cps.toList = y.cps.toList) : x = y := by
  cases x; cases y
  simp only at h
  rw [Array.toList_inj.mp h]
theorem klt_irrefl (k : Key) : klt k k = false := by
  cases k with
  | inl i => exact decide_eq_false (Int.lt_irrefl i)
  | inr x => exact decide_eq_false (List.lt_irrefl _)
theorem klt_asym {a b : Key} (h : klt a b = true) : klt b a = false := by
  cases a with
  | inl i => cases b with
    | inl j => have := of_decide_eq_true (show decide (i < j) = true from h); exact decide_eq_false (by omega)
    | inr y => rfl
  | inr x => cases b with
    | inl j => exact absurd (show false = true from h) Bool.false_ne_true
    | inr y => have := of_decide_eq_true (show decide (x.cps.toList < y.cps.toList) = true from h); exact decide_eq_false (List.lt_asymm this)
theorem klt_trans {a b c : Key} (h1 : klt a b = true) (h2 : klt b c = true) : klt a c = true := by
  cases a with
  | inl i => cases b with
    | inl j => cases c with
      | inl k => have := of_decide_eq_true (show decide (i < j) = true from h1); have := of_decide_eq_true (show decide (j < k) = true from h2); exact decide_eq_true (by omega)
      | inr z => rfl
    | inr y => cases c with
      | inl k => exact absurd (show false = true from h2) Bool.false_ne_true
      | inr z => rfl
  | inr x => cases b with
    | inl j => exact absurd (show false = true from h1) Bool.false_ne_true
    | inr y => cases c with
      | inl k => exact absurd (show false = true from h2) Bool.false_ne_true
      | inr z => have a1 := of_decide_eq_true (show decide (x.cps.toList < y.cps.toList) = true from h1); have a2 := of_decide_eq_true (show decide (y.cps.toList < z.cps.toList) = true from h2); exact decide_eq_true (List.lt_trans a1 a2)
theorem klt_total {a b : Key} (h1 : klt a b = false) (h2 : klt b a = false) : a = b := by
  cases a with
  | inl i => cases b with
    | inl j => have := of_decide_eq_false (show decide (i < j) = false from h1); have := of_decide_eq_false (show decide (j < i) = false from h2); rw [show i = j by omega]
    | inr y => exact absurd (show true = false from h1) (by decide)
  | inr x => cases b with
    | inl j => exact absurd (show true = false from h2) (by decide)
    | inr y =>
      have a1 := of_decide_eq_false (show decide (x.cps.toList < y.cps.toList) = false from h1)
      have a2 := of_decide_eq_false (show decide (y.cps.toList < x.cps.toList) = false from h2)
      have e : x.cps.toList = y.cps.toList := List.le_antisymm (List.not_lt.mp a2) (List.not_lt.mp a1)
      rw [str_ext e]
def lexK : List Key → List Key → Bool
  | [], [] => false
  | [], _ :: _ => true
  | _ :: _, [] => false
  | a :: as, b :: bs => if a = b then lexK as bs else klt a b
theorem lexK_asym : ∀ {a b : List Key}, lexK a b = true → lexK b a = false
  | [], [], h => rfl
  | [], _ :: _, _ => rfl
  | _ :: _, [], h => absurd (show false = true from h) Bool.false_ne_true
  | a :: as, b :: bs, h => by
    have h : (if a = b then lexK as bs else klt a b) = true := h
    show (if b = a then lexK bs as else klt b a) = false
    by_cases e : a = b
    · rw [if_pos e] at h; rw [if_pos e.symm]; exact lexK_asym h
    · rw [if_neg e] at h; rw [if_neg (fun z => e z.symm)]; exact klt_asym h
theorem lexK_total : ∀ {a b : List Key}, lexK a b = false → lexK b a = false → a = b
  | [], [], _, _ => rfl
  | [], _ :: _, h, _ => absurd (show true = false from h) (by decide)
  | _ :: _, [], _, h => absurd (show true = false from h) (by decide)
  | a :: as, b :: bs, h1, h2 => by
    have h1 : (if a = b then lexK as bs else klt a b) = false := h1
    have h2 : (if b = a then lexK bs as else klt b a) = false := h2
    by_cases e : a = b
    · rw [if_pos e] at h1; rw [if_pos e.symm] at h2; rw [e, lexK_total h1 h2]
    · rw [if_neg e] at h1; rw [if_neg (fun z => e z.symm)] at h2; exact absurd (klt_total h1 h2) e
theorem lexK_trans : ∀ {a b c : List Key}, lexK a b = true → lexK b c = true → lexK a c = true
  | [], [], _, h, _ => absurd (show false = true from h) Bool.false_ne_true
  | [], _ :: _, [], _, h => absurd (show false = true from h) Bool.false_ne_true
  | [], _ :: _, _ :: _, _, _ => rfl
  | _ :: _, [], _, h, _ => absurd (show false = true from h) Bool.false_ne_true
  | _ :: _, _ :: _, [], _, h => absurd (show false = true from h) Bool.false_ne_true
  | a :: as, b :: bs, c :: cs, h1, h2 => by
    have h1 : (if a = b then lexK as bs else klt a b) = true := h1
    have h2 : (if b = c then lexK bs cs else klt b c) = true := h2
    show (if a = c then lexK as cs else klt a c) = true
    by_cases e : a = b
    · subst e
      rw [if_pos rfl] at h1
      by_cases e2 : a = c
      · rw [if_pos e2] at h2 ⊢; exact lexK_trans h1 h2
      · rw [if_neg e2] at h2 ⊢; exact h2
    · rw [if_neg e] at h1
      by_cases e2 : b = c
      · subst e2; rw [if_neg e]; exact h1
      · rw [if_neg e2] at h2
        have z := klt_trans h1 h2
        by_cases e3 : a = c
        · subst e3; rw [klt_irrefl] at z; cases z
        · rw [if_neg e3]; exact z
theorem ord_lexK (f : Nat → List Key) : Ord (fun i j => lexK (f i) (f j)) where
  asym := fun i j h => lexK_asym h
  trans := fun i j k h1 h2 => by
    -- not (j < i), not (k < j): not (k < i)
    cases e : lexK (f k) (f i) with
    | false => rfl
    | true =>
      have h1 : lexK (f j) (f i) = false := h1
      have h2 : lexK (f k) (f j) = false := h2
      cases e1 : lexK (f i) (f j) with
      | true => have := lexK_trans e e1; rw [h2] at this; cases this
      | false =>
        have := lexK_total e1 h1
        rw [← this, e] at h2; cases h2
theorem ord_int (f : Nat → Int) : Ord (fun i j => decide (f i < f j)) where
  asym := fun i j h => by have := of_decide_eq_true h; exact decide_eq_false (by omega)
  trans := fun i j k h1 h2 => by have := of_decide_eq_false h1; have := of_decide_eq_false h2; exact decide_eq_false (by omega)
end Own

set_option Elab.async false
set_option linter.all false
set_option maxRecDepth 100000
set_option maxHeartbeats 1000000
namespace Own
open PySem PySem.W PyProof.Rows L2
section
variable {prog : Program} {w : World} {A : Around} {E : Value → Shared → Prop} {s : Shared} {b fin : Bool} {Q : Bool → Shared → Prop}
theorem eqB_key {k l : Key} {u v : Value} {R : Bool → Shared → Prop} (ru : RelV (kV k) u) (rv : RelV (kV l) v) (hs : k.isLeft = l.isLeft) (h : R (decide (k = l)) s) : wpAny (model prog w) A (eqBool u v) R E s := by
  cases k with
  | inl i => cases l with
    | inl j =>
      obtain ⟨t, rfl⟩ := (show ∃ t, u = Value.int i t from ru)
      obtain ⟨t', rfl⟩ := (show ∃ t, v = Value.int j t from rv)
      rw [key_ll] at h
      exact wpAny_eqBool_int h
    | inr y => cases hs
  | inr x => cases l with
    | inl j => cases hs
    | inr y =>
      obtain ⟨t, rfl⟩ := (show ∃ t, u = Value.str x t from ru)
      obtain ⟨t', rfl⟩ := (show ∃ t, v = Value.str y t from rv)
      rw [key_rr] at h
      exact wpAny_eqBool_str h
theorem oneL_key {k l : Key} {u v : Value} {f : Bool} (ru : RelV (kV k) u) (rv : RelV (kV l) v) (hs : k.isLeft = l.isLeft) (h : Q (klt k l) s) : wpAny (model prog w) A (oneLt' f u v) Q E s := by
  cases k with
  | inl i => cases l with
    | inl j =>
      obtain ⟨t, rfl⟩ := (show ∃ t, u = Value.int i t from ru)
      obtain ⟨t', rfl⟩ := (show ∃ t, v = Value.int j t from rv)
      cases f with
      | true => exact oneLt_int h
      | false => exact kat_one _ _ (lt_int h)
    | inr y => cases hs
  | inr x => cases l with
    | inl j => cases hs
    | inr y =>
      obtain ⟨t, rfl⟩ := (show ∃ t, u = Value.str x t from ru)
      obtain ⟨t', rfl⟩ := (show ∃ t, v = Value.str y t from rv)
      cases f with
      | true => exact oneLt_str h
      | false => exact kat_one _ _ (lt_str h)
theorem katlex_keys : ∀ {ks ls : List Key} {us vs : List Value} {i : Nat}, Vals (ks.map kV) us → Vals (ls.map kV) vs → ks.map Sum.isLeft = ls.map Sum.isLeft → Q (lexK ks ls) s → KatLex prog w A b false Q (us.zip vs) i s
  | [], [], _, _, i, .nil, .nil, _, h => kat_nil h
  | [], _ :: _, _, _, i, _, _, e, _ => by simp at e
  | _ :: _, [], _, _, i, _, _, e, _ => by simp at e
  | k :: ks, l :: ls, u :: us, v :: vs, i, .cons r1 t1, .cons r2 t2, e, h => by
    simp only [List.map_cons, List.cons.injEq] at e
    refine kat_cons (eqB_key r1 r2 e.1 ?_)
    have h : Q (if k = l then lexK ks ls else klt k l) s := h
    by_cases q : k = l
    · rw [decide_eq_true q]
      rw [if_pos q] at h
      exact kat_yes (katlex_keys t1 t2 e.2 h)
    · rw [decide_eq_false q]
      rw [if_neg q] at h
      exact kat_no (oneL_key r1 r2 e.1 h)
end
section
variable {X : Cx} {pins : List (Addr × Obj)} {σ : L2.St} {H : Hp} {s : Shared}
/-- the values are tuples of these rows -/
def Rows (H : Hp) (us : List V) (rows : List (List V)) : Prop := Paired (fun u r => ∃ a, u = V.ref a ∧ H a = some (.tup r)) us rows
theorem Rows.tup {us : List V} {rows : List (List V)} (R : Rows H us rows) (I : Inv X pins σ H s) : ∀ {vs : List Value}, Vals us vs → ∀ i, i < vs.length → ∃ a its, vs.getD i Value.none = .ref a ∧ Vals (rows.getD i []) its ∧ IsTup s.heap a its.toArray := by
  induction R with
  | nil => intro vs r i hi; cases r; exact absurd hi (Nat.not_lt_zero _)
  | @cons u row us rows h t ih =>
    intro vs r i hi
    cases r with
    | @cons _ v _ vs r1 r2 =>
      obtain ⟨a, rfl, ha⟩ := h
      cases i with
      | zero =>
        cases (show v = Value.ref a from r1)
        obtain ⟨_, its, q, p⟩ := (show ObjOk X.prog X.w H s.heap a (.tup row) from I.hok a _ ha)
        exact ⟨a, its, rfl, q, p⟩
      | succ i =>
        obtain ⟨a', its, e, q, p⟩ := ih r2 i (by simpa using hi)
        exact ⟨a', its, by simpa using e, by simpa using q, p⟩
theorem kp_tup {h h' : Heap} {a : Addr} {xs : Array Value} (k : Kp h h') (p : IsTup h a xs) : IsTup h' a xs := by
  obtain ⟨o, e, c⟩ := p
  exact ⟨o, k a o e, c⟩
theorem kat_firsts_of {us : List V} {rows : List (List V)} {h' : Heap} (R : Rows H us rows) (I : Inv X pins σ H s) (k : Kp s.heap h') (hf : ∀ r ∈ rows, ∃ i rest, r = V.int i :: rest) : ∀ {vs : List Value}, Vals us vs → ∃ fs : List Value, KatTups h' vs fs ∧ fs.length = vs.length ∧ ∀ v ∈ fs, ∃ i t, v = Value.int i t := by
  induction R with
  | nil => intro vs r; cases r; exact ⟨[], KatTups.nil, rfl, fun _ z => nomatch z⟩
  | @cons u row us rows h t ih =>
    intro vs r
    cases r with
    | @cons _ v _ vs r1 r2 =>
      obtain ⟨a, rfl, ha⟩ := h
      cases (show v = Value.ref a from r1)
      obtain ⟨i, rest, rfl⟩ := hf row List.mem_cons_self
      obtain ⟨_, its, q, o, e, c, n, d⟩ := (show ObjOk X.prog X.w H s.heap a (.tup (V.int i :: rest)) from I.hok a _ ha)
      cases q with
      | @cons _ f _ its q1 q2 =>
        obtain ⟨tk, rfl⟩ := (show ∃ t, f = Value.int i t from q1)
        obtain ⟨fs, K1, K2, K3⟩ := ih (fun r hr => hf r (List.mem_cons_of_mem _ hr)) r2
        refine ⟨Value.int i tk :: fs, KatTups.cons (k a o e) c d (by simp) K1, by simp [K2], fun v hv => ?_⟩
        rcases List.mem_cons.mp hv with z | z
        · exact ⟨i, tk, z⟩
        · exact K3 v z
theorem kind_of {us : List V} {rows : List (List V)} {vs : List Value} (R : Rows H us rows) (I : Inv X pins σ H s) (r : Vals us vs) (hf : ∀ r ∈ rows, ∃ i rest, r = V.int i :: rest) (l2 : 2 ≤ vs.length) (A : Around) (s' : Shared) (Q : SortKind → Shared → Prop) (k : Kp s.heap s'.heap) (q : Q (tuples' true) s') :
    wpAny (model X.prog X.w) A (keyKind' vs.toArray) Q (fun _ _ => False) s' := by
  obtain ⟨fs, K1, K2, K3⟩ := kat_firsts_of R I k hf r
  refine kat_kind (T := .type "int") K1 (by omega) (fun v hv => ?_) rfl q
  obtain ⟨i, t, rfl⟩ := K3 v hv
  exact Looks.of_pure rfl
/-- tuples of ints and texts, all of one make, an int in front -/
theorem sortC_keys {us : List V} {rows : List (List Key)} {vs : List Value} {pat : List Bool} (R : Rows H us (rows.map fun r => r.map kV)) (I : Inv X pins σ H s) (r : Vals us vs) (hp : ∀ r ∈ rows, r.map Sum.isLeft = true :: pat) :
    SortC X.prog X.w vs (tuples' true) (fun i j => lexK (rows.getD i []) (rows.getD j [])) s.heap where
  ord := ord_lexK _
  kind := fun l2 A s' Q k q => kind_of R I r (fun x hx => by
    obtain ⟨y, hy, rfl⟩ := List.mem_map.mp hx
    have := hp y hy
    cases y with
    | nil => simp at this
    | cons z zs => cases z with
      | inl i => exact ⟨i, zs.map kV, rfl⟩
      | inr x => simp at this) l2 A s' Q k q
  lt := fun i j A s' Q hi hj k q => by
    have hl : rows.length = vs.length := by
      have h1 := Paired.length R
      rw [List.length_map] at h1
      rw [← h1]; exact r.length
    obtain ⟨a, its, e1, q1, p1⟩ := R.tup I r i hi
    obtain ⟨a', its', e2, q2, p2⟩ := R.tup I r j hj
    rw [e1, e2]
    have g : ∀ n, n < vs.length → (rows.map fun r => r.map kV).getD n [] = (rows.getD n []).map kV := fun n hn => by
      have hn' : n < rows.length := by omega
      simp [hn']
    rw [g i hi] at q1
    rw [g j hj] at q2
    have m : ∀ n, n < vs.length → (rows.getD n []).map Sum.isLeft = true :: pat := fun n hn => hp _ (by
      have hn' : n < rows.length := by omega
      rw [show rows.getD n [] = rows[n] by simp [hn']]
      exact List.getElem_mem hn')
    have lk : ∀ n, n < vs.length → (rows.getD n []).length = pat.length + 1 := fun n hn => by have := congrArg List.length (m n hn); simpa using this
    obtain ⟨o, h1, _, n1, d1⟩ := kp_tup k p1
    obtain ⟨o', h1', _, n1', d1'⟩ := kp_tup k p2
    have len1 := q1.length
    have len2 := q2.length
    rw [List.length_map, lk i hi] at len1
    rw [List.length_map, lk j hj] at len2
    refine kat_lt h1 d1 h1' d1' ?_
    rw [show decide (its.toArray.size < its'.toArray.size) = false from decide_eq_false (by simp only [List.size_toArray]; omega)]
    exact katlex_keys q1 q2 ((m i hi).trans (m j hj).symm) q
/-- an int in front, no two alike -/
theorem sortC_first {us : List V} {rows : List (Int × List V)} {vs : List Value} (R : Rows H us (rows.map fun r => V.int r.1 :: r.2)) (I : Inv X pins σ H s) (r : Vals us vs) (hd : (rows.map (·.1)).Nodup) :
    SortC X.prog X.w vs (tuples' true) (fun i j => decide ((rows.getD i (0, [])).1 < (rows.getD j (0, [])).1)) s.heap where
  ord := ord_int fun i => (rows.getD i (0, [])).1
  kind := fun l2 A s' Q k q => kind_of R I r (fun x hx => by
    obtain ⟨y, hy, rfl⟩ := List.mem_map.mp hx
    exact ⟨y.1, y.2, rfl⟩) l2 A s' Q k q
  lt := fun i j A s' Q hi hj k q => by
    have hl : rows.length = vs.length := by
      have h1 := Paired.length R
      rw [List.length_map] at h1
      rw [← h1]; exact r.length
    obtain ⟨a, its, e1, q1, p1⟩ := R.tup I r i hi
    obtain ⟨a', its', e2, q2, p2⟩ := R.tup I r j hj
    obtain ⟨o, h1, _, n1, d1⟩ := kp_tup k p1
    obtain ⟨o', h1', _, n1', d1'⟩ := kp_tup k p2
    have g : ∀ n, n < vs.length → (rows.map fun r => V.int r.1 :: r.2).getD n [] = V.int (rows.getD n (0, [])).1 :: (rows.getD n (0, [])).2 := fun n hn => by
      have hn' : n < rows.length := by omega
      simp [hn']
    by_cases hij : i = j
    · subst hij
      rw [e1] at e2 ⊢
      cases e2
      rw [h1] at h1'; cases h1'
      rw [d1] at d1'
      refine kat_lt h1 d1 h1 d1 ?_
      have same : ∀ (l : List Value) (n : Nat), KatLex X.prog X.w A true (decide (its.toArray.size < its.toArray.size)) Q (l.zip l) n s' := by
        intro l
        induction l with
        | nil =>
          intro n
          refine kat_nil ?_
          rw [decide_eq_false (Nat.lt_irrefl _)]
          have q' := q
          rw [decide_eq_false (Int.lt_irrefl _)] at q'
          exact q'
        | cons x l ih =>
          intro n
          exact kat_cons (SeqAt.EqAt.same (A := A) (s := s') x X.prog X.w _ _ (kat_yes (ih (n + 1))))
      exact same _ 0
    · rw [e1, e2]
      rw [g i hi] at q1
      rw [g j hj] at q2
      cases q1 with
      | @cons _ f _ its q1 q1' =>
        cases q2 with
        | @cons _ f' _ its' q2 q2' =>
          refine kat_lt h1 d1 h1' d1' ?_
          have hne : ¬ (rows.getD i (0, [])).1 = (rows.getD j (0, [])).1 := fun z => by
            have hi' : i < rows.length := by omega
            have hj' : j < rows.length := by omega
            rw [show rows.getD i (0, []) = rows[i] by simp [hi'], show rows.getD j (0, []) = rows[j] by simp [hj']] at z
            exact hij ((List.getElem_inj (i := i) (j := j) (h₀ := by simpa using hi') (h₁ := by simpa using hj') hd).mp (by simpa using z))
          have z : KatLex X.prog X.w A true (decide ((f :: its).toArray.size < (f' :: its').toArray.size)) Q ((f, f') :: its.zip its') 0 s' := by
            refine kat_cons (eqB_key (k := .inl _) (l := .inl _) q1 q2 rfl ?_)
            rw [decide_eq_false (fun z => hne (Sum.inl.inj z))]
            exact kat_no (oneL_key (k := .inl _) (l := .inl _) q1 q2 rfl q)
          exact z
end
end Own

set_option Elab.async false
set_option linter.all false
set_option maxRecDepth 100000
set_option maxHeartbeats 1000000
namespace Own
open PySem L2
theorem perm_getD {α : Type} (xs : List α) (d : α) {p : Array Nat} (hp : p.Perm (List.range xs.length).toArray) : (p.toList.map fun i => xs.getD i d).Perm xs := by
  have h1 : p.toList.Perm (List.range xs.length) := by simpa using Array.perm_iff_toList_perm.mp hp
  have h2 := h1.map (fun i => xs.getD i d)
  have e : (List.range xs.length).map (fun i => xs.getD i d) = xs := by
    apply List.ext_getElem?
    intro i
    rw [List.getElem?_map]
    by_cases hi : i < xs.length
    · simp [hi]
    · simp [hi]
  rw [e] at h2
  exact h2
theorem up_pairwise {α : Type} {p : Array Nat} {n : Nat} {c : Nat → Nat → Bool} {f : Nat → α} {R : α → α → Prop} (hs : p.size = n) (u : Up c p n) (hR : ∀ i j, c j i = false → R (f i) (f j)) : (p.toList.map f).Pairwise R := by
  rw [List.pairwise_iff_getElem]
  intro i j hi hj hij
  have hj' : j < p.size := by simpa using hj
  have hi' : i < p.size := by simpa using hi
  simp only [List.getElem_map, Array.getElem_toList]
  have := u i j (Nat.le_of_lt hij) (by omega)
  have e1 : gd p i = p[i] := by unfold gd; simp [Array.getD, hi']
  have e2 : gd p j = p[j] := by unfold gd; simp [Array.getD, hj']
  rw [e1, e2] at this
  exact hR _ _ this
end Own
namespace L2
open PySem PySem.Spec PyProof.Rows _root_.Own
theorem mem_look {β : Type} : ∀ {L : List (Addr × β)} {b : Addr} {x : β}, L.lookup b = some x → (b, x) ∈ L
  | [], _, _, h => by simp at h
  | (a, y) :: r, b, x, h => by
    rw [List.lookup_cons] at h
    cases e : b == a with
    | true => rw [e] at h; have := eq_of_beq e; subst this; cases h; exact List.mem_cons_self
    | false => rw [e] at h; exact List.mem_cons_of_mem _ (mem_look h)
/-! ### new tuples, several at once -/
def updAll (H : Hp) (L : List (Addr × List V)) : Hp := fun b => match L.lookup b with
  | some xs => some (.tup xs)
  | none => H b
theorem updAll_old {H : Hp} {L : List (Addr × List V)} {n : Nat} (hL : ∀ p ∈ L, n ≤ p.1) {b : Addr} (hb : b < n) : updAll H L b = H b := by
  unfold updAll
  cases e : L.lookup b with
  | none => rfl
  | some xs => exact absurd hb (Nat.not_lt.mpr (hL (b, xs) (mem_look e)))
theorem updAll_same {H : Hp} {L : List (Addr × List V)} (hn : ∀ p ∈ L, H p.1 = none) : Same H (updAll H L) := fun b o e => by
  unfold updAll
  cases q : L.lookup b with
  | none => exact e
  | some xs =>
    have := hn (b, xs) (mem_look q)
    rw [e] at this; cases this
theorem Inv.laidAll {X : Cx} {pins : List (Addr × Obj)} {σ : St} {H : Hp} {s : Shared} {h' : Heap} {t' : Nat} {L : List (Addr × List V)} (I : Inv X pins σ H s) (k : ∀ b u, s.heap.get? b = some u → h'.get? b = some u) (hL : ∀ p ∈ L, s.heap.objs.size ≤ p.1)
    (new : ∀ p ∈ L, p.2.length ≤ sizeLine ∧ ∃ its, Vals p.2 its ∧ IsTup h' p.1 its.toArray) : Inv X pins σ (updAll H L) { s with heap := h', toks := t' } := by
  have fresh : ∀ b xs, L.lookup b = some xs → H b = none := fun b xs e => I.hok.fresh (hL (b, xs) (mem_look e))
  have old : ∀ b o, s.heap.get? b = some o → updAll H L b = H b := fun b o e => updAll_old hL (Heap.lt_size e)
  have sm : Same H (updAll H L) := updAll_same fun p hp => I.hok.fresh (hL p hp)
  refine I.un ⟨fun b o e _ _ _ => k b o e, fun b o e _ _ _ => ⟨o.slots, k b o e⟩, fun b o e n _ => by rw [old b o e]; exact n, fun b o e _ => ⟨o, k b o e⟩, fun b xs e => sm _ _ e, fun b o u e => sm _ _ e, fun b ps e => ⟨#[], by rw [sm _ _ e]; simp⟩⟩ fun b o e => ?_
  unfold updAll at e
  cases q : L.lookup b with
  | some xs =>
    rw [q] at e
    cases e
    exact new (b, xs) (mem_look q)
  | none =>
    rw [q] at e
    exact (I.hok b o e).stay (fun c v _ z => k c v z) (fun c z => sm _ _ z) fun c ys z => sm _ _ z
/-! ### d.items() -/
def ItV (v d : Addr) : HO := .ext fun h => h.IsItemsView v d
theorem itv_ok {P : Program} {w : World} {H : Hp} {h : Heap} {v d : Addr} (x : h.IsItemsView v d) : ObjOk P w H h v (ItV v d) :=
  ⟨x, let ⟨o, e, _⟩ := x; ⟨o, e⟩, fun _ _ ⟨o, e, r⟩ k => ⟨o, k o e, r⟩⟩
section
variable {X : Cx}
theorem mt_items : MtR X "dict.items" (fun x xs H Q => ∃ d kvs, x = .ref d ∧ xs = [] ∧ Rd H d (.dK kvs) ∧ ∀ v, H v = none → Q (.ref v) (upd H v (ItV v d))) := by
  intro pins s σ H x xs v us Q I rx rs h
  obtain ⟨d, kvs, rfl, rfl, hd, q⟩ := h
  cases rx
  cases rs
  obtain ⟨z, hm, vs, rel, dd⟩ := dk_rd I.hok hd
  refine call_meetsIn PySem.F.slot_dict_items dd.typeIs PySem.F.entry_dict_items (PySem.F.args_dict_items_1 _) (meets_dict_items (mixKind X.prog X.w) d hm) ⟨⟨vs, dd⟩, ?_⟩
  refine ⟨.ref s.heap.objs.size, _, I.laid (t' := s.toks) (o := ItV s.heap.objs.size d) (fun _ _ e => Heap.get?_push_of_some _ e) (Nat.le_refl _) (itv_ok ⟨_, Heap.get?_push_size _ rfl, rfl, rfl⟩), rfl, q _ (I.hok.fresh (Nat.le_refl _))⟩
/-! ### sorted -/
/-- a list of ints -/
def gSortI (K : PySem.W.Frag) (l : Addr) (H : Hp) (Q : VK) : Prop := ∃ ns : List Int, SqL K H l (ns.map V.int) ∧ ns.length < 64 ∧ ∀ ns' : List Int, ns'.Perm ns → ns'.Pairwise (· ≤ ·) → ∀ p, H p = none → Q (.ref p) (upd H p (.lst (ns'.map V.int)))
/-- a list of tuples of ints and texts of one make, an int in front -/
def gSortK (K : PySem.W.Frag) (l : Addr) (H : Hp) (Q : VK) : Prop := ∃ (us : List V) (rows : List (List Key)) (pat : List Bool), SqL K H l us ∧ Rows H us (rows.map fun r => r.map kV) ∧ us.length < 64 ∧ (∀ r ∈ rows, r.map Sum.isLeft = true :: pat) ∧
  ∀ (us' : List V) (rows' : List (List Key)), Rows H us' (rows'.map fun r => r.map kV) → us'.Perm us → rows'.Perm rows → rows'.Pairwise (fun a b => lexK b a = false) → ∀ p, H p = none → Q (.ref p) (upd H p (.lst us'))
/-- a list of tuples with unlike ints in front -/
def gSortF (K : PySem.W.Frag) (l : Addr) (H : Hp) (Q : VK) : Prop := ∃ (us : List V) (rows : List (Int × List V)), SqL K H l us ∧ Rows H us (rows.map fun r => V.int r.1 :: r.2) ∧ us.length < 64 ∧ (rows.map (·.1)).Nodup ∧
  ∀ (us' : List V) (rows' : List (Int × List V)), Rows H us' (rows'.map fun r => V.int r.1 :: r.2) → us'.Perm us → rows'.Perm rows → rows'.Pairwise (fun a b => a.1 < b.1) → ∀ p, H p = none → Q (.ref p) (upd H p (.lst us'))
/-- d.items(), the keys ints -/
def gSortD (l : Addr) (H : Hp) (Q : VK) : Prop := ∃ (d : Addr) (ps : List (Int × V)), H l = some (ItV l d) ∧ Rd H d (.dK (ps.map fun p => (Sum.inl p.1, p.2))) ∧ ps.length < 64 ∧
  ∀ (us' : List V) (ps' : List (Int × V)) (H' : Hp), Same H H' → Rows H' us' (ps'.map fun p => [V.int p.1, p.2]) → (∀ u ∈ us', ∃ a, u = V.ref a ∧ H a = none) → ps'.Perm ps → ps'.Pairwise (fun a b => a.1 < b.1) → ∀ p, H' p = none → Q (.ref p) (upd H' p (.lst us'))
theorem vals_getD {us : List V} {vs : List Value} (r : Vals us vs) : ∀ (l : List Nat), (∀ i ∈ l, i < us.length) → Vals (l.map fun i => us.getD i .non) (l.map fun i => vs.getD i Value.none)
  | [], _ => .nil
  | i :: l, h => by
    refine .cons ?_ (vals_getD r l fun j hj => h j (List.mem_cons_of_mem _ hj))
    have hi := h i List.mem_cons_self
    obtain ⟨u, hu, ru⟩ := r.get (List.getElem?_eq_getElem hi)
    have e1 : us.getD i .non = us[i] := by simp [hi]
    have e2 : vs.getD i Value.none = u := by rw [List.getD_eq_getElem?_getD, hu]; rfl
    show RelV (us.getD i .non) (vs.getD i Value.none)
    rw [e1, e2]; exact ru
theorem rows_getD {H : Hp} {us : List V} {rows : List (List V)} (r : Rows H us rows) : ∀ (l : List Nat), (∀ i ∈ l, i < us.length) → Rows H (l.map fun i => us.getD i .non) (l.map fun i => rows.getD i [])
  | [], _ => .nil
  | i :: l, h => by
    refine .cons ?_ (rows_getD r l fun j hj => h j (List.mem_cons_of_mem _ hj))
    have hi := h i List.mem_cons_self
    have hl : us.length = rows.length := Paired.length r
    have : ∀ {us : List V} {rows : List (List V)}, Rows H us rows → ∀ i, i < us.length → ∃ a, us.getD i .non = V.ref a ∧ H a = some (.tup (rows.getD i [])) := by
      intro us rows r
      induction r with
      | nil => intro i hi; exact absurd hi (Nat.not_lt_zero _)
      | cons h t ih =>
        intro i hi
        cases i with
        | zero => exact h
        | succ i => simpa using ih i (by simpa using hi)
    exact this r i hi
theorem lt_of_perm {p : Array Nat} {n : Nat} (hp : p.Perm (List.range n).toArray) : ∀ i ∈ p.toList, i < n := fun i hi => by
  have := (hp.mem_iff (a := i)).mp (by simpa using hi)
  simpa using this
/-- the new list of a sort -/
theorem sort_fin {pins : List (Addr × Obj)} {σ : St} {H : Hp} {s1 : Shared} {us : List V} {vs : List Value} {p : Array Nat} {h' : Heap} {Q : VK} (I : Inv X pins σ H s1) (r : Vals us vs) (hl : us.length < 64) (hp : p.Perm (List.range vs.length).toArray)
    (k : Kp s1.heap h') (hn : ∃ e, h'.get? s1.heap.objs.size = some (seqObj "list" (p.toList.map fun i => vs.getD i Value.none).toArray e)) (q : ∀ q, H q = none → Q (.ref q) (upd H q (.lst (p.toList.map fun i => us.getD i .non)))) :
    EP X pins σ Q (.ref s1.heap.objs.size) { s1 with heap := h' } := by
  obtain ⟨e, hn⟩ := hn
  have hlen := r.length
  have lt : ∀ i ∈ p.toList, i < us.length := fun i hi => by rw [hlen]; exact lt_of_perm hp i hi
  have sz : (p.toList.map fun i => us.getD i .non).length ≤ sizeLine := by
    have := hp.size_eq
    simp at this
    rw [List.length_map, Array.length_toList, this, sizeLine_eq]; omega
  exact ⟨.ref _, _, I.laid (t' := s1.toks) (o := .lst (p.toList.map fun i => us.getD i .non)) k (Nat.le_refl _) ⟨sz, _, e, vals_getD r _ lt, hn⟩, rfl, q _ (I.hok.fresh (Nat.le_refl _))⟩
theorem collect_lst {pins : List (Addr × Obj)} {σ : St} {H : Hp} {s : Shared} {l : Addr} {us : List V} {A : Around} {E : Value → Shared → Prop} {R : List Value → Shared → Prop} (I : Inv X pins σ H s) (h : SqL X.K H l us) (q : ∀ vs s1, Vals us vs → Inv X pins σ H s1 → R vs s1) :
    wpAny (model X.prog X.w) A (collect (.ref l)) R E s := by
  obtain ⟨its, r, pl, hz⟩ := I.list h
  refine collect_list pl.isList (q its _ r (I.kept (t' := s.toks) fun b o e => ?_)) (by rw [← r.length]; exact hz)
  have hlt : b < s.heap.objs.size := Heap.lt_size e
  rw [Heap.get?_update_ne _ _ _ _ (Nat.ne_of_lt hlt)]
  exact Heap.get?_push_of_some _ e
theorem call_sortI : CallR X (.builtin "sorted") (fun xs H Q => ∃ l, xs = [.ref l] ∧ gSortI X.K l H Q) := by
  intro pins s σ H xs us Q I r h
  obtain ⟨l, rfl, ns, hl, h64, q⟩ := h
  obtain ⟨u, rfl, ru⟩ := vals1 r
  cases ru
  obtain ⟨its, rv, pl, hz⟩ := I.list hl
  have hlen := rv.length
  rw [List.length_map] at hlen
  refine sorted_ints pl.isList (intsAre_of rv) (by omega) fun out ns' a1 a2 a3 => ?_
  obtain ⟨e, he⟩ := sortedAll_at s.heap its out
  have hv : Vals (ns'.map V.int) out.toList := by
    have : ∀ {vs : List Value} {ns : List Int}, IntsAre vs ns → Vals (ns.map V.int) vs := by
      intro vs ns h
      induction h with
      | nil => exact .nil
      | cons n t h ih => exact .cons ⟨_, rfl⟩ ih
    exact this a1
  refine ⟨.ref _, _, I.laid (t' := s.toks) (o := .lst (ns'.map V.int)) (fun b o e => sortedAll_old e) (Nat.le_succ _) ⟨?_, out.toList, e, hv, by simpa using he⟩, rfl, q ns' a2 a3 _ (I.hok.fresh (Nat.le_succ _))⟩
  rw [List.length_map, a2.length_eq, sizeLine_eq]; omega
theorem call_sortK : CallR X (.builtin "sorted") (fun xs H Q => ∃ l, xs = [.ref l] ∧ gSortK X.K l H Q) := by
  intro pins s σ H xs us0 Q I r h
  obtain ⟨l, rfl, us, rows, pat, hl, R, h64, hp, q⟩ := h
  obtain ⟨u, rfl, ru⟩ := vals1 r
  cases ru
  refine sorted_via fun A' _ => collect_lst I hl fun vs s1 rv I1 => ?_
  have hlen := rv.length
  have hrl : rows.length = us.length := by have := Paired.length R; rw [List.length_map] at this; exact this.symm
  refine ⟨by omega, _, _, sortC_keys R I1 rv hp, fun p pp up h' k hn => sort_fin I1 rv h64 pp k hn fun pq hq => ?_⟩
  have lt : ∀ i ∈ p.toList, i < us.length := fun i hi => by rw [hlen]; exact lt_of_perm pp i hi
  have hsz : p.size = vs.length := by have := pp.size_eq; simpa using this
  refine q _ (p.toList.map fun i => rows.getD i []) ?_ (perm_getD us .non (by rw [hlen]; exact pp)) (perm_getD rows [] (by rw [hrl, hlen]; exact pp)) (up_pairwise (c := fun i j => lexK (rows.getD i []) (rows.getD j [])) hsz up fun i j h => h) pq hq
  have := rows_getD R p.toList lt
  rw [List.map_map]
  have e : (p.toList.map fun i => (rows.map fun r => r.map kV).getD i []) = p.toList.map ((fun r => r.map kV) ∘ fun i => rows.getD i []) := by
    apply List.map_congr_left
    intro i hi
    have hi' : i < rows.length := by rw [hrl]; exact lt i hi
    simp [hi']
  rw [← e]; exact this
theorem strict_of {α : Type} {f : α → Int} : ∀ {l : List α}, (l.map f).Nodup → l.Pairwise (fun a b => ¬ f b < f a) → l.Pairwise (fun a b => f a < f b)
  | [], _, _ => .nil
  | a :: l, hn, h => by
    rw [List.map_cons, List.nodup_cons] at hn
    rw [List.pairwise_cons] at h
    refine List.pairwise_cons.mpr ⟨fun b hb => ?_, strict_of hn.2 h.2⟩
    have h1 := h.1 b hb
    have h2 : f a ≠ f b := fun z => hn.1 (z ▸ List.mem_map_of_mem hb)
    omega
theorem call_sortF : CallR X (.builtin "sorted") (fun xs H Q => ∃ l, xs = [.ref l] ∧ gSortF X.K l H Q) := by
  intro pins s σ H xs us0 Q I r h
  obtain ⟨l, rfl, us, rows, hl, R, h64, hnd, q⟩ := h
  obtain ⟨u, rfl, ru⟩ := vals1 r
  cases ru
  refine sorted_via fun A' _ => collect_lst I hl fun vs s1 rv I1 => ?_
  have hlen := rv.length
  have hrl : rows.length = us.length := by have := Paired.length R; rw [List.length_map] at this; exact this.symm
  refine ⟨by omega, _, _, sortC_first R I1 rv hnd, fun p pp up h' k hn => sort_fin I1 rv h64 pp k hn fun pq hq => ?_⟩
  have lt : ∀ i ∈ p.toList, i < us.length := fun i hi => by rw [hlen]; exact lt_of_perm pp i hi
  have hsz : p.size = vs.length := by have := pp.size_eq; simpa using this
  have pr := perm_getD rows (0, []) (p := p) (by rw [hrl, hlen]; exact pp)
  refine q _ (p.toList.map fun i => rows.getD i (0, [])) ?_ (perm_getD us .non (by rw [hlen]; exact pp)) pr
    (strict_of ((pr.map (·.1)).nodup_iff.mpr hnd) (up_pairwise (c := fun i j => decide ((rows.getD i (0, [])).1 < (rows.getD j (0, [])).1)) hsz up fun i j h => of_decide_eq_false h)) pq hq
  have := rows_getD R p.toList lt
  rw [List.map_map]
  have e : (p.toList.map fun i => (rows.map fun r => V.int r.1 :: r.2).getD i []) = p.toList.map ((fun r : Int × List V => V.int r.1 :: r.2) ∘ fun i => rows.getD i (0, [])) := by
    apply List.map_congr_left
    intro i hi
    have hi' : i < rows.length := by rw [hrl]; exact lt i hi
    simp [hi']
  rw [← e]; exact this
end
end L2

set_option Elab.async false
set_option linter.all false
set_option maxRecDepth 100000
set_option maxHeartbeats 1000000
namespace L2
open PySem PySem.Spec PyProof.Rows _root_.Own
theorem look_zip {β : Type} : ∀ {as : List Addr} {xs : List β} {j : Nat} {a : Addr} {x : β}, as.Nodup → as[j]? = some a → xs[j]? = some x → (as.zip xs).lookup a = some x
  | [], _, _, _, _, _, h, _ => by simp at h
  | _ :: _, [], _, _, _, _, _, h => by simp at h
  | b :: as, y :: xs, 0, a, x, _, h1, h2 => by
    simp at h1 h2; subst h1; subst h2
    simp [List.zip_cons_cons, List.lookup_cons]
  | b :: as, y :: xs, j + 1, a, x, nd, h1, h2 => by
    obtain ⟨n1, n2⟩ := List.nodup_cons.mp nd
    have h1' : as[j]? = some a := by simpa using h1
    have ne : a ≠ b := fun z => n1 (z ▸ List.mem_of_getElem? h1')
    rw [List.zip_cons_cons, List.lookup_cons, show (a == b) = false from by simpa using ne]
    exact look_zip n2 h1' (by simpa using h2)
theorem mem_zipIx {α β : Type} : ∀ {as : List α} {xs : List β} {p : α × β}, p ∈ as.zip xs → ∃ j : Nat, as[j]? = some p.1 ∧ xs[j]? = some p.2
  | [], _, _, h => by simp at h
  | _ :: _, [], _, h => by simp at h
  | a :: as, x :: xs, p, h => by
    rw [List.zip_cons_cons] at h
    rcases List.mem_cons.mp h with rfl | h
    · exact ⟨0, rfl, rfl⟩
    · obtain ⟨j, h1, h2⟩ := mem_zipIx h
      exact ⟨j + 1, by simpa using h1, by simpa using h2⟩
theorem paired_of {α β : Type} {F : α → β → Prop} : ∀ {xs : List α} {ys : List β}, xs.length = ys.length → (∀ (j : Nat) x y, xs[j]? = some x → ys[j]? = some y → F x y) → Paired F xs ys
  | [], [], _, _ => .nil
  | [], _ :: _, h, _ => by simp at h
  | _ :: _, [], h, _ => by simp at h
  | x :: xs, y :: ys, h, k => .cons (k 0 x y rfl rfl) (paired_of (by simpa using h) fun j a b h1 h2 => k (j + 1) a b (by simpa using h1) (by simpa using h2))
theorem paired_get {α β : Type} {F : α → β → Prop} {xs : List α} {ys : List β} (p : Paired F xs ys) : ∀ {j : Nat} {x : α} {y : β}, xs[j]? = some x → ys[j]? = some y → F x y := by
  induction p with
  | nil => intro j x y h; simp at h
  | cons h t ih =>
    intro j x y h1 h2
    cases j with
    | zero => simp at h1 h2; subst h1; subst h2; exact h
    | succ j => exact ih (by simpa using h1) (by simpa using h2)
section
variable {X : Cx}
theorem call_sortD (hc : X.calm = true := by rfl) : CallR X (.builtin "sorted") (fun xs H Q => ∃ l, xs = [.ref l] ∧ gSortD l H Q) := by
  intro pins s σ H xs us0 Q I r h
  obtain ⟨l, rfl, d, ps, hl, hd, h64, q⟩ := h
  obtain ⟨u, rfl, ru⟩ := vals1 r
  cases ru
  obtain ⟨iv, _, _⟩ := (show ObjOk X.prog X.w H s.heap l (ItV l d) from I.hok l _ hl)
  obtain ⟨z, hm, vs0, rel, dd⟩ := dk_rd I.hok hd
  have hnd : (vs0.map (·.1)).Nodup := by obtain ⟨_, _, _, _, _, _, _, _, n⟩ := id dd; exact n
  obtain ⟨ep, da⟩ := dd.dictAt
  have hlv : ps.length = vs0.length := by have := rel.length; rw [List.length_map] at this; exact this
  have hn : (ps.map (·.1)).Nodup := by
    have e := rel.keys
    rw [List.map_map] at e
    rw [← e] at hnd
    have e2 : ps.map ((fun x => x.1) ∘ fun p : Int × V => ((Sum.inl p.1 : Key), p.2)) = (ps.map (·.1)).map Sum.inl := by rw [List.map_map]; rfl
    rw [e2] at hnd
    exact List.Pairwise.of_map _ (fun a b h z => h (congrArg _ z)) hnd
  refine sorted_via fun A' hA => PySem.W.kdx_collect (knd := mixKind X.prog X.w) (hA.trans (I.ok.hd hc)) iv da (by rw [← hlv, sizeLine_eq]; omega) fun h' tk as k hla G => ?_
  have ndA : as.Nodup := G.rise.imp fun h => Nat.ne_of_lt h
  have look : ∀ (j : Nat) (a : Addr) (p : Int × V), as[j]? = some a → ps[j]? = some p → ∃ t x, h'.get? a = some { cls := .type "tuple", data := .seq #[Value.int p.1 t, x] } ∧ RelV p.2 x := fun j a p h1 h2 => by
    obtain ⟨key, kk, x, e1, e2, e3⟩ := G.pairs j a h1
    have e4 := paired_get (show Paired _ _ _ from rel) (j := j) (x := (Sum.inl p.1, p.2)) (y := (kk, x)) (by rw [List.getElem?_map, h2]; rfl) e1
    obtain ⟨e5, e6⟩ := e4
    have e5 : (Sum.inl p.1 : Key) = kk := e5
    subst e5
    rcases keyIs_shape (show keyIs (Sum.inl p.1) key = true from e2) with ⟨i, t, e7, e8⟩ | ⟨y, t, e7, _⟩
    · cases e7; subst e8; exact ⟨t, x, e3, e6⟩
    · cases e7
  have hL : ∀ p ∈ as.zip (ps.map fun p => [V.int p.1, p.2]), s.heap.objs.size ≤ p.1 := fun p hp => by
    obtain ⟨j, h1, _⟩ := mem_zipIx hp
    exact Nat.le_of_lt (G.above _ (List.mem_of_getElem? h1))
  have I1 : Inv X pins σ (updAll H (as.zip (ps.map fun p => [V.int p.1, p.2]))) { s with heap := h', toks := tk } := I.laidAll k hL fun p hp => by
    obtain ⟨j, h1, h2⟩ := mem_zipIx hp
    rw [List.getElem?_map] at h2
    cases e : ps[j]? with
    | none => rw [e] at h2; cases h2
    | some pr =>
      rw [e] at h2
      have e2 : [V.int pr.1, pr.2] = p.2 := Option.some.inj h2
      obtain ⟨t, x, g1, g2⟩ := look j p.1 pr h1 e
      rw [← e2]
      exact ⟨by show 2 ≤ sizeLine; decide, [Value.int pr.1 t, x], .cons ⟨t, rfl⟩ (.cons g2 .nil), ⟨_, g1, rfl, _, rfl⟩⟩
  have rv : Vals (as.map V.ref) (as.map Value.ref) := paired_of (by simp) fun j x y h1 h2 => by
    rw [List.getElem?_map] at h1 h2
    cases e : as[j]? with
    | none => rw [e] at h1; cases h1
    | some a => rw [e] at h1 h2; cases h1; cases h2; rfl
  have R : Rows (updAll H (as.zip (ps.map fun p => [V.int p.1, p.2]))) (as.map V.ref) (ps.map fun p => [V.int p.1, p.2]) := paired_of (by simp [hla, hlv]) fun j x y h1 h2 => by
    rw [List.getElem?_map] at h1
    cases e : as[j]? with
    | none => rw [e] at h1; cases h1
    | some a =>
      rw [e] at h1; cases h1
      refine ⟨a, rfl, ?_⟩
      unfold updAll
      rw [look_zip ndA e h2]
  have R' : Rows (updAll H (as.zip (ps.map fun p => [V.int p.1, p.2]))) (as.map V.ref) ((ps.map fun p => (p.1, [p.2])).map fun r => V.int r.1 :: r.2) := by
    rw [List.map_map]; exact R
  have hnd' : ((ps.map fun p => (p.1, [p.2])).map (·.1)).Nodup := by rw [List.map_map]; exact hn
  refine ⟨by rw [List.length_map]; omega, _, _, sortC_first R' I1 rv hnd', fun p pp up h2 k2 hn2 => sort_fin I1 rv (by rw [List.length_map]; omega) pp k2 hn2 fun pq hq => ?_⟩
  have lt : ∀ i ∈ p.toList, i < (as.map V.ref).length := fun i hi => by have := lt_of_perm pp i hi; simpa using this
  have hsz : p.size = (as.map Value.ref).length := by have := pp.size_eq; simpa using this
  have ppl : p.Perm (List.range ps.length).toArray := by rw [hlv, ← hla]; simpa using pp
  have pr := perm_getD ps (0, .non) ppl
  refine q _ (p.toList.map fun i => ps.getD i (0, .non)) _ (updAll_same fun y hy => I.hok.fresh (hL y hy)) ?_ (fun u hu => ?_) pr
    (strict_of ((pr.map (·.1)).nodup_iff.mpr hn) (up_pairwise (c := fun i j => decide (((ps.map fun p => (p.1, [p.2])).getD i (0, [])).1 < ((ps.map fun p => (p.1, [p.2])).getD j (0, [])).1)) hsz up fun i j h => ?_)) pq hq
  · have := rows_getD R p.toList lt
    rw [List.map_map]
    have e : (p.toList.map fun i => (ps.map fun p => [V.int p.1, p.2]).getD i []) = p.toList.map ((fun p : Int × V => [V.int p.1, p.2]) ∘ fun i => ps.getD i (0, .non)) := by
      apply List.map_congr_left
      intro i hi
      have hi' : i < ps.length := by have := lt i hi; rw [List.length_map] at this; omega
      simp [hi']
    rw [← e]; exact this
  · obtain ⟨i, hi, rfl⟩ := List.mem_map.mp hu
    have hi' : i < as.length := by simpa using lt i hi
    refine ⟨as[i], by simp [hi'], I.hok.fresh (Nat.le_of_lt (G.above _ (List.getElem_mem hi')))⟩
  · have := of_decide_eq_false h
    have g : ∀ n, ((ps.map fun p => (p.1, [p.2])).getD n (0, [])).1 = (ps.getD n (0, .non)).1 := fun n => by
      by_cases hn : n < ps.length
      · simp [hn]
      · simp [hn]
    rw [g, g] at this
    exact this
/-- sorted(x), whatever x is -/
theorem call_sortedG (hc : X.calm = true := by rfl) : CallR X (.builtin "sorted") (fun xs H Q => ∃ l, xs = [.ref l] ∧ (gSortI X.K l H Q ∨ gSortK X.K l H Q ∨ gSortF X.K l H Q ∨ gSortD l H Q)) := by
  intro pins s σ H xs us Q I r h
  obtain ⟨l, e, h | h | h | h⟩ := h
  · exact call_sortI pins s σ H xs us Q I r ⟨l, e, h⟩
  · exact call_sortK pins s σ H xs us Q I r ⟨l, e, h⟩
  · exact call_sortF pins s σ H xs us Q I r ⟨l, e, h⟩
  · exact call_sortD hc pins s σ H xs us Q I r ⟨l, e, h⟩
end
end L2

set_option Elab.async false
set_option linter.all false
set_option maxRecDepth 100000
set_option maxHeartbeats 1000000
namespace L2
open PySem PySem.Spec PyProof.Rows
/-- == of two lists, two tuples; of scalars -/
inductive TEq (K : PySem.W.Frag) (H : Hp) : V → V → Bool → Prop where
  | scal {x y : V} (h : scal x y = true) : TEq K H x y (decide (x = y))
  | lst {a b : Addr} {xs ys : List V} {n : Nat} (e : Nat → Bool) (ha : SqL K H a xs) (hb : SqL K H b ys) (hl : xs.length = ys.length) (hn : n ≤ 8) (h : ∀ j x y, xs[j]? = some x → ys[j]? = some y → DEq K H n x y (e j)) : TEq K H (.ref a) (.ref b) ((List.range xs.length).all e)
  | lstN {a b : Addr} {xs ys : List V} (ha : SqL K H a xs) (hb : SqL K H b ys) (hl : xs.length ≠ ys.length) : TEq K H (.ref a) (.ref b) false
  | tup {a b : Addr} {xs ys : List V} {n : Nat} (e : Nat → Bool) (ha : SqT K H a xs) (hb : SqT K H b ys) (hn : n ≤ 8) (h : ∀ j x y, xs[j]? = some x → ys[j]? = some y → DEq K H n x y (e j)) : TEq K H (.ref a) (.ref b) ((List.range (min xs.length ys.length)).all e && xs.length == ys.length)
section
variable {X : Cx} {pins : List (Addr × Obj)} {σ : St} {H : Hp} {s : Shared}
theorem els_eqAt {n : Nat} {xs ys : List V} {its its2 : List Value} {e : Nat → Bool} {A : Around} (I : Inv X pins σ H s) (r1 : Vals xs its) (r2 : Vals ys its2) (hu : A.units + n < cLine) (h : ∀ j x y, xs[j]? = some x → ys[j]? = some y → DEq X.K H n x y (e j)) :
    ∀ j (h1 : j < its.toArray.size) (h2 : j < its2.toArray.size), SeqAt.EqAt A s its.toArray[j] its2.toArray[j] (e j) := fun j h1 h2 => by
  have e1 := r1.length
  have e2 := r2.length
  have g1 : its[j]? = some its[j] := by simp at h1; simp [h1]
  have g2 : its2[j]? = some its2[j] := by simp at h2; simp [h2]
  simp at h1 h2
  obtain ⟨u', hu', ru'⟩ := r1.get (List.getElem?_eq_getElem (show j < xs.length from by rw [e1]; exact h1))
  obtain ⟨v', hv', rv'⟩ := r2.get (List.getElem?_eq_getElem (show j < ys.length from by rw [e2]; exact h2))
  rw [g1] at hu'; cases hu'
  rw [g2] at hv'; cases hv'
  exact (h j _ _ (List.getElem?_eq_getElem _) (List.getElem?_eq_getElem _)).eqAt I ru' rv' hu
def gEq (K : PySem.W.Frag) : R2 := fun x y H Q => ∃ b, TEq K H x y b ∧ Q (.bl b) H
def gNe (K : PySem.W.Frag) : R2 := fun x y H Q => ∃ b, TEq K H x y b ∧ Q (.bl (!b)) H
theorem op_eqG {k : Nat} (hr : Room k X.A) : OpR X (compareOp .Eq) (gEq X.K) := by
  intro pins s σ H x y v u Q I rx ry h
  obtain ⟨b, t, q⟩ := h
  have hu := hr.units
  cases t with
  | scal h => exact op_eq pins s σ H x y v u Q I rx ry ⟨h, q⟩
  | lst e ha hb hl hn h =>
    cases rx; cases ry
    obtain ⟨its, r1, p1, _⟩ := I.list ha
    obtain ⟨its2, r2, p2, _⟩ := I.list hb
    have e1 := r1.length
    have e2 := r2.length
    refine SeqAt.eq_listAt (e := e) p1.isList p2.isList (by simp; omega) (by omega) (els_eqAt I r1 r2 (by show X.A.units + 1 + _ < _; omega) h) (fin_bl I q ?_)
    rw [e1]; simp
  | lstN ha hb hl =>
    cases rx; cases ry
    obtain ⟨its, r1, p1, _⟩ := I.list ha
    obtain ⟨its2, r2, p2, _⟩ := I.list hb
    have e1 := r1.length
    have e2 := r2.length
    exact SeqAt.eq_list_lengthsAt p1.isList p2.isList (by simp; omega) (by omega) (fin_bl I q rfl)
  | tup e ha hb hn h =>
    cases rx; cases ry
    obtain ⟨its, r1, p1, _⟩ := I.tuple ha
    obtain ⟨its2, r2, p2, _⟩ := I.tuple hb
    have e1 := r1.length
    have e2 := r2.length
    refine SeqAt.eq_tupleAt (e := e) p1 p2 (by omega) (els_eqAt I r1 r2 (by show X.A.units + 1 + _ < _; omega) h) (fin_bl I q ?_)
    rw [e1, e2]; simp
theorem op_neG {k : Nat} (hr : Room k X.A) : OpR X (compareOp .NotEq) (gNe X.K) := by
  intro pins s σ H x y v u Q I rx ry h
  obtain ⟨b, t, q⟩ := h
  have hu := hr.units
  cases t with
  | scal h => exact op_ne pins s σ H x y v u Q I rx ry ⟨h, q⟩
  | lst e ha hb hl hn h =>
    cases rx; cases ry
    obtain ⟨its, r1, p1, _⟩ := I.list ha
    obtain ⟨its2, r2, p2, _⟩ := I.list hb
    have e1 := r1.length
    have e2 := r2.length
    refine PySem.EqBoolInt.of_rcne (SeqAt.RcNeAt.lists (e := e) p1.isList p2.isList (by simp; omega) (by omega) (els_eqAt I r1 r2 (by show X.A.units + 1 + _ < _; omega) h)) (fin_bl I q ?_)
    rw [e1]; simp
  | lstN ha hb hl =>
    cases rx; cases ry
    obtain ⟨its, r1, p1, _⟩ := I.list ha
    obtain ⟨its2, r2, p2, _⟩ := I.list hb
    have e1 := r1.length
    have e2 := r2.length
    exact PySem.EqBoolInt.of_rcne (SeqAt.RcNeAt.lists_lengths p1.isList p2.isList (by simp; omega) (by omega)) (fin_bl I q rfl)
  | tup e ha hb hn h =>
    cases rx; cases ry
    obtain ⟨its, r1, p1, _⟩ := I.tuple ha
    obtain ⟨its2, r2, p2, _⟩ := I.tuple hb
    have e1 := r1.length
    have e2 := r2.length
    refine PySem.EqBoolInt.of_rcne (SeqAt.RcNeAt.tuples (e := e) p1 p2 (by omega) (els_eqAt I r1 r2 (by show X.A.units + 1 + _ < _; omega) h)) (fin_bl I q ?_)
    rw [e1, e2]; simp
/-! ### in, not in -/
/-- what x in y says -/
inductive InV (K : PySem.W.Frag) (H : Hp) : V → V → Bool → Prop where
  | dct {a : Addr} {y : V} {o : Option V} (g : DGet H a y o) : InV K H y (.ref a) o.isSome
  | lst {x : V} {a : Addr} {xs : List V} {n : Nat} (e : V → Bool) (ha : SqL K H a xs) (hn : n ≤ 8) (h : ∀ y ∈ xs, DEq K H n y x (e y)) : InV K H x (.ref a) (xs.any e)
  | tup {x : V} {a : Addr} {xs : List V} {n : Nat} (e : V → Bool) (ha : SqT K H a xs) (hn : n ≤ 8) (h : ∀ y ∈ xs, DEq K H n y x (e y)) : InV K H x (.ref a) (xs.any e)
theorem any_abs {xs : List V} {us : List Value} (e : V → Bool) (r : Vals xs us) : us.any (fun u => (absV u).any e) = xs.any e := by
  unfold Vals at r
  induction r with
  | nil => rfl
  | cons h t ih => rw [List.any_cons, List.any_cons, ih, h.abs]; rfl
theorem mem_rel {xs : List V} {us : List Value} (r : Vals xs us) : ∀ u ∈ us, ∃ x ∈ xs, RelV x u := by
  unfold Vals at r
  induction r with
  | nil => intro u hu; exact nomatch hu
  | cons h t ih =>
    intro u hu
    rcases List.mem_cons.mp hu with z | z
    · subst z; exact ⟨_, List.mem_cons_self, h⟩
    · obtain ⟨x, hx, rx⟩ := ih u z
      exact ⟨x, List.mem_cons_of_mem _ hx, rx⟩
theorem op_inG {k : Nat} (hr : Room k X.A) : OpR X (compareOp .In) (fun x y H Q => ∃ b, InV X.K H x y b ∧ Q (.bl b) H) := by
  intro pins s σ H x y v u Q I rx ry h
  obtain ⟨b, t, q⟩ := h
  have hu := hr.units
  cases t with
  | @dct a _ o g =>
    cases (show u = Value.ref a from ry)
    exact d_in (by omega) I g rx fun s3 I3 => ⟨.bl o.isSome, H, I3, rfl, q⟩
  | lst e ha hn h =>
    cases ry
    obtain ⟨its, r, pl, hz⟩ := I.list ha
    refine SeqAt.in_listAt (fun u => (absV u).any e) pl.isList (fun w hw => ?_) (fin_bl I q ?_)
    · obtain ⟨z, hz', rz⟩ := mem_rel r w (by simpa using hw)
      rw [rz.abs]
      exact (h z hz').eqAt I rz rx (by show X.A.units + 1 + _ < _; omega)
    · rw [show its.toArray.any (fun u => (absV u).any e) = its.any (fun u => (absV u).any e) by simp, any_abs e r]
  | tup e ha hn h =>
    cases ry
    obtain ⟨its, r, pl, hz⟩ := I.tuple ha
    refine SeqAt.in_tupleAt (fun u => (absV u).any e) pl (fun w hw => ?_) (fin_bl I q ?_)
    · obtain ⟨z, hz', rz⟩ := mem_rel r w (by simpa using hw)
      rw [rz.abs]
      exact (h z hz').eqAt I rz rx (by show X.A.units + 1 + _ < _; omega)
    · rw [show its.toArray.any (fun u => (absV u).any e) = its.any (fun u => (absV u).any e) by simp, any_abs e r]
theorem op_notInG {k : Nat} (hr : Room k X.A) : OpR X (compareOp .NotIn) (fun x y H Q => ∃ b, InV X.K H x y b ∧ Q (.bl (!b)) H) := by
  intro pins s σ H x y v u Q I rx ry h
  obtain ⟨b, t, q⟩ := h
  have hu := hr.units
  cases t with
  | @dct a _ o g =>
    cases (show u = Value.ref a from ry)
    exact d_notIn (by omega) I g rx fun s3 I3 => ⟨.bl (!o.isSome), H, I3, rfl, q⟩
  | lst e ha hn h =>
    cases ry
    obtain ⟨its, r, pl, hz⟩ := I.list ha
    refine SeqAt.notIn_listAt (fun u => (absV u).any e) pl.isList (fun w hw => ?_) (fin_bl I q ?_)
    · obtain ⟨z, hz', rz⟩ := mem_rel r w (by simpa using hw)
      rw [rz.abs]
      exact (h z hz').eqAt I rz rx (by show X.A.units + 1 + _ < _; omega)
    · rw [show its.toArray.any (fun u => (absV u).any e) = its.any (fun u => (absV u).any e) by simp, any_abs e r]
  | tup e ha hn h =>
    cases ry
    obtain ⟨its, r, pl, hz⟩ := I.tuple ha
    refine SeqAt.notIn_tupleAt (fun u => (absV u).any e) pl (fun w hw => ?_) (fin_bl I q ?_)
    · obtain ⟨z, hz', rz⟩ := mem_rel r w (by simpa using hw)
      rw [rz.abs]
      exact (h z hz').eqAt I rz rx (by show X.A.units + 1 + _ < _; omega)
    · rw [show its.toArray.any (fun u => (absV u).any e) = its.any (fun u => (absV u).any e) by simp, any_abs e r]
end
end L2

set_option Elab.async false
set_option linter.all false
set_option maxRecDepth 100000
set_option maxHeartbeats 1000000
namespace L2
open PySem PySem.Spec PyProof.Rows
/-! ### what a value is, all the way down -/
inductive Dat where
  | non | bl (b : Bool) | int (i : Int) | str (x : Str) | tup (ds : List Dat) | lst (ds : List Dat) | dct (ps : List (Int × Dat))
/-- to a depth; a dict counts three -/
inductive Deep (H : Hp) : Nat → V → Dat → Prop where
  | non {n : Nat} : Deep H n .non .non
  | bl {n : Nat} {b : Bool} : Deep H n (.bl b) (.bl b)
  | int {n : Nat} {i : Int} : Deep H n (.int i) (.int i)
  | str {n : Nat} {x : Str} : Deep H n (.str x) (.str x)
  | tup {n : Nat} {a : Addr} {xs : List V} {ds : List Dat} (h : H a = some (.tup xs)) (hz : xs.length ≤ sizeLine) (hl : xs.length = ds.length) (k : ∀ (j : Nat) x d, xs[j]? = some x → ds[j]? = some d → Deep H n x d) : Deep H (n + 1) (.ref a) (.tup ds)
  | lst {n : Nat} {a : Addr} {xs : List V} {ds : List Dat} (h : H a = some (.lst xs)) (hz : xs.length ≤ sizeLine) (hl : xs.length = ds.length) (k : ∀ (j : Nat) x d, xs[j]? = some x → ds[j]? = some d → Deep H n x d) : Deep H (n + 1) (.ref a) (.lst ds)
  | dct {n : Nat} {a : Addr} {ps qs : List (Int × V)} {ds : List (Int × Dat)} (h : H a = some (.dK (ps.map fun p => (Sum.inl p.1, p.2)))) (hz : ps.length < 64) (hp : qs.Perm ps) (hs : qs.Pairwise (fun a b => a.1 < b.1)) (hl : qs.length = ds.length)
      (ke : ∀ (j : Nat) q d, qs[j]? = some q → ds[j]? = some d → q.1 = d.1) (k : ∀ (j : Nat) q d, qs[j]? = some q → ds[j]? = some d → Deep H n q.2 d.2) : Deep H (n + 3) (.ref a) (.dct ds)
theorem Deep.mono {H H' : Hp} {n : Nat} {x : V} {d : Dat} (h : Deep H n x d) (s : Same H H') : Deep H' n x d := by
  induction h with
  | non => exact .non
  | bl => exact .bl
  | int => exact .int
  | str => exact .str
  | tup h hz hl k ih => exact .tup (s _ _ h) hz hl ih
  | lst h hz hl k ih => exact .lst (s _ _ h) hz hl ih
  | dct h hz hp hs hl ke k ih => exact .dct (s _ _ h) hz hp hs hl ke ih
theorem Deep.up {H : Hp} {n : Nat} {x : V} {d : Dat} (h : Deep H n x d) : Deep H (n + 1) x d := by
  induction h with
  | non => exact .non
  | bl => exact .bl
  | int => exact .int
  | str => exact .str
  | tup h hz hl k ih => exact .tup h hz hl ih
  | lst h hz hl k ih => exact .lst h hz hl ih
  | dct h hz hp hs hl ke k ih => exact .dct h hz hp hs hl ke ih
/-- two lists in strict order, of the same things, are one -/
theorem sorted_one {α : Type} {f : α → Int} : ∀ {xs ys : List α}, xs.Perm ys → xs.Pairwise (fun a b => f a < f b) → ys.Pairwise (fun a b => f a < f b) → xs = ys
  | [], ys, p, _, _ => by have := p.length_eq; cases ys with | nil => rfl | cons _ _ => simp at this
  | x :: xs, [], p, _, _ => by have := p.length_eq; simp at this
  | x :: xs, y :: ys, p, h1, h2 => by
    have hx : x ∈ y :: ys := p.mem_iff.mp List.mem_cons_self
    have hy : y ∈ x :: xs := p.mem_iff.mpr List.mem_cons_self
    rw [List.pairwise_cons] at h1 h2
    have e : x = y := by
      rcases List.mem_cons.mp hx with z | z
      · exact z
      · rcases List.mem_cons.mp hy with w | w
        · exact w.symm
        · have a := h1.1 y w
          have b := h2.1 x z
          omega
    subst e
    rw [sorted_one ((List.perm_cons x).mp p) h1.2 h2.2]
def spSo : Nat → Sp
  | 0 => fun _ _ _ _ => False
  | n + 1 => fun vs H Q _ => ∃ x y d, vs = [x, y] ∧ Deep H n x d ∧ Deep H n y d ∧ ∀ H', Same H H' → Q (.bl true) H'
end L2
namespace L2
open PySem PySem.Spec PyProof.Rows
/-- the sorted pairs of a dict, as a list of tuples -/
theorem deep_items {H : Hp} {m : Nat} {us : List V} {qs : List (Int × V)} {ds : List (Int × Dat)} {p : Addr} (hp : H p = none) (R : _root_.Own.Rows H us (qs.map fun p => [V.int p.1, p.2])) (hl : qs.length = ds.length) (hz : qs.length < 64)
    (ke : ∀ (j : Nat) q d, qs[j]? = some q → ds[j]? = some d → q.1 = d.1) (k : ∀ (j : Nat) q d, qs[j]? = some q → ds[j]? = some d → Deep H m q.2 d.2) :
    Deep (upd H p (.lst us)) (m + 2) (.ref p) (.lst (ds.map fun d => .tup [.int d.1, d.2])) := by
  have hu : us.length = qs.length := by have := Paired.length R; rw [List.length_map] at this; exact this
  refine .lst upd_same (by rw [hu, sizeLine_eq]; omega) (by rw [List.length_map, hu, hl]) fun j x d h1 h2 => ?_
  have hj : j < us.length := (List.getElem?_eq_some_iff.mp h1).1
  have g1 : qs[j]? = some qs[j] := List.getElem?_eq_getElem (by omega)
  have g2 : ds[j]? = some ds[j] := List.getElem?_eq_getElem (by omega)
  rw [List.getElem?_map, g2] at h2
  cases h2
  obtain ⟨a, rfl, ha⟩ := paired_get (show Paired _ _ _ from R) h1 (by rw [List.getElem?_map, g1]; rfl)
  have sm := same_upd (o := .lst us) hp
  refine .tup (sm _ _ ha) (by show 2 ≤ sizeLine; decide) rfl fun i y e h3 h4 => ?_
  match i, h3, h4 with
  | 0, h3, h4 =>
    cases h3; cases h4
    rw [ke j _ _ g1 g2]
    exact .int
  | 1, h3, h4 =>
    cases h3; cases h4
    exact (k j _ _ g1 g2).mono sm
  | n + 2, h3, _ => simp at h3
end L2

set_option Elab.async false
set_option linter.all false
set_option maxRecDepth 100000
set_option maxHeartbeats 1000000
namespace L2
open PySem PySem.Spec PyProof.Rows
/-! ### methods of a class of the text -/
structure MethAt (K : PySem.W.Frag) (C : Addr) (m qual : Str) (st : Stmt) (ps : List Str) : Prop where
  ex : ∃ f fd, Fun K m qual st f fd ∧ Meth K C m f ∧ ∀ us : List Value, us.length = ps.length → bindArgs fd ⟨us, []⟩ = pure (ps.zip us)
structure OwnM (P : Program) (w : World) (K : PySem.W.Frag) (mg : Str → Option Value) (base : Heap) (C : Addr) (m : Str) (k : Nat) (ps : List Str) (sp : Sp) : Prop where
  ex : ∃ f fd, FnOk P w K mg base CX0 k f fd ps sp ∧ Meth K C m f ∧ ∀ us : List Value, us.length = ps.length → bindArgs fd ⟨us, []⟩ = pure (ps.zip us)
section
variable {P : Program} {w : World} {K : PySem.W.Frag} {mg : Str → Option Value} {base : Heap} {C : Addr}
theorem MethAt.own {x qual : Str} {st : Stmt} {N ps : List Str} {k : Nat} {sp : Sp} (D : MethAt K C x qual st ps) (S : FnScope N ps (defScope st)) (len : ∀ vs H Q E, sp vs H Q E → vs.length = ps.length)
    (hbody : ∀ (f : Addr) (cdv : Value) (A : Around) (outer : List Env) (s : Shared) (H : Hp) (vs : List V) (Q : VK) (E : XK), Room k (A.deeper (envOfC qual (defScope st) s.heap.objs.size f cdv)) → sp vs H Q E →
      ∃ t, PSs (cxOf CX0 P w K mg base N qual (defScope st) f cdv A outer s H E).nox (defBody st) t ∧ t { nx := fun _ H' => Q .non H', rt := Q } (start N vs) H) : OwnM P w K mg base C x (k + 1) ps sp := by
  obtain ⟨f, fd, F, hm, hb⟩ := D.ex
  exact ⟨f, fd, F.ok S len (hbody f), hm, hb⟩
end
def tOwnM (C : Addr) (m : Str) (sp : Sp) (ta : TE) (t : TA) : TE := fun σ H Q => ta σ H fun x H1 => ∃ a dx fs, x = .ref a ∧ H1 a = some (.ins C dx fs) ∧ fs.lookup m = none ∧ t σ H1 fun vs H2 => sp (x :: vs) H2 Q E0
def tOwnC (C : Addr) (sp : Sp) (t : TA) : TE := fun σ H Q => t σ H fun vs H1 => ∀ x dx, H1 x = none → H1 dx = none → dx ≠ x →
  sp (.ref x :: vs) (upd (upd H1 dx (.own x)) x (.ins C dx [])) (fun v H2 => v = .non ∧ Q (.ref x) H2) E0
section
variable {X : Cx}
end
/-! ### a dict's pairs by data -/
section
variable {β : Type}
/-- in its place, or at the end -/
def putG (l : List (Int × β)) (k : Int) (v : β) : List (Int × β) := if (l.any fun p => decide (p.1 = k)) = true then l.map (fun p => if p.1 = k then (p.1, v) else p) else l ++ [(k, v)]
theorem putG_keys (l : List (Int × β)) (k : Int) (v : β) : (putG l k v).map (·.1) = if k ∈ l.map (·.1) then l.map (·.1) else l.map (·.1) ++ [k] := by
  unfold putG
  by_cases h : (l.any fun p => decide (p.1 = k)) = true
  · rw [if_pos h, if_pos (by
      obtain ⟨p, hp, e⟩ := List.any_eq_true.mp h
      exact List.mem_map.mpr ⟨p, hp, of_decide_eq_true e⟩), List.map_map]
    apply List.map_congr_left
    intro p _
    show (if p.1 = k then (p.1, v) else p).1 = p.1
    split <;> rfl
  · rw [if_neg h, if_neg (fun z => h (by
      obtain ⟨p, hp, e⟩ := List.mem_map.mp z
      exact List.any_eq_true.mpr ⟨p, hp, decide_eq_true e⟩)), List.map_append]
    rfl
theorem putG_nd {l : List (Int × β)} (k : Int) (v : β) (h : (l.map (·.1)).Nodup) : ((putG l k v).map (·.1)).Nodup := by
  rw [putG_keys]
  split
  · exact h
  · exact nd_snoc h ‹_›
/-- a dict with int keys, its values by data -/
def DAt (F : V → β → Prop) (kvs : List (Key × V)) (l : List (Int × β)) : Prop := Paired (fun (p : Key × V) (q : Int × β) => p.1 = Sum.inl q.1 ∧ F p.2 q.2) kvs l
theorem DAt.put {F : V → β → Prop} {kvs : List (Key × V)} {l : List (Int × β)} (d : DAt F kvs l) (k : Int) {v : V} {y : β} (h : F v y) : DAt F (putK kvs (Sum.inl k) v) (putG l k y) := by
  have an : (kvs.any fun kv => decide (kv.1 = Sum.inl k)) = l.any fun p => decide (p.1 = k) := by
    unfold DAt at d
    induction d with
    | nil => rfl
    | @cons p q ps qs e t ih =>
      rw [List.any_cons, List.any_cons, ih, e.1]
      congr 1
      exact decide_eq_decide.mpr ⟨fun z => Sum.inl.inj z, fun z => congrArg _ z⟩
  unfold putK putG
  rw [an]
  split
  · have : ∀ {kvs : List (Key × V)} {l : List (Int × β)}, DAt F kvs l → DAt F (kvs.map fun kv => if kv.1 = Sum.inl k then (kv.1, v) else kv) (l.map fun p => if p.1 = k then (p.1, y) else p) := by
      intro kvs l d
      unfold DAt at d ⊢
      induction d with
      | nil => exact .nil
      | @cons p q ps qs e t ih =>
        refine .cons ?_ ih
        dsimp only
        by_cases z : q.1 = k
        · rw [if_pos (show p.1 = Sum.inl k by rw [e.1, z]), if_pos z]; exact ⟨e.1, h⟩
        · rw [if_neg (show ¬ p.1 = Sum.inl k by rw [e.1]; exact fun w => z (Sum.inl.inj w)), if_neg z]; exact e
    exact this d
  · exact Paired.snoc d ⟨rfl, h⟩
theorem DAt.len {F : V → β → Prop} {kvs : List (Key × V)} {l : List (Int × β)} (d : DAt F kvs l) : kvs.length = l.length := Paired.length d
theorem DAt.imp {F G : V → β → Prop} {kvs : List (Key × V)} {l : List (Int × β)} (d : DAt F kvs l) (h : ∀ v y, F v y → G v y) : DAt G kvs l := Paired.mapP d fun _ _ z => ⟨z.1, h _ _ z.2⟩
end
end L2

set_option Elab.async false
set_option linter.all false
set_option maxRecDepth 100000
set_option maxHeartbeats 1000000
namespace L2
open PySem PySem.Spec PyProof.Rows
def capsB (outer names : List (Str × NameKind)) (N : List Str) (fr : List Nat) : Bool :=
  (fr.all fun j => match N[j]? with | some x => (outer.lookup x == some .cell || outer.lookup x == some .free) && names.lookup x == some .free | none => false) &&
  names.all fun p => p.2 != .free || (outer.lookup p.1 == some .cell || outer.lookup p.1 == some .free)
theorem caps_of {X : Cx} {scope : Scope} {fr : List Nat} (h : capsB X.env.scope.names scope.names X.N fr = true) : Caps X scope fr := by
  unfold capsB at h
  rw [Bool.and_eq_true] at h
  obtain ⟨h1, h2⟩ := h
  refine ⟨fun j hj => ?_, fun x hx => ?_⟩
  · have := List.all_eq_true.mp h1 j hj
    cases e : X.N[j]? with
    | none => rw [e] at this; cases this
    | some x =>
      rw [e] at this
      simp only [Bool.and_eq_true, Bool.or_eq_true, beq_iff_eq] at this
      exact ⟨x, rfl, this.1, this.2⟩
  · have := List.all_eq_true.mp h2 (x, .free) hx
    simpa using this
def cscB (scope : Scope) : Bool := scope.kind == .function && (scope.names.all fun p => p.2 != .cell) && scope.names.all fun p => p.2 != .local || scope.names.lookup p.1 == some .local
theorem csc_of {scope : Scope} (h : cscB scope = true) : CScope scope := by
  unfold cscB at h
  simp only [Bool.and_eq_true, beq_iff_eq, List.all_eq_true] at h
  obtain ⟨⟨h1, h2⟩, h3⟩ := h
  refine ⟨h1, fun x hx => ?_, fun x hx e => ?_⟩
  · have := h2 x hx; simpa using this
  · have := h3 x hx
    simp only [Bool.or_eq_true, beq_iff_eq, bne_iff_ne] at this
    rcases this with z | z
    · exact absurd e z
    · exact z
def ndB : List Str → Bool
  | [] => true
  | x :: r => !r.contains x && ndB r
theorem nd_of : ∀ {l : List Str}, ndB l = true → l.Nodup
  | [], _ => .nil
  | x :: r, h => by
    unfold ndB at h
    rw [Bool.and_eq_true] at h
    refine List.nodup_cons.mpr ⟨fun z => ?_, nd_of h.2⟩
    have := h.1
    simp [z] at this
theorem block_mk {X : Cx} {scope : Scope} {tgs : List Str} {fr : List Nat} {tg elt : Expr} {ifs : List Expr} {g : TG} {tt : TTo} {te : TE} (tgt : ∀ C s₀ H₀ fp, PG (cxComp X scope C (nmC X tgs fr) s₀ H₀ fp) tg g)
    (ift : ∀ C s₀ H₀ fp, PIfs (cxComp X scope C (nmC X tgs fr) s₀ H₀ fp) ifs tt) (el : ∀ C s₀ H₀ fp, PE (cxComp X scope C (nmC X tgs fr) s₀ H₀ fp) elt te)
    (h1 : cscB scope = true := by rfl) (h2 : capsB X.env.scope.names scope.names X.N fr = true := by rfl) (hc : X.calm = true := by rfl) : Block X scope tgs fr tg elt ifs g tt te :=
  ⟨csc_of h1, caps_of h2, hc, tgt, ift, el⟩
theorem pg_nameC {X : Cx} (i : Nat) {x : Str} {pos : Pos} (hN : ndB X.N = true := by rfl) (hi : X.N[i]? = some x := by rfl) (hx : Loc X.env.scope x := by first | exact Or.inl rfl | exact Or.inr rfl)
    (hf : X.fn x = true ∨ X.env.scope.names.lookup x = some .local := by first | exact .inr rfl | exact .inl rfl | assumption) : PG X (.Name x pos) (gName i) := pg_name (nd_of hN) hi hx hf
end L2
namespace L2
open PySem PySem.Spec PyProof.Rows
/-! ### the forms one uses -/
def NextW (n i : Nat) (Pv : Nat → List V → Hp → Prop) (ys : List V) (H : Hp) : Prop := ∃ m', m' < n - i ∧ m' = n - (i + 1) ∧ i + 1 ≤ n ∧ Pv (i + 1) ys H
theorem nextW {n i : Nat} {Pv : Nat → List V → Hp → Prop} {ys : List V} {H : Hp} (hi : i < n) (p : Pv (i + 1) ys H) : NextW n i Pv ys H := ⟨n - (i + 1), by omega, rfl, hi, p⟩
/-- over a list that the block leaves as it is -/
theorem comp_list {K : PySem.W.Frag} {a D : Addr} {xs : List V} {k : Nat} {fr : List Nat} {g : TG} {tt : TTo} {te : TE} {σ : St} {H : Hp} {R : Hp → Prop} (Pv : Nat → List V → Hp → Prop) (h0 : Pv 0 [] (upd H D (.lst []))) (hl : ∀ i ys H, i ≤ xs.length → Pv i ys H → SqL K H a xs)
    (hs : ∀ i x ys H, xs[i]? = some x → i < xs.length → Pv i ys H → g x (stC k fr σ) H fun σ2 H2 => Wk (stC k fr σ) σ2 ∧ tIfs tt σ2 H2 fun c H3 =>
      if c = true then te σ2 H3 fun v H4 => H4 D = some (.lst ys) ∧ ys.length < sizeLine ∧ NextW xs.length i Pv (ys ++ [v]) (upd H4 D (.lst (ys ++ [v]))) else NextW xs.length i Pv ys H3)
    (hd : ∀ ys H, Pv xs.length ys H → R H) :
    ∃ W : Nat → Nat → List V → Hp → Prop, (∃ m, W 0 m [] (upd H D (.lst []))) ∧ ∀ i m ys H, W i m ys H → ((Itl K a).stop i H ∧ R H) ∨ ((Itl K a).go i H ∧ ∀ x H', (Itl K a).yld i H x H' → g x (stC k fr σ) H' fun σ2 H2 => Wk (stC k fr σ) σ2 ∧ tIfs tt σ2 H2 fun c H3 =>
      if c = true then te σ2 H3 fun v H4 => H4 D = some (.lst ys) ∧ ys.length < sizeLine ∧ ∃ m', m' < m ∧ W (i + 1) m' (ys ++ [v]) (upd H4 D (.lst (ys ++ [v]))) else ∃ m', m' < m ∧ W (i + 1) m' ys H3) := by
  refine ⟨fun i m ys H => m = xs.length - i ∧ i ≤ xs.length ∧ Pv i ys H, ⟨xs.length, by simp, Nat.zero_le _, h0⟩, ?_⟩
  rintro i m ys H ⟨rfl, hi, p⟩
  have q := hl i ys H hi p
  by_cases hlt : i < xs.length
  · refine .inr ⟨⟨xs, xs[i], q, by simp [hlt]⟩, fun x H' y => ?_⟩
    obtain ⟨e, y⟩ := y
    subst e
    exact hs i x ys _ (y xs q) hlt p
  · have e : i = xs.length := by omega
    subst e
    exact .inl ⟨⟨xs, q, Nat.le_refl _⟩, hd ys H p⟩
end L2

set_option Elab.async false
set_option linter.all false
set_option maxRecDepth 100000
set_option maxHeartbeats 1000000
namespace L2
open PySem PySem.Spec PyProof.Rows
section
variable {X : Cx} {pins : List (Addr × Obj)} {σ : St} {H : Hp} {s : Shared}
/-- a thing of ours, laid earlier, is tracked now -/
theorem Inv.track {t : Addr} {o : HO} (I : Inv X pins σ H s) (h0 : X.s₀.heap.objs.size ≤ t) (hL : t ≠ X.env.locals) (hc : ∀ x c, X.env.cells.lookup x = some c → c ≠ t) (hp : ∀ p ∈ X.pn ++ pins, p.1 ≠ t) (hn : H t = none) (new : ObjOk X.prog X.w (upd H t o) s.heap t o) : Inv X pins σ (upd H t o) s := by
  have ne : ∀ b u, H b = some u → b ≠ t := fun b u e z => by rw [z, hn] at e; cases e
  refine ⟨I.ok, I.os, I.bare, ⟨I.base.keep, I.base.slot, fun b o e n hx => ?_, I.base.there, fun b xs e => ?_, fun b o v e => ?_, fun b ps e => ?_⟩, I.loc, I.cell, ?_, fun x c e => ?_, fun p hp' => ?_, fun a v e => ?_, I.len⟩
  · rw [upd_ne (fun z => absurd (Heap.lt_size e) (Nat.not_lt.mpr (by rw [z]; exact h0)))]; exact I.base.free b o e n hx
  · have := I.base.tups b xs e
    rw [upd_ne (ne _ _ this)]; exact this
  · have := I.base.frzs b o v e
    rw [upd_ne (ne _ _ this)]; exact this
  · obtain ⟨more, this⟩ := I.base.tbls b ps e
    exact ⟨more, by rw [upd_ne (ne _ _ this)]; exact this⟩
  · rw [upd_ne (Ne.symm hL)]; exact I.free
  · rw [upd_ne (hc x c e)]; exact I.freeC x c e
  · obtain ⟨h1, h2, h3⟩ := I.pin p hp'
    exact ⟨h1, by rw [upd_ne (hp p hp')]; exact h2, h3⟩
  · by_cases z : a = t
    · subst z; rw [upd_same] at e; cases e; exact new
    · rw [upd_ne z] at e
      exact (I.hok a v e).stay (fun _ _ _ q => q) (fun b q => by rw [upd_ne (ne _ _ q)]; exact q) fun b xs q => by rw [upd_ne (ne _ _ q)]; exact q
/-! ### a dict that is known to the object while a statement goes -/
def thawE (D : Ends) (d : Addr) (o : Obj) (kvs : List (Key × V)) : Ends where
  nx := fun σ H => H d = some (.frz o (.dK kvs)) ∧ D.nx σ (upd H d (.dK kvs))
  rt := fun v H => H d = some (.frz o (.dK kvs)) ∧ D.rt v (upd H d (.dK kvs))
  bk := fun σ H => H d = some (.frz o (.dK kvs)) ∧ D.bk σ (upd H d (.dK kvs))
  ct := fun σ H => H d = some (.frz o (.dK kvs)) ∧ D.ct σ (upd H d (.dK kvs))
def tFrz (t : TS) : TS := fun D σ H => ∃ d kvs, H d = some (.dK kvs) ∧ ∀ o, t (thawE D d o kvs) σ (upd H d (.frz o (.dK kvs)))
/-! ### for k, v in d.items() -/
def Itm (d : Addr) (o : Obj) (kvs : List (Key × V)) : It :=
  ⟨fun i H => H d = some (.frz o (.dK kvs)) ∧ i < kvs.length, fun i H x H' => ∃ k v t, kvs[i]? = some (k, v) ∧ H t = none ∧ x = .ref t ∧ H' = upd H t (.tup [kV k, v]), fun i H => H d = some (.frz o (.dK kvs)) ∧ kvs.length ≤ i⟩
theorem kv_of {k : Key} {key : Value} (h : keyIs k key = true) : RelV (kV k) key := by
  rcases keyIs_shape h with ⟨i, t, rfl, rfl⟩ | ⟨x, t, rfl, rfl⟩
  · exact ⟨t, rfl⟩
  · exact ⟨t, rfl⟩
def iItems (tl : TE) : TI := fun σ H R => tl σ H fun x H1 => ∃ l d o kvs, x = .ref l ∧ H1 l = some (ItV l d) ∧ H1 d = some (.frz o (.dK kvs)) ∧ R (Itm d o kvs) H1
def tItems (to : TE) : TE := fun σ H Q => to σ H fun x H1 => ∃ d kvs, x = .ref d ∧ Rd H1 d (.dK kvs) ∧ ∀ v, H1 v = none → Q (.ref v) (upd H1 v (ItV v d))
/-! ### list(d), dict(d) -/
inductive LOf (K : PySem.W.Frag) (H : Hp) (p : Addr) : List V → Prop where
  | lst {ys : List V} (h : SqL K H p ys) : LOf K H p ys
  | tup {ys : List V} (h : SqT K H p ys) : LOf K H p ys
  | key {kvs : List (Key × V)} (h : Rd H p (.dK kvs)) : LOf K H p (kvs.map fun q => kV q.1)
theorem call_listH (hc : X.calm = true := by rfl) : CallR X (.type "list") (fun xs H Q => ∃ p ys, xs = [.ref p] ∧ LOf X.K H p ys ∧ ∀ l, H l = none → Q (.ref l) (upd H l (.lst ys))) := by
  intro pins s σ H xs us Q I r h
  obtain ⟨p, ys, rfl, lo, q⟩ := h
  cases lo with
  | lst z => exact call_list_of pins s σ H _ us Q I r ⟨p, ys, rfl, .inl z, q⟩
  | tup z => exact call_list_of pins s σ H _ us Q I r ⟨p, ys, rfl, .inr z, q⟩
  | @key kvs z =>
    obtain ⟨u, rfl, ru⟩ := vals1 r
    cases ru
    obtain ⟨hz, lo, vs, rel, dd⟩ := dk_rd I.hok z
    obtain ⟨ep, da⟩ := dd.dictAt
    have hl : kvs.length = vs.length := Paired.length rel
    refine PySem.W.kdl_call (PySem.W.kdl_dict (knd := mixKind X.prog X.w) (kvs := vs) (ep := ep) lo) (I.ok.hd hc) da (by omega) fun h' tk acc c k hL hacc => ?_
    have hn := I.hok.fresh (Nat.le_refl s.heap.objs.size)
    refine ⟨.ref s.heap.objs.size, _, I.laid (t' := tk) (o := .lst (kvs.map fun q => kV q.1)) k (Nat.le_refl _) ⟨by rw [List.length_map]; exact hz, acc.toList, c, ?_, by simpa using hL⟩, rfl, q _ hn⟩
    have ha : acc.toList.length = vs.length := by rw [Array.length_toList]; exact hacc.1
    refine paired_of (by rw [List.length_map]; omega) fun j a b h1 h2 => ?_
    obtain ⟨kk, xx, h3, h4⟩ := hacc.2 j b (by rw [← Array.getElem?_toList]; exact h2)
    rw [List.getElem?_map] at h1
    cases e : kvs[j]? with
    | none => rw [e] at h1; cases h1
    | some pr =>
      rw [e] at h1; cases h1
      have := paired_get (show Paired _ _ _ from rel) e h3
      show RelV (kV pr.1) b
      rw [show pr.1 = kk from this.1]
      exact kv_of h4
theorem ixK {K : PySem.W.Frag} (hu : X.A.units + 1 < cLine) (hK : X.K = K := by rfl) : IxR X (fun x y H Q => ∃ v, Item K H x y v ∧ Q v H) := by subst hK; exact ixG hu
end
end L2

set_option Elab.async false
set_option linter.all false
set_option maxRecDepth 100000
set_option maxHeartbeats 1000000
namespace L2
open PySem PySem.Spec PyProof.Rows
/-! ### a row: places, each with a number and a saying -/
section
variable {β : Type}
def getG (l : List (Int × β)) (k : Int) : Option β := (l.find? fun p => decide (p.1 = k)).map (·.2)
theorem getG_none {l : List (Int × β)} {k : Int} : getG l k = none ↔ k ∉ l.map (·.1) := by
  unfold getG
  rw [Option.map_eq_none_iff, List.find?_eq_none]
  constructor
  · intro h hm
    obtain ⟨p, hp, e⟩ := List.mem_map.mp hm
    exact h p hp (decide_eq_true e)
  · intro h p hp e
    exact h (List.mem_map.mpr ⟨p, hp, of_decide_eq_true e⟩)
theorem getG_mem {l : List (Int × β)} {k : Int} {e : β} (h : getG l k = some e) : (k, e) ∈ l := by
  unfold getG at h
  obtain ⟨p, hp, rfl⟩ := Option.map_eq_some_iff.mp h
  have e1 := List.find?_some hp
  have e2 := List.mem_of_find?_eq_some hp
  rw [← of_decide_eq_true e1]; exact e2
theorem mem_getG : ∀ {l : List (Int × β)} {k : Int} {e : β}, (l.map (·.1)).Nodup → (k, e) ∈ l → getG l k = some e
  | (k', e') :: r, k, e, hn, hm => by
    obtain ⟨n1, n2⟩ := List.nodup_cons.mp hn
    unfold getG
    rw [List.find?_cons]
    by_cases z : k' = k
    · subst z
      rcases List.mem_cons.mp hm with z | z
      · cases z; simp
      · exact absurd (List.mem_map.mpr ⟨_, z, rfl⟩) n1
    · rcases List.mem_cons.mp hm with w | w
      · cases w; exact absurd rfl z
      · have ih := mem_getG n2 w
        unfold getG at ih
        simp only [z, decide_false]
        exact ih
theorem mem_putG {l : List (Int × β)} {k : Int} {v : β} {p : Int × β} (h : p ∈ putG l k v) : p = (k, v) ∨ (p ∈ l ∧ p.1 ≠ k) := by
  unfold putG at h
  split at h
  · obtain ⟨q, hq, e⟩ := List.mem_map.mp h
    split at e
    · left; rw [← e]; next z => rw [z]
    · subst e; exact .inr ⟨hq, ‹_›⟩
  · next hn =>
    rcases List.mem_append.mp h with z | z
    · exact .inr ⟨z, fun e => hn (List.any_eq_true.mpr ⟨p, z, decide_eq_true e⟩)⟩
    · exact .inl (by simpa using z)
theorem putG_mem {l : List (Int × β)} {k : Int} {v : β} : (k, v) ∈ putG l k v := by
  unfold putG
  split
  · next h =>
    obtain ⟨q, hq, e⟩ := List.any_eq_true.mp h
    refine List.mem_map.mpr ⟨q, hq, ?_⟩
    rw [if_pos (of_decide_eq_true e), of_decide_eq_true e]
  · simp
theorem putG_other {l : List (Int × β)} {k : Int} {v : β} {p : Int × β} (h : p ∈ l) (hk : p.1 ≠ k) : p ∈ putG l k v := by
  unfold putG
  split
  · exact List.mem_map.mpr ⟨p, h, by rw [if_neg hk]⟩
  · exact List.mem_append_left _ h
end
structure Ent where
  a : Addr
  n : Int
  s : Str
abbrev ERow := List (Int × Ent)
def EntAt (H : Hp) (e : Ent) : Prop := H e.a = some (.tup [.int e.n, .str e.s])
def kvE (l : ERow) : List (Key × V) := l.map fun p => (Sum.inl p.1, V.ref p.2.a)
/-! the best of rows -/
def stepB (b : ERow) (p : Int × Ent) : ERow := match getG b p.1 with
  | none => putG b p.1 p.2
  | some e => if e.n < p.2.n then putG b p.1 p.2 else b
def bestR (b r : ERow) : ERow := r.foldl stepB b
def bestOf (rs : List ERow) : ERow := rs.foldl bestR []
/-- what is there, each from one of them, none greater -/
structure Best (seen : List (Int × Ent)) (b : ERow) : Prop where
  nd : (b.map (·.1)).Nodup
  from_ : ∀ p ∈ b, p ∈ seen
  all : ∀ p ∈ seen, ∃ e, (p.1, e) ∈ b ∧ p.2.n ≤ e.n
theorem Best.nil : Best [] [] := ⟨.nil, fun _ h => h, fun _ h => nomatch h⟩
theorem Best.step {seen : List (Int × Ent)} {b : ERow} (B : Best seen b) (p : Int × Ent) : Best (seen ++ [p]) (stepB b p) := by
  have put : (∀ e, (p.1, e) ∈ b → e.n ≤ p.2.n) → Best (seen ++ [p]) (putG b p.1 p.2) := fun h => by
    refine ⟨putG_nd _ _ B.nd, fun q hq => ?_, fun q hq => ?_⟩
    · rcases mem_putG hq with z | ⟨z, _⟩
      · subst z; simp
      · exact List.mem_append_left _ (B.from_ q z)
    · rcases List.mem_append.mp hq with z | z
      · obtain ⟨e, h1, h2⟩ := B.all q z
        by_cases w : q.1 = p.1
        · exact ⟨p.2, by rw [w]; exact putG_mem, Int.le_trans h2 (h e (w ▸ h1))⟩
        · exact ⟨e, putG_other h1 w, h2⟩
      · have : q = p := by simpa using z
        subst this
        exact ⟨q.2, putG_mem, Int.le_refl _⟩
  unfold stepB
  split
  · next h => exact put fun e he => absurd (List.mem_map.mpr ⟨_, he, rfl⟩) (getG_none.mp h)
  · next e h =>
    have hm := getG_mem h
    split
    · next w =>
      refine put fun e' he' => ?_
      have := mem_getG B.nd he'
      rw [h] at this; cases this
      omega
    · next w =>
      refine ⟨B.nd, fun q hq => List.mem_append_left _ (B.from_ q hq), fun q hq => ?_⟩
      rcases List.mem_append.mp hq with z | z
      · exact B.all q z
      · have : q = p := by simpa using z
        subst this
        exact ⟨e, hm, by omega⟩
theorem Best.row : ∀ (r : ERow) {seen : List (Int × Ent)} {b : ERow}, Best seen b → Best (seen ++ r) (bestR b r)
  | [], seen, b, B => by rw [List.append_nil]; exact B
  | p :: r, seen, b, B => by
    have := Best.row r (B.step p)
    rw [List.append_assoc] at this
    exact this
theorem Best.rows : ∀ (rs : List ERow) {seen : List (Int × Ent)} {b : ERow}, Best seen b → Best (seen ++ rs.flatten) (rs.foldl bestR b)
  | [], seen, b, B => by rw [List.flatten_nil, List.append_nil]; exact B
  | r :: rs, seen, b, B => by
    have := Best.rows rs (B.row r)
    rw [List.append_assoc] at this
    rw [List.flatten_cons]; exact this
/-- the dict at d is the row -/
structure RowAt (H : Hp) (d : Addr) (l : ERow) : Prop where
  dk : H d = some (.dK (kvE l))
  es : ∀ p ∈ l, EntAt H p.2
theorem RowAt.same {H H' : Hp} {d : Addr} {l : ERow} (R : RowAt H d l) (s : Same H H') : RowAt H' d l := ⟨s _ _ R.dk, fun p hp => s _ _ (R.es p hp)⟩
end L2

set_option Elab.async false
set_option linter.all false
set_option maxRecDepth 100000
set_option maxHeartbeats 1000000
namespace L2
open PySem PySem.Spec PyProof.Rows
/-- the script: nothing changes it -/
def ScrA (K : PySem.W.Frag) (H : Hp) (a : Addr) (xs : List V) : Prop := (∃ o, H a = some (.frz o (.lst xs))) ∨
  ∃ (o : Obj) (its : Array Value) (n : Nat), K.lookup a = some o ∧ o.cls = .type "list" ∧ o.dict = none ∧ o.data = .seq its n ∧ its.size ≤ sizeLine ∧ Vals xs its.toList
theorem ScrA.sq {K : PySem.W.Frag} {H : Hp} {a : Addr} {xs : List V} (h : ScrA K H a xs) : SqL K H a xs := by
  rcases h with ⟨o, h⟩ | h
  · exact .inl (.inr ⟨o, h⟩)
  · exact .inr h
/-- what is frozen stays -/
def FrzK (H H' : Hp) : Prop := ∀ b o u, H b = some (.frz o u) → H' b = some (.frz o u)
theorem FrzK.of_same {H H' : Hp} (s : Same H H') : FrzK H H' := fun b o u e => s b _ e
theorem ScrA.keep {K : PySem.W.Frag} {H H' : Hp} {a : Addr} {xs : List V} (h : ScrA K H a xs) (f : FrzK H H') : ScrA K H' a xs := by
  rcases h with ⟨o, h⟩ | h
  · exact .inl ⟨o, f _ _ _ h⟩
  · exact .inr h
def spLawF (K : PySem.W.Frag) : Sp := fun vs H Q _ => ∃ (a : Addr) (ns : List Int), vs = [.ref a] ∧ ScrA K H a (ns.map V.int) ∧ Only H ∧ ns.length ≤ 63 ∧ ∀ H', Q (.bl true) H'
theorem walkF {l : PySem.W.OpenLaw} {q : Program} {loose : List Str} {XP : (Str → Option Value) → Heap → Prop} {YP : World → Heap → Prop} {d : DefRec} {K : Params → PySem.W.Frag} {k : Nat} {st : Stmt} (hn : l.most = some 63) (hdf : d.params.defaults = []) (hr : Room k callerA) (hd : d.name = "law")
    (hY : ∀ (w : World) (h : Heap), YP w h → (K w.params).In h)
    (F : ∀ (w : World) (mg : Str → Option Value) (h : Heap), (K w.params).In h → h.Ns mainGlobals mg → DefAt (K w.params) mg "law" st ["_law_script"] ∧
      ∀ (base : Heap) (f : Addr) (fd : FuncData), Fun (K w.params) "law" "law" st f fd → FnOk l.prog w (K w.params) mg base CX0 k f fd ["_law_script"] (spLawF (K w.params))) :
    PySem.W.WalkO q loose XP YP l.row.toRowW d [] (fun f vs => PySem.call f vs) := by
  refine L2.walk_of (n := 63) (k := k) (x := "_law_script") (CX := fun _ => CX0) (sp := fun w => spLawF (K w.params)) hn (by decide) hdf hr hY (fun w mg fa h KX G hmg => ?_) (fun w H a ns hl hO hS => ⟨a, ns, rfl, ?_, hO, hl, fun _ => rfl⟩) fun _ _ _ _ _ z => z
  · obtain ⟨⟨f, fd, Ff, hm, hb⟩, ok⟩ := F w mg h KX G
    rw [hd] at hmg
    rw [hm] at hmg
    cases hmg
    exact ⟨fd, fun s u => .of_eq (hb [u] rfl), fun base _ _ => ok base fa fd Ff⟩
  · rcases hS with (h | h) | h
    · rcases hO a with z | ⟨o, xs, z⟩
      · rw [z] at h; cases h
      · rw [z] at h; cases h
    · exact .inl h
    · exact .inr h
theorem at_cell {ns : List Int} {lo i : Nat} (h : lo + i < ns.length) : atI (ns.map V.int) ((lo : Int) + (i : Int)) = some (.int (ns.getD (lo + i) 0)) := by
  have e : (lo : Int) + (i : Int) = ((lo + i : Nat) : Int) := by omega
  rw [e]
  exact atI_nat (by simp [h])
theorem atI_lt {α : Type} (xs : List α) (i : Int) (h0 : 0 ≤ i) (h1 : i < xs.length) : ∃ x ∈ xs, atI xs i = some x := by
  obtain ⟨n, rfl⟩ := Int.eq_ofNat_of_zero_le h0
  have hn : n < xs.length := by omega
  exact ⟨xs[n], List.getElem_mem hn, atI_nat (by simp [hn])⟩
theorem menu {is : List Int} (i : Int) (h0 : 0 ≤ i) (h1 : i < is.length) : ∃ c ∈ is, atI (is.map V.int) i = some (.int c) := by
  obtain ⟨x, hx, e⟩ := atI_lt (is.map V.int) i h0 (by simpa using h1)
  obtain ⟨c, hc, rfl⟩ := List.mem_map.mp hx
  exact ⟨c, hc, e⟩
theorem ten60 : PySem.intText? ("1" ++ Txt.mul "0" 60) = some (10 ^ 60) := by decide +kernel
theorem len61 : (("1" : Str) ++ Txt.mul "0" 60).length = 61 := by decide +kernel
theorem mok60 : MulOk "0" 60 := mulOk_of 16 1048576 (by decide) (by decide) (by decide) (by decide) (by decide)
theorem c48 (i : Int) : CMul i 48271 := .inr ⟨by decide, by decide⟩
end L2

set_option Elab.async false
set_option linter.all false
set_option maxRecDepth 100000
set_option maxHeartbeats 4000000
namespace L2
open PySem PySem.Spec PyProof.Rows
theorem en_tc (x v : Value) : checkTypeCall "enumerate" ⟨[x], [("start", v)]⟩ = pure () := by kernel_rfl
theorem en_nc (x v : Value) : checkBuiltinCall "enumerate.__new__" ⟨[.type "enumerate", x], [("start", v)]⟩ = pure () := by kernel_rfl
open AutoSeq1 (wpAny_loadPart') in
theorem en_new (a : Addr) (its : Array Value) (c : Nat) (t : Tok) (sl : Array (Option Value)) :
    Meets (Builtin.«enumerate.__new__» ⟨[.type "enumerate", .ref a], [("start", .int 1 t)]⟩) (fun _ R z => z.heap.get? a = some { cls := .type "list", data := .seq its c, slots := sl } ∧
      R (.ok (.ret (.ref (z.heap.objs.size + 1)))) { z with heap := (z.heap.push { cls := .type "list_iterator", data := .fields #[.ref a, .int 0 0] }).push { cls := .type "enumerate", data := .fields #[.none, .bool false, .ref z.heap.objs.size, rawInt 1, .none, .none] } }) := by
  refine .of_wp fun P' w' B R z hz => ?_
  obtain ⟨h1, h2⟩ := hz
  obtain ⟨hh, gg, dd, kk, oo⟩ := z
  have sb := sub_enumerate
  have isl : Heap.IsList (Shared.heap ⟨hh, gg, dd, kk, oo⟩) a its := ⟨_, h1, rfl, c, rfl⟩
  have h3 : (hh.push { cls := .type "list_iterator", data := .fields #[.ref a, .int 0 0] }).objs.size = hh.objs.size + 1 := Heap.size_push ..
  rw [show Shared.heap ⟨hh, gg, dd, kk, oo⟩ = hh from rfl, ← h3] at h2
  wp_walk using wpAny_loadPart' h1
  refine wpAny_stack_any fun _ => ?_
  refine wpAny_pure ?_
  split
  · rename_i v _ _ _ _ _
    cases v == Value.type "enumerate" <;> wp_walk using wpAny_loadPart' h1, wpAny_pyIter_list isl
    all_goals exact ⟨_, rfl, h2⟩
  · wp_walk using wpAny_loadPart' h1, wpAny_pyIter_list isl
    exact ⟨_, rfl, h2⟩
section
variable {prog : Program} {w : World} {A : Around} {E : Value → Shared → Prop} {s : Shared}
/-- object.__init__ with a name given: nothing, where __new__ is the type's own -/
theorem obj_init_kw {T id : String} {x y : Value} {ys : List Value} {kw : List (Str × Value)} (h1 : typeLookup (.type T) "__init__" = pure (some (.builtin "object.__init__"))) (h2 : Bind.madeBy (.type T) = pure (some id)) (h3 : (some id != some "object.__new__") = true) :
    Meets (Builtin.«object.__init__» ⟨x :: y :: ys, kw⟩) (fun _ R z => z.TypeIs x T ∧ R (.ok (.ret .none)) z) := by
  refine .of_wp fun P' w' B R z hz => ?_
  obtain ⟨h4, h5⟩ := hz
  repeat (any_goals (first | assumption | wp_step))
  exact ⟨_, rfl, h5⟩
theorem en_args (x y v : Value) : argsOk "object.__init__" ⟨[x, y], [("start", v)]⟩ := by
  unfold argsOk
  rw [signature?_of (id := "object.__init__") (n := ['_', '_', 't', 'i', 'n', 'i', '_', '_']) (o := ['t', 'c', 'e', 'j', 'b', 'o']) (by kernel_rfl) F.owner_object]
  kernel_rfl
/-- a type called with a name given -/
theorem type_kw {T id : String} {Bn : Builtin} {y : Value} {kw : List (Str × Value)} {S : PySem.Spec} {Q : Value → Shared → Prop} (ft : TypeCalled T id "object.__init__") (hne : (some id != some "object.__new__") = true)
    (hct : checkTypeCall T ⟨[y], kw⟩ = pure ()) (hcn : checkBuiltinCall id ⟨[.type T, y], kw⟩ = pure ()) (hok : ∀ x, argsOk "object.__init__" ⟨[x, y], kw⟩) (en : entryFor table id = some Bn) (g : Meets (Bn ⟨[.type T, y], kw⟩) S)
    (h : S A.in1 (wants (fun x z => z.TypeIs x T ∧ Q x z) E) s) : wpAny (model prog w) A (call (.type T) [y] kw) Q E s := by
  obtain ⟨c0, t0, hmro⟩ := ft.mro
  have e1 := ft.made
  have e2 := ft.sub
  refine wpAny_call (codeAny_of_tree ?_)
  show wpAny _ _ (callAny (.type T) _) _ _ _
  refine wpAny_pure ⟨Code.quiet_builtin _ (by decide +kernel), ?_⟩
  refine codeAny_builtin F.entry_type_call ?_
  rw [Around.under_plain (weight_type_call_type T [y] kw) rfl]
  have e3 := ft.notType
  have e4 := ft.canCreate
  repeat (any_goals (first | assumption | wp_step))
  refine codeAny_mono (codeAny_call_builtin ft.plain en (wpAny_of_eq hcn (g prog w A.in1 _ s h))) fun r z hr => ?_
  cases r with
  | error e => exact hr
  | ok fl =>
    cases fl with
    | ret x =>
      obtain ⟨hT, hq⟩ := hr
      have e5 := ft.init.lookup
      have e6 := ft.init.bind x
      repeat (any_goals (first | assumption | wp_step))
      refine codeAny_mono (codeAny_call_builtin ft.init.plain F.entry_object_init (ft.init.check _ _ _ _ _ _ _ _ hT (hok x) (obj_init_kw ft.init.lookup ft.made hne prog w A.in1 (wants (fun r z' => r = .none ∧ z' = z) E) z ⟨hT, rfl, rfl⟩))) fun r2 z2 hr2 => ?_
      cases r2 with
      | error e => exact hr2
      | ok fl2 =>
        cases fl2 with
        | ret r =>
          obtain ⟨rfl, rfl⟩ := hr2
          repeat (any_goals (first | assumption | wp_step))
        | _ => exact hr2.elim
    | _ => exact hr.elim
theorem en_call {a : Addr} {its : Array Value} {c : Nat} {t : Tok} {sl : Array (Option Value)} {Q : Value → Shared → Prop} (ha : s.heap.get? a = some { cls := .type "list", data := .seq its c, slots := sl })
    (q : ∀ h', IsEnum h' (s.heap.objs.size + 1) s.heap.objs.size 1 .none → h'.IsListIter s.heap.objs.size a 0 → (∀ b o, s.heap.get? b = some o → h'.get? b = some o) → Q (.ref (s.heap.objs.size + 1)) { s with heap := h' }) :
    wpAny (model prog w) A (call (.type "enumerate") [.ref a] [("start", .int 1 t)]) Q E s := by
  have hz : (s.heap.push { cls := .type "list_iterator", data := .fields #[.ref a, .int 0 0] }).objs.size = s.heap.objs.size + 1 := Heap.size_push ..
  have g1 : ((s.heap.push { cls := .type "list_iterator", data := .fields #[.ref a, .int 0 0] }).push { cls := .type "enumerate", data := .fields #[.none, .bool false, .ref s.heap.objs.size, rawInt 1, .none, .none] }).get? (s.heap.objs.size + 1) = some { cls := .type "enumerate", data := .fields #[.none, .bool false, .ref s.heap.objs.size, rawInt 1, .none, .none] } := by
    rw [← hz]; exact Heap.get?_push_size _ rfl
  refine type_kw F.called_enumerate (by decide) (en_tc _ _) (en_nc _ _) (fun x => en_args x _ _) F.entry_enumerate_new (en_new a its c t sl) ⟨ha, ⟨_, g1, rfl⟩, q _ g1 ⟨_, Heap.get?_push_of_some _ (Heap.get?_push_size _ rfl), rfl, rfl⟩ fun b o e => Heap.get?_push_of_some _ (Heap.get?_push_of_some _ e)⟩
end
end L2

set_option Elab.async false
set_option linter.all false
set_option maxRecDepth 100000
set_option maxHeartbeats 4000000
namespace L2
open PySem PySem.Spec PyProof.Rows
/-- the list's own draws, one behind -/
theorem draws1 {P : Program} {w : World} {A : Around} (hh : A.handled = none) (it l : Addr) (hne : l ≠ it) (its : Array Value) :
    Draws P w A it [it, l] (its.size + 1) (fun i v => 0 < i ∧ its[i - 1]? = some v) (fun i h => 0 < i ∧ h.IsListIter it l (i - 1) ∧ h.IsList l its) := by
  have D := Draws.list (prog := P) (w := w) hh it l hne its
  refine ⟨fun i h st => D.live (i - 1) h st.2, fun i h h' st k => ⟨st.1, D.frame (i - 1) h h' st.2 k⟩, fun i s Q E hi st hQ => ?_, fun s Q E st hE => D.done s Q E st.2 hE⟩
  obtain ⟨h0, st⟩ := st
  refine D.item (i - 1) s Q E (by omega) st fun x h' tk hx st' hs => hQ x h' tk ⟨h0, hx⟩ ⟨by omega, ?_⟩ hs
  rwa [show i - 1 + 1 = i + 1 - 1 by omega] at st'
/-- nothing more to draw -/
theorem draws0 {P : Program} {w : World} {A : Around} {n : Nat} (hh : A.handled = none) (it l : Addr) (its : Array Value) (hn : its[n]? = none) :
    Draws P w A it [it, l] n (fun _ _ => False) (fun i h => i = n ∧ h.IsListIter it l n ∧ h.IsList l its) :=
  ⟨fun i h st => let ⟨o, ho, _⟩ := st.2.1; ⟨o, ho⟩, fun i h h' st k => ⟨st.1, st.2.1.at fun o e => k it (by simp) o e, st.2.2.at fun o e => k l (by simp) o e⟩, fun i s Q E hi st _ => absurd st.1 (Nat.ne_of_lt hi), fun s Q E st hE => wpAny_nextOf_list_end hh st.2.1 st.2.2 hn hE⟩
/-- untracked records of ours have turned -/
theorem Inv.turnedL {X : Cx} {pins : List (Addr × Obj)} {σ : St} {H : Hp} {s : Shared} {h' : Heap} {t' : Nat} {fp : List Addr} (I : Inv X pins σ H s) (k : ∀ b o, b ∉ fp → s.heap.get? b = some o → h'.get? b = some o) (hf : ∀ b ∈ fp, FpOk X pins H b) : Inv X pins σ H { s with heap := h', toks := t' } := by
  have nit : ∀ b u, H b = some u → b ∉ fp := fun b u e z => by rw [(hf b z).1] at e; cases e
  refine I.step (g' := s.gens) (d' := s.drawn) (ch := fp) (fun b hb => ?_) (fun b o _ _ hc e _ => k b o hc e) (fun b o _ _ hc e _ => ⟨o.slots, k b o hc e⟩) (fun _ _ _ _ n => n)
    (fun b o hc e => ⟨o, k b o hc e⟩) (fun _ _ e => e) (fun _ _ _ e => e) (fun b ps e => ⟨#[], by rw [e]; simp⟩) (fun m hm => ?_) (fun b u e => ?_) I.bare
  · obtain ⟨f0, f1, f2, f3, f4, f5⟩ := hf b hb
    exact ⟨f3, f1, f4, f5⟩
  · obtain ⟨o, es, ep, ho, r⟩ := hm
    exact ⟨o, es, ep, k _ o (fun z => (hf _ z).2.1 rfl) ho, r⟩
  · refine (I.hok b u e).stay (fun c v hc q => k c v ?_ q) (fun _ q => q) fun _ _ q => q
    rcases hc with z | z
    · rw [z]; exact nit b u e
    · exact nit c _ z
section
variable {X : Cx}
/-- enumerate(l, start=1), the list as it stands at each turn -/
def Ite (K : PySem.W.Frag) (a : Addr) : It :=
  ⟨fun i H => ∃ xs x, SqL K H a xs ∧ xs[i]? = some x, fun i H y H' => ∃ t x, H t = none ∧ y = .ref t ∧ H' = upd H t (.tup [.int ((i : Int) + 1), x]) ∧ ∀ xs, SqL K H a xs → xs[i]? = some x, fun i H => ∃ xs, SqL K H a xs ∧ xs.length ≤ i⟩
theorem turn_enum {P : Program} {w : World} {K : PySem.W.Frag} {es : List Expr} {kk : Nat} {pos : Pos} (a it e : Addr) (h1 : a ≠ it) (h2 : e ≠ it) (h3 : e ≠ a) :
    Turn P w K (.Tuple es kk pos) (Ite K a) [e, it] e (fun i h => (∃ old, IsEnum h e it ((i : Int) + 1) old) ∧ h.IsListIter it a i) where
  mem := by simp
  obj := fun i h st b hb => by
    obtain ⟨⟨old, he⟩, o, ho, hc, hd⟩ := st
    rcases List.mem_cons.mp hb with z | z
    · subst z; exact ⟨_, he, fun v z => by cases z⟩
    · have : b = it := by simpa using z
      subst this; exact ⟨o, ho, fun v z => by rw [hd] at z; cases z⟩
  keep := fun i h h' st k => by
    obtain ⟨⟨old, he⟩, hi⟩ := st
    exact ⟨⟨old, k e (by simp) _ he⟩, hi.at fun o z => k it (by simp) o z⟩
  item := by
    intro X hP hw hK hc i pins s σ H E I hf st hg
    subst hP hw hK
    obtain ⟨xs, x, hq, hx⟩ := hg
    obtain ⟨its, rv, p, hz⟩ := I.list hq
    obtain ⟨u, hu, ru⟩ := rv.get hx
    obtain ⟨⟨old, he⟩, hi⟩ := st
    obtain ⟨f0, f1, f2, f3, f4, f5⟩ := hf e (by simp)
    obtain ⟨g0, g1, g2, g3, g4, g5⟩ := hf it (by simp)
    have W := WalksT.enumerateD (draws1 (P := X.prog) (w := X.w) (A := X.A.in1) (I.ok.hd hc) it a h1 its.toArray) e h2 (by simp [h2, h3]) (by simp)
    have hil : i < its.length := (List.getElem?_eq_some_iff.mp hu).1
    refine W.item (i + 1) s _ E (by simp; omega) ⟨⟨old, by simpa using he⟩, by omega, by simpa using hi, p.isList⟩ fun T vals h' tk hP hT hTt hMid hk => ?_
    obtain ⟨tt, y, ⟨_, hy⟩, hvals⟩ := hP
    have ey : y = u := by
      have : its[i]? = some y := by simpa using hy
      rw [hu] at this; cases this; rfl
    subst ey
    refine ⟨_, rfl, W.go es kk pos (i + 1) T _ _ E hMid fun h'' st'' hk'' => ?_⟩
    obtain ⟨t1, t2, t3, t4, t5, t6⟩ := I.fpOk hT (I.hok.fresh hT)
    have I1 : Inv X pins σ H { s with heap := h'', toks := tk } := I.turnedL (t' := tk) (fun b o hb z => hk'' b o hb (hk b o hb z)) hf
    have hT2 : IsTup h'' T vals := hTt.at fun o z => hk'' T o (W.apart _ _ _ hMid) z
    have I2 := I1.track (t := T) (o := .tup [.int ((i : Int) + 1), x]) (Nat.le_trans I.sz hT) t2 t5 t6 t1 ⟨by show 2 ≤ sizeLine; decide, [Value.int ((i : Int) + 1) tt, y], .cons ⟨tt, rfl⟩ (.cons ru .nil), by rw [hvals] at hT2; simpa using hT2⟩
    obtain ⟨⟨old2, he2⟩, _, hi2, _⟩ := st''
    refine ⟨.ref T, _, I2, rfl, ⟨T, x, t1, rfl, rfl, fun ys hy => by rw [I.list_inj hy hq]; exact hx⟩, ⟨⟨old2, by simpa using he2⟩, by simpa using hi2⟩, fun b hb => ?_⟩
    rw [upd_ne (fun z => by rw [z] at hb; exact W.apart _ _ _ hMid hb)]
    exact (hf b hb).1
  done := by
    intro X hP hw hK hc i pins s σ H E I hf st hg
    subst hP hw hK
    obtain ⟨xs, hq, hx⟩ := hg
    obtain ⟨its, rv, p, hz⟩ := I.list hq
    obtain ⟨⟨old, he⟩, hi⟩ := st
    have hl := rv.length
    refine wpAny_pyNext_enum_endD (draws0 (P := X.prog) (w := X.w) (A := X.A.in1) (n := i) (I.ok.hd hc) it a its.toArray (by simp; omega)) he ⟨rfl, hi, p.isList⟩ fun h' eb => ⟨rfl, I.turnedL (t' := s.toks) (fun b o hb z => eb b o (fun w => hb (by simp [w])) z) hf⟩
  self := fun A i s Q E st h => by
    obtain ⟨⟨old, he⟩, hi⟩ := st
    exact wpAny_pyIter_enum he h
theorem cw_kw {M : Model} {A : Around} {E : Value → Shared → Prop} {s : Shared} {env : Env} {pos : Pos} {T : String} {e : Expr} {k : Keyword} {Q : Value → Shared → Prop}
    (h : wpAny M A (spliced (backTo pos (starEach [e] env))) (fun vs z => wpAny M A (evalAll ((backToKw pos (keywordEach [k] env)).map (·.2))) (fun ks z2 => wpAny M A (call (.type T) vs (((backToKw pos (keywordEach [k] env)).filterMap (·.1)).zip ks)) Q E z2) E z) E s)
    (h1 : backTo pos (starEach [e] env) = [(false, eval e env)] := by rfl) (h2 : (backToKw pos (keywordEach [k] env)).all (·.1.isSome) = true := by rfl) (h3 : (backToKw pos (keywordEach [k] env)).any (·.1.isNone) = false := by rfl) :
    wpAny M A (callWith pos (.type T) [] (backTo pos (starEach [e] env)) (backToKw pos (keywordEach [k] env))) Q E s := by
  unfold callWith
  rw [h1] at h ⊢
  refine wpAny_bind (wpAny_holding (wpAny_mono (evalArgs_kwB (Q := fun a z => wpAny M A (call (.type T) a.pos a.kw) Q E z) h2 h) (fun a z hz => ?_) fun _ _ x => x))
  refine wpAny_bind (wpAny_standAt ?_)
  simp only [h3, List.any_cons, List.any_nil, Bool.or_false]
  refine wpAny_bind (wpAny_pure (wpAny_bind (wpAny_mono hz (fun r z2 hr => ?_) fun _ _ x => x)))
  exact wpAny_bind (wpAny_holding (wpAny_point (wpAny_pure hr)))
def iEnum (K : PySem.W.Frag) (tl tk : TE) : TI := fun σ H R => tl σ H fun x H1 => tk σ H1 fun y H2 => y = .int 1 ∧ ∃ a, x = .ref a ∧ (∃ xs, SqL K H2 a xs) ∧ R (Ite K a) H2
theorem pi_enum {es : List Expr} {kk : Nat} {tpos : Pos} {l v : Expr} {kp : Pos} {tl tk : TE} {p pos : Pos} (hg : Gl X "enumerate") (hm : X.mg "enumerate" = none) (hl : PE X l tl) (hv : PE X v tk)
    (h1 : backTo pos (starEach [l] X.env) = [(false, eval l X.env)] := by rfl) :
    PI X (.Tuple es kk tpos) (.Call (.Name "enumerate" p) [l] [⟨some "start", v, kp⟩] pos) (iEnum X.K tl tk) := by
  intro pins s σ H R I h
  rw [show eval (.Call (.Name "enumerate" p) [l] [⟨some "start", v, kp⟩] pos) X.env = (do callWith pos (← eval (.Name "enumerate" p) X.env) [] (backTo pos (starEach [l] X.env)) (backToKw pos (keywordEach [⟨some "start", v, kp⟩] X.env))) from rfl]
  refine wpAny_bind (ld_blt I hg hm boot_enumerate ?_)
  refine cw_kw ?_ h1
  rw [h1]
  refine Calls.spliced_cons (thn (hl pins s σ H _ I h) fun x1 s1 ⟨x, H1, I1, r1, q1⟩ => Calls.spliced_nil ?_)
  refine kws_cons (thn (hv pins s1 σ H1 _ I1 q1) fun y1 s2 ⟨y, H2, I2, r2, e2, a, e1, ⟨xs, hq⟩, q⟩ => kws_nil ?_)
  subst e1 e2
  cases r1
  obtain ⟨t, rfl⟩ := r2
  obtain ⟨its, rv, p1, hz⟩ := I2.list hq
  obtain ⟨o, ho, hc, n, hd⟩ := id p1.isList
  have g1 : ∃ c sl, s2.heap.get? a = some { cls := .type "list", data := .seq its.toArray c, slots := sl } := by
    obtain ⟨⟨c1, c2, c3, c4⟩, n, g1, g2, g3, g4⟩ := p1
    simp only at g2 g3 g4
    subst g2 g3 g4
    exact ⟨n, c4, g1⟩
  obtain ⟨c, sl, g1⟩ := g1
  have f1 := I2.fpOk (H' := H2) (b := s2.heap.objs.size) (Nat.le_refl _) (I2.hok.fresh (Nat.le_refl _))
  have f2 := I2.fpOk (H' := H2) (b := s2.heap.objs.size + 1) (Nat.le_succ _) (I2.hok.fresh (Nat.le_succ _))
  refine en_call g1 fun h' he hi hk => ?_
  refine wpAny_pyIter_enum he ?_
  have la : a < s2.heap.objs.size := Heap.lt_size ho
  refine ⟨s2.heap.objs.size + 1, [s2.heap.objs.size + 1, s2.heap.objs.size], _, _, H2, rfl, I2.kept (t' := s2.toks) hk, turn_enum a s2.heap.objs.size (s2.heap.objs.size + 1) (Nat.ne_of_lt la) (Nat.succ_ne_self _) (Nat.ne_of_gt (Nat.lt_succ_of_lt la)), ⟨⟨.none, by simpa using he⟩, hi⟩, fun b hb => ?_, q⟩
  rcases List.mem_cons.mp hb with z | z
  · rw [z]; exact f2
  · have : b = s2.heap.objs.size := by simpa using z
    rw [this]; exact f1
end
end L2

set_option Elab.async false
set_option linter.all false
set_option maxRecDepth 100000
set_option maxHeartbeats 1000000
namespace L2
open PySem PySem.Spec PyProof.Rows
/-! ### an exception on its way -/
/-- all but the records R is kept; of the frames F the slots may change -/
structure Psd (F R : List Addr) (h h' : Heap) : Prop where
  kp : ∀ b o, h.get? b = some o → b ∉ R → b ∉ F → h'.get? b = some o
  sl : ∀ b o, h.get? b = some o → b ∉ R → ∃ z, h'.get? b = some { o with slots := z }
theorem Psd.refl {F R : List Addr} {h : Heap} : Psd F R h h := ⟨fun _ _ e _ _ => e, fun _ o e _ => ⟨o.slots, e⟩⟩
theorem Psd.trans {F R : List Addr} {h1 h2 h3 : Heap} (x : Psd F R h1 h2) (y : Psd F R h2 h3) : Psd F R h1 h3 :=
  ⟨fun b o e r f => y.kp b o (x.kp b o e r f) r f, fun b o e r => let ⟨_, e1⟩ := x.sl b o e r; let ⟨z, e2⟩ := y.sl b _ e1 r; ⟨z, e2⟩⟩
theorem Psd.mono {F F' R R' : List Addr} {h h' : Heap} (x : Psd F R h h') (hF : ∀ b ∈ F, b ∈ F') (hR : ∀ b ∈ R, b ∈ R') : Psd F' R' h h' :=
  ⟨fun b o e r f => x.kp b o e (fun z => r (hR b z)) (fun z => f (hF b z)), fun b o e r => x.sl b o e fun z => r (hR b z)⟩
theorem Psd.grow {F R : List Addr} {h h' : Heap} (k : ∀ b o, h.get? b = some o → h'.get? b = some o) : Psd F R h h' := ⟨fun b o e _ _ => k b o e, fun b o e _ => ⟨o.slots, k b o e⟩⟩
/-- an exception and its trace; fl: where it flies -/
def Xc (h : Heap) (e T : Addr) (cls fl : Value) : Prop := ∃ oe vs oT ts, h.get? e = some oe ∧ oe.cls = cls ∧ oe.data = .fields vs ∧ vs[1]? = some (.ref T) ∧ T ≠ e ∧ h.get? T = some oT ∧ oT.data = .fields ts ∧ ts[3]? = some fl
theorem Xc.cls {h : Heap} {e T : Addr} {cls fl : Value} (x : Xc h e T cls fl) : ∃ oe, h.get? e = some oe ∧ oe.cls = cls := let ⟨oe, _, _, _, a, b, _⟩ := x; ⟨oe, a, b⟩
abbrev trc (hd : Value) (L : Addr) (pl : List Value) : Obj := { cls := .type "traceback", dict := none, data := .fields ([hd, .ref L, .none, rawInt L, .none] ++ (if pl.isEmpty then List.replicate 6 Value.none else pl)).toArray }
section
variable {M : Model} {A : Around} {E : Value → Shared → Prop} {s : Shared}
end
end L2

set_option Elab.async false
set_option linter.all false
set_option maxRecDepth 100000
set_option maxHeartbeats 1000000
namespace L2
open PySem PySem.Spec PyProof.Rows
theorem ObjOk.here {P : Program} {w : World} {H : Hp} {h : Heap} {a : Addr} {o : HO} (x : ObjOk P w H h a o) : ∃ u, h.get? a = some u := by
  cases o with
  | lst xs => obtain ⟨_, _, _, _, e⟩ := x; exact ⟨_, e⟩
  | tup xs => obtain ⟨_, _, _, ob, e, _⟩ := x; exact ⟨_, e⟩
  | dK kvs => obtain ⟨_, _, _, _, o, _, _, e, _⟩ := x; exact ⟨_, e⟩
  | dT kvs => obtain ⟨_, _, _, _, o, _, _, e, _⟩ := x; exact ⟨_, e⟩
  | set S n => obtain ⟨o, _, _, _, e, _⟩ := x; exact ⟨_, e⟩
  | ins C dx fs => obtain ⟨_, _, _, e, _⟩ := x; exact ⟨_, e⟩
  | own y => exact x
  | xd fs => obtain ⟨_, ⟨_, _, _, e, _⟩, _⟩ := x; exact ⟨_, e⟩
  | rng lo hi => obtain ⟨_, _, _, e⟩ := x; exact ⟨_, e⟩
  | frz ob u => exact ⟨_, x.1⟩
  | tbl ps => exact ⟨_, x⟩
  | met f y => exact ⟨_, x⟩
  | ext φ => exact x.2.1
theorem HOk.no {P : Program} {w : World} {H : Hp} {h : Heap} {a : Addr} (x : HOk P w H h) (n : h.get? a = none) : H a = none := by
  cases e : H a with
  | none => rfl
  | some o => obtain ⟨u, q⟩ := (x a o e).here; rw [n] at q; cases q
section
variable {X : Cx} {pins : List (Addr × Obj)} {σ : St} {H : Hp} {s : Shared} {h' : Heap}
/-- a record that nothing here knows -/
def Alien (X : Cx) (pins : List (Addr × Obj)) (H : Hp) (r : Addr) : Prop := H r = none ∧ X.s₀.heap.get? r = none ∧ r ≠ X.env.locals ∧ (∀ x c, X.env.cells.lookup x = some c → c ≠ r) ∧ ∀ p ∈ X.pn ++ pins, p.1 ≠ r
end
/-! ### an own class of exceptions, from the top -/
/-- how an exception lies behind a call -/
def CX1 (P : Program) (w : World) : CXT := fun outer H s E e s' => ∃ ea T cls H', e = .ref ea ∧ s'.os = s.os ∧ AllBare s'.gens ∧ Un (frs outer) [] H H' s.heap s'.heap ∧ HOk P w H' s'.heap ∧
  s.heap.get? ea = none ∧ s.heap.get? T = none ∧ H' ea = none ∧ H' T = none ∧ Xc s'.heap ea T cls .none ∧ E cls none H'
section
variable {X : Cx} {pins : List (Addr × Obj)} {σ : St} {H : Hp} {s : Shared}
/-! ### raise C(..), C a class of the text -/
def tRaise (C : Addr) (E : XK) (t : TA) : TS := fun _ σ H => t σ H fun vs H1 => vs.length ≤ sizeLine ∧ E (.ref C) none H1
end
end L2

set_option Elab.async false
set_option linter.all false
set_option maxRecDepth 100000
set_option maxHeartbeats 1000000
namespace L2
open PySem PySem.Spec PyProof.Rows
section
variable {X : Cx} {pins : List (Addr × Obj)} {σ : St} {H : Hp} {s : Shared}
/-- within an except suite -/
abbrev Cx.caught (X : Cx) (e : Addr) : Cx := { X with A := X.A.mark (some (.ref e)), calm := false, xe := fun _ _ => False }
end
section
variable {X : Cx}
/-! ### try: .. except C: .. (no name) -/
def xCatch (C : Addr) (ts : TS) (D : Ends) (n : Nat) : XK := fun cls _ H => cls = .ref C ∧ ∀ σ : St, σ.length = n → ts D σ H
def tTry (C : Addr) (tb : XK → TS) (ts : TS) : TS := fun D σ H => tb (xCatch C ts D σ.length) D σ H
end
/-! ### defs and methods that may raise -/
structure OwnX (P : Program) (w : World) (K : PySem.W.Frag) (mg : Str → Option Value) (base : Heap) (x : Str) (k : Nat) (ps : List Str) (sp : Sp) : Prop where
  ex : ∃ f fd, FnOk P w K mg base (CX1 P w) k f fd ps sp ∧ mg x = some (.ref f) ∧ PySem.W.keepIn K (.ref f) = true ∧ ∀ us : List Value, us.length = ps.length → bindArgs fd ⟨us, []⟩ = pure (ps.zip us)
structure OwnMX (P : Program) (w : World) (K : PySem.W.Frag) (mg : Str → Option Value) (base : Heap) (C : Addr) (m : Str) (k : Nat) (ps : List Str) (sp : Sp) : Prop where
  ex : ∃ f fd, FnOk P w K mg base (CX1 P w) k f fd ps sp ∧ Meth K C m f ∧ ∀ us : List Value, us.length = ps.length → bindArgs fd ⟨us, []⟩ = pure (ps.zip us)
section
variable {P : Program} {w : World} {K : PySem.W.Frag} {mg : Str → Option Value} {base : Heap} {C : Addr}
end
def tOwnX (sp : Sp) (E : XK) (t : TA) : TE := fun σ H Q => t σ H fun vs H1 => sp vs H1 Q E
def tOwnMX (C : Addr) (m : Str) (sp : Sp) (E : XK) (ta : TE) (t : TA) : TE := fun σ H Q => ta σ H fun x H1 => ∃ a dx fs, x = .ref a ∧ H1 a = some (.ins C dx fs) ∧ fs.lookup m = none ∧ t σ H1 fun vs H2 => sp (x :: vs) H2 Q E
section
variable {X : Cx}
/-- o.m() with no argument, of a method that doesn't raise -/
def tOwnM0 (C : Addr) (m : Str) (sp : Sp) (ta : TE) : TE := fun σ H Q => ta σ H fun x H1 => ∃ a dx fs, x = .ref a ∧ H1 a = some (.ins C dx fs) ∧ fs.lookup m = none ∧ sp [x] H1 Q E0
end
end L2

set_option Elab.async false
set_option linter.all false
set_option maxRecDepth 100000
set_option maxHeartbeats 1000000
namespace L2
open PySem PySem.Spec PyProof.Rows _root_.Own
/-! ### d.values(), list(d.values()) -/
def VaV (v d : Addr) : HO := .ext fun h => h.IsValuesView v d
section
variable {X : Cx}
/-! ### sorted(d), the keys ints -/
def gSortY (d : Addr) (H : Hp) (Q : VK) : Prop := ∃ (ns : List Int) (kvs : List (Key × V)), Rd H d (.dK kvs) ∧ kvs.map (·.1) = ns.map Sum.inl ∧ ns.length < 64 ∧ ∀ ns' : List Int, ns'.Perm ns → ns'.Pairwise (· < ·) → ∀ p, H p = none → Q (.ref p) (upd H p (.lst (ns'.map V.int)))
/-! ### d.setdefault(k, v), the key an int or a text -/
def rSetD : V → List V → Hp → VK → Prop := fun x xs H Q => ∃ a kvs k v, x = .ref a ∧ H a = some (.dK kvs) ∧ xs = [kV k, v] ∧ kvs.length < sizeLine ∧ (∀ u, valV kvs k = some u → Q u H) ∧ (valV kvs k = none → Q v (upd H a (.dK (putK kvs k v))))
theorem mt_setdef : MtM X "dict.setdefault" rSetD := by
  intro pins s σ H x xs v us Q I rx rs h
  obtain ⟨a, kvs, k, v0, rfl, ha, rfl, hz, q1, q2⟩ := h
  cases rx
  obtain ⟨u, r, rfl, ru, rr⟩ := Vals.two rs
  obtain ⟨z, hd, vs, rel, dd⟩ := dk_of I.hok ha
  refine call_meetsIn PySem.F.slot_dict_setdefault dd.typeIs PySem.F.entry_dict_setdefault (PySem.F.args_dict_setdefault_3 _ _ _) (kt_meets_setdefault (mixKind X.prog X.w) a (kV_is ru) hd r) ⟨vs, dd, by rw [← rel.length]; exact z, fun w' hw => ?_, fun hn h' dd' hs => ?_⟩
  · obtain ⟨o, ho, ro⟩ : ∃ o, valV kvs k = some o ∧ RelV o w' := by
      have := rel.val k
      rw [hw] at this
      cases e : valV kvs k with
      | none => rw [e] at this; exact this.elim
      | some o => rw [e] at this; exact ⟨o, rfl, this⟩
    exact ⟨o, H, I.tok _, ro, q1 o ho⟩
  · have hn' : valV kvs k = none := by
      have := rel.val k
      rw [hn] at this
      cases e : valV kvs k with
      | none => rfl
      | some o => rw [e] at this; exact this.elim
    have he : ∃ q, h'.get? a = some q := let ⟨q, _, _, hq, _⟩ := dd'; ⟨q, hq⟩
    have hl : (putK kvs k v0).length ≤ sizeLine := by have := length_putK kvs k v0; omega
    exact ⟨v0, _, d_write I (by rw [ha]; exact True.intro) hs he (dk_new hl hd (rel.put k rr) dd'), rr, q2 hn'⟩
/-! ### max, methods without arguments -/
theorem call_maxG (hc : X.calm = true := by rfl) : CallR X (.builtin "max") (fun xs H Q => match xs with | [.int i, .int j] => Q (.int (if i < j then j else i)) H | _ => False) := (call_max2 hc).imp fun xs H Q h => by
  split at h
  · exact ⟨_, _, rfl, h⟩
  · exact h.elim
end
end L2
namespace L2
open PySem PySem.Spec PyProof.Rows
/-! ### classes of the text: their making -/
structure CtorAt (K : PySem.W.Frag) (mg : Str → Option Value) (C : Addr) (x qual : Str) (st : Stmt) (ps : List Str) : Prop where
  ex : ∃ f fd, Mk K C f ∧ Fun K "__init__" qual st f fd ∧ mg x = some (.ref C) ∧ ∀ us : List Value, us.length = ps.length → bindArgs fd ⟨us, []⟩ = pure (ps.zip us)
structure OwnC (P : Program) (w : World) (K : PySem.W.Frag) (mg : Str → Option Value) (base : Heap) (C : Addr) (x : Str) (k : Nat) (ps : List Str) (sp : Sp) : Prop where
  ex : ∃ f fd, Mk K C f ∧ FnOk P w K mg base CX0 k f fd ps sp ∧ mg x = some (.ref C) ∧ ∀ us : List Value, us.length = ps.length → bindArgs fd ⟨us, []⟩ = pure (ps.zip us)
theorem CtorAt.own {P : Program} {w : World} {K : PySem.W.Frag} {mg : Str → Option Value} {base : Heap} {C : Addr} {x qual : Str} {st : Stmt} {N ps : List Str} {k : Nat} {sp : Sp} (D : CtorAt K mg C x qual st ps) (S : FnScope N ps (defScope st)) (len : ∀ vs H Q E, sp vs H Q E → vs.length = ps.length)
    (hbody : ∀ (f : Addr) (cdv : Value) (A : Around) (outer : List Env) (s : Shared) (H : Hp) (vs : List V) (Q : VK) (E : XK), Room k (A.deeper (envOfC qual (defScope st) s.heap.objs.size f cdv)) → sp vs H Q E →
      ∃ t, PSs (cxOf CX0 P w K mg base N qual (defScope st) f cdv A outer s H E).nox (defBody st) t ∧ t { nx := fun _ H' => Q .non H', rt := Q } (start N vs) H) : OwnC P w K mg base C x (k + 1) ps sp := by
  obtain ⟨f, fd, M, F, hm, hb⟩ := D.ex
  exact ⟨f, fd, M, F.ok S len (hbody f), hm, hb⟩
end L2
namespace L2
open PySem PySem.Spec PyProof.Rows
/-! ### for k, v in E.items(), E a dict of its own -/
def iItemsF (tl : TE) : TI := fun σ H R => tl σ H fun x H1 => ∃ d kvs, x = .ref d ∧ H1 d = some (.dK kvs) ∧ ∀ v o, H1 v = none → R (Itm d o kvs) (upd (upd H1 v (ItV v d)) d (.frz o (.dK kvs)))
end L2

set_option Elab.async false
set_option linter.all false
set_option maxRecDepth 100000
set_option maxHeartbeats 1000000
namespace L2
open PySem PySem.Spec PyProof.Rows
/-! ### slices of texts, of anything -/
def cutS (x : Str) (lo hi : Option Int) : Str := if ((Builtin.Str.strSliceIndices lo hi 1 x.length).length == x.length) = true then x else ⟨((Builtin.Str.strSliceIndices lo hi 1 x.length).filterMap (x.cps[·]?)).toArray⟩
section
variable {X : Cx}
theorem part_some {v : Value} {o : Option Int} (p : IsPart v o) : ∃ l : Option (Int × Tok), v = partValue l ∧ l.map (·.1) = o := by
  cases p with
  | none => exact ⟨none, rfl, rfl⟩
  | int i t => exact ⟨some (i, t), rfl, rfl⟩
theorem sl_str : SlR X (fun x lo hi H Q => ∃ z, x = .str z ∧ (cutS z lo hi).length ≤ sizeLine ∧ Q (.str (cutS z lo hi)) H) := by
  intro pins s σ H x v vl vu lo hi sl Q I rx hs pl pu h
  obtain ⟨z, rfl, hz, q⟩ := h
  obtain ⟨t, rfl⟩ := rx
  obtain ⟨l, rfl, rfl⟩ := part_some pl
  obtain ⟨u, rfl, rfl⟩ := part_some pu
  refine ⟨"str", _, PySem.F.slot_str_getitem.lookup, typeIs_str _ _ _, ?_⟩
  refine wpAny_getItem_str_slice (l := l) (u := u) (st := none) hs rfl ?_
  unfold sliceMade slicePicked
  unfold cutS at q hz
  by_cases c : ((Builtin.Str.strSliceIndices (l.map (·.1)) (u.map (·.1)) 1 z.length).length == z.length) = true
  · rw [if_pos c] at q
    rw [if_pos (by simpa using c)]
    exact ⟨.str z, H, I, ⟨t, rfl⟩, q⟩
  · rw [if_neg c] at q hz
    rw [if_neg (by simpa using c)]
    exact ⟨hz, .str _, H, I.tok _, ⟨_, rfl⟩, q⟩
def gSl (K : PySem.W.Frag) : V → Option Int → Option Int → Hp → VK → Prop := fun x lo hi H Q => match x with
  | .str z => (cutS z lo hi).length ≤ sizeLine ∧ Q (.str (cutS z lo hi)) H
  | .ref a => (∃ xs, SqL K H a xs ∧ ∀ p, H p = none → Q (.ref p) (upd H p (.lst (cutV xs lo hi)))) ∨ rSlT K (.ref a) lo hi H Q
  | _ => False
theorem slG : SlR X (gSl X.K) := by
  intro pins s σ H x v vl vu lo hi sl Q I rx hs pl pu h
  unfold gSl at h
  split at h
  · exact sl_str pins s σ H _ v vl vu lo hi sl Q I rx hs pl pu ⟨_, rfl, h.1, h.2⟩
  · rcases h with ⟨xs, h1, h2⟩ | h
    · exact sl_list pins s σ H _ v vl vu lo hi sl Q I rx hs pl pu ⟨_, xs, rfl, h1, h2⟩
    · exact sl_tup pins s σ H _ v vl vu lo hi sl Q I rx hs pl pu h
  · exact h.elim
end
/-! ### range with a step -/
def Its (lo st : Int) (n : Nat) : It := ⟨fun i _ => i < n, fun i H x H' => H' = H ∧ x = .int (lo + i * st), fun i _ => n ≤ i⟩
/-- range(0, j, 2), j small -/
def iRngS (ta : TA) : TI := fun σ H R => ta σ H fun vs H1 => ∃ j : Nat, vs = [.int 0, .int j, .int 2] ∧ j < 100 ∧ R (Its 0 2 ((j + 1) / 2)) H1
section
variable {X : Cx} {tg : Expr}
end
end L2

set_option Elab.async false
set_option linter.all false
set_option maxRecDepth 100000
set_option maxHeartbeats 1000000
namespace L2
open PySem PySem.Spec PyProof.Rows
/-! ### d.setdefault(k, v), the key a tuple -/
section
variable {prog : Program} {w : World} {K : Type} [DecidableEq K] {knd : HeapKind prog w K} {A : Around} {E : Value → Shared → Prop} {s : Shared}
theorem sd_heap {d b : Addr} {xs : List (K × Addr × Value)} {k : K} {r : Value} {Q : Value → Shared → Prop} (hu : knd.room A) (kb : knd.is s.heap k b) (dm : s.heap.DictOfH knd d xs) (zl : xs.length ≤ sizeLine)
    (q1 : ∀ p, atKey xs k = some p → Q p.2 { s with toks := s.toks + knd.draws k })
    (q2 : atKey xs k = none → ∀ h', h'.DictOfH knd d (storedH xs k b r) → Heap.SameBut d s.heap h' → Q r { s with heap := h', toks := s.toks + knd.draws k }) :
    wpAny (model prog w) A (dictSetDefault d (.ref b) r) Q E s := by
  obtain ⟨ob, es, ep, eo, ex, ed, ee, al, nd⟩ := dm
  unfold dictSetDefault
  try with_reducible refine wpAny_holding ?_
  refine wpAny_bind (knd.pyHash hu kb (wpAny_bind (wpAny_dictFind_heap (s := { s with toks := s.toks + knd.draws k }) hu kb eo ed ee al nd (fun no => ?_) fun j p at_ => ?_)))
  · have an := atKey_none_of_get no
    have nk : k ∉ xs.map (·.1) := not_mem_keys_of_get no
    have sz := size_of_entries ee
    refine wpAny_bind (wpAny_rule (wpAny_bind (wpAny_updateDictKeys (hz := by omega) (s := { s with toks := s.toks + knd.draws k }) eo ed (wpAny_pure (q2 an _ ⟨_, _, ep + 1, Heap.get?_update_self _ eo (Obj.isFreed_of_dict (Obj.data_mapDictKeys ed _)),
      ex.mapDictKeys _, Obj.data_mapDictKeys ed _, ?_, ?_, ?_⟩ (Heap.SameBut.update ..))))))
    · rw [storedH_new an]; simp [ee, entryOfKey]
    · rw [storedH_new an]
      intro x hx
      rcases List.mem_append.mp hx with y | y
      · exact knd.keeps (al x y) eo ed (Heap.SameBut.update ..)
      · rw [List.mem_singleton] at y; rw [y]
        exact knd.keeps kb eo ed (Heap.SameBut.update ..)
    · rw [storedH_new an, List.map_append, List.nodup_append]
      refine ⟨nd, by simp, fun x hx y hy z => nk ?_⟩
      have hy : y = k := by simpa using hy
      rw [← hy, ← z]; exact hx
  · refine wpAny_bind (wpAny_dictEntries (s := { s with toks := s.toks + knd.draws k }) eo ed ?_)
    rw [entry_at ee j, at_]
    exact wpAny_bind (wpAny_rule (wpAny_pure (q1 p (atKey_of_get nd at_))))
theorem meets_sd (knd : HeapKind prog w K) (d b : Addr) (lo : (d == sysModules) = false) (r : Value) (ty : ∀ s : Shared, (∃ xs, s.heap.DictOfH knd d xs) → s.TypeIs (.ref d) "dict") :
    MeetsIn prog w (Builtin.«dict.setdefault» ⟨[.ref d, .ref b, r], []⟩) (fun A R s => knd.room A.in1 ∧ ∃ k xs, knd.is s.heap k b ∧ s.heap.DictOfH knd d xs ∧ xs.length ≤ sizeLine ∧
      (∀ p, atKey xs k = some p → R (.ok (.ret p.2)) { s with toks := s.toks + knd.draws k }) ∧
      (atKey xs k = none → ∀ h', h'.DictOfH knd d (storedH xs k b r) → Heap.SameBut d s.heap h' → R (.ok (.ret r)) { s with heap := h', toks := s.toks + knd.draws k })) :=
  .of_wp fun A R s ⟨hu, k, xs, kb, dm, zl, r1, r2⟩ => by
    unfold Builtin.«dict.setdefault»
    refine wpAny_bind ?_
    unfold Builtin.Dict.keyAndDefault
    refine wpAny_bind (wpAny_notOrdered_dict (ty s ⟨xs, dm⟩) ?_)
    show wpAny _ _ (pure (d, Value.ref b, some r)) _ _ s
    refine wpAny_pure ?_
    show wpAny _ _ (if (d == sysModules) = true then _ else (dictSetDefault d (.ref b) r >>= _)) _ _ s
    rw [if_neg (by rw [lo]; exact Bool.false_ne_true)]
    exact wpAny_bind (sd_heap hu kb dm zl (fun p hp => wpAny_pure ⟨_, rfl, r1 p hp⟩) fun an h' dm' sb => wpAny_pure ⟨_, rfl, r2 an h' dm' sb⟩)
end
section
variable {X : Cx} {pins : List (Addr × Obj)} {σ : St} {H : Hp} {s : Shared}
def rSetT : V → List V → Hp → VK → Prop := fun x xs H Q => ∃ a kvs k b v, x = .ref a ∧ H a = some (.dT kvs) ∧ xs = [.ref b, v] ∧ H b = some (.tup (k.map kV)) ∧ kvs.length < sizeLine ∧ (∀ u, valV kvs k = some u → Q u H) ∧ (valV kvs k = none → Q v (upd H a (.dT (putK kvs k v))))
theorem mt_setT {j : Nat} (hr : Room j X.A) : MtM X "dict.setdefault" rSetT := by
  intro pins s σ H x xs v us Q I rx rs h
  obtain ⟨a, kvs, k, b, v0, rfl, ha, rfl, hb, hz, q1, q2⟩ := h
  cases rx
  obtain ⟨u, r, rfl, ru, rr⟩ := Vals.two rs
  cases (show u = Value.ref b from ru)
  have hu := hr.units
  obtain ⟨z, hd, xs, rel, dd⟩ := dt_of I.hok ha
  have hl := Paired.length rel
  refine call_meetsIn PySem.F.slot_dict_setdefault dd.typeIs PySem.F.entry_dict_setdefault (PySem.F.args_dict_setdefault_3 _ _ _) (meets_sd (tupleKind (mixKind X.prog X.w)) a b hd r fun s ⟨_, d1⟩ => d1.typeIs)
    ⟨tupleKind_room_in1 (by omega), k, xs, key_of I.hok hb, dd, by omega, fun p hp => ?_, fun hn h' dd' hs => ?_⟩
  · have := rel.val k
    rw [hp] at this
    cases e : valV kvs k with
    | none => rw [e] at this; exact this.elim
    | some o => rw [e] at this; exact ⟨o, H, I.tok _, this, q1 o e⟩
  · have hn' : valV kvs k = none := by
      have := rel.val k
      rw [hn] at this
      cases e : valV kvs k with
      | none => rfl
      | some o => rw [e] at this; exact this.elim
    obtain ⟨q, es, ep, hq, h2, h3, h4, _, h5⟩ := dd'
    have zl : (putK kvs k v0).length ≤ sizeLine := by have := length_putK kvs k v0; omega
    refine ⟨v0, upd H a (.dT (putK kvs k v0)), d_write I (by rw [ha]; exact True.intro) hs ⟨q, hq⟩ (show ObjOk X.prog X.w (upd H a (.dT (putK kvs k v0))) h' a (.dT (putK kvs k v0)) from ⟨zl, hd, _, (rel.put k hb rr).keeps fun c ys ec => ?_, q, es, ep, hq, h2, h3, h4, h5⟩), rr, q2 hn'⟩
    rw [upd_ne (ne_of ec ha (fun z => nomatch z))]
    exact ec
end
/-! ### list(d), the keys tuples -/
def EnsAt (h : Heap) (d : Addr) (es : Array DictEntry) (ep : Nat) : Prop := ∃ o, h.get? d = some o ∧ o.ExactDict ∧ o.data = .dict es ep
theorem EnsAt.keep {h h' : Heap} {d : Addr} {es : Array DictEntry} {ep : Nat} (x : EnsAt h d es ep) (k : ∀ o, h.get? d = some o → h'.get? d = some o) : EnsAt h' d es ep := let ⟨o, a, r⟩ := x; ⟨o, k o a, r⟩
theorem EnsAt.lt {h : Heap} {d : Addr} {es : Array DictEntry} {ep : Nat} (x : EnsAt h d es ep) : d < h.objs.size := let ⟨_, a, _⟩ := x; Heap.lt_size a
theorem EnsAt.ty {s : Shared} {d : Addr} {es : Array DictEntry} {ep : Nat} (x : EnsAt s.heap d es ep) : s.TypeIs (.ref d) "dict" := let ⟨o, a, b, _⟩ := x; ⟨o, a, b.1⟩
section
variable {prog : Program} {w : World} {A : Around} {E : Value → Shared → Prop} {s : Shared} {d it : Addr} {es : Array DictEntry} {ep i : Nat}
theorem ent_iter {Q : Value → Shared → Prop} (lo : (d == sysModules) = false) (m : EnsAt s.heap d es ep)
    (q : Q (.ref s.heap.objs.size) { s with heap := s.heap.push { cls := .type "dict_keyiterator", data := .fields #[.ref d, .int 0 0, .int es.size 0, .int ep 0] } }) : wpAny (model prog w) A (pyIter (.ref d)) Q E s := by
  have T := m.ty
  obtain ⟨ob, e1, e2, e3⟩ := m
  refine wpAny_pyIter_slot T PySem.F.slot_dict_iter (wpAny_call_entry PySem.F.slot_dict_iter T PySem.F.entry_dict_iter ?_ (PySem.F.args_dict_iter_1 _))
  unfold Builtin.«dict.__iter__»
  refine wpAny_bind ?_
  unfold Builtin.Dict.dictSlotNone
  refine wpAny_bind (wpAny_notOrdered_dict T ?_)
  show wpAny _ _ (pure (Value.ref d)) _ _ s
  refine wpAny_pure ?_
  show wpAny _ _ (Builtin.Dict.showsAll d >>= _) _ _ s
  unfold Builtin.Dict.showsAll
  rw [if_neg (by rw [lo]; exact Bool.false_ne_true)]
  refine wpAny_bind (wpAny_pure (wpAny_bind (wpAny_dictEntries e1 e3 (wpAny_bind (wpAny_dictEpoch e1 e3 ?_)))))
  refine wpAny_bind (wpAny_newObj_type (wpAny_pure ⟨_, rfl, "dict_keyiterator", _, ⟨_, Heap.get?_push_size _ rfl, rfl⟩, PySem.F.slot_dict_keyiterator_next.lookup, ?_⟩))
  simpa [rawInt] using q
theorem ent_next {Q : Option Value → Shared → Prop} {e : DictEntry} (hi : s.heap.IsKeyIter it d i es.size ep) (m : EnsAt s.heap d es ep) (hx : es[i]? = some e)
    (q : ∀ h', h'.IsKeyIter it d (i + 1) es.size ep → Heap.SameBut it s.heap h' → Q (some e.key) { s with heap := h' }) : wpAny (model prog w) A (pyNext (.ref it)) Q E s := by
  have T := hi.typeIs
  obtain ⟨o, a1, a2, a3⟩ := id hi
  obtain ⟨od, e1, _, e3⟩ := id m
  obtain ⟨lt, ei⟩ := Array.getElem?_eq_some_iff.mp hx
  unfold pyNext
  refine wpAny_bind (wpAny_attempt (wpAny_callSpecial?_slot (name := Str.ofString "__next__") T PySem.F.slot_dict_keyiterator_next
    (wpAny_call_entry PySem.F.slot_dict_keyiterator_next T PySem.F.entry_dict_keyiterator_next ?_ (PySem.F.args_dict_keyiterator_next_1 _))))
  refine wpAny_bind (wpAny_pure (wpAny_bind (wpAny_bind ?_)))
  first | refine wpAny_bind (wpAny_typeNameOfWhole_keyiter T (wpAny_pure ?_)) | refine wpAny_bind (wpAny_typeNameOf_keyiter T (wpAny_pure ?_))
  refine wpAny_bind (wpAny_fieldsOf a1 a3 ?_)
  have ow : Builtin.Dict_items.ownsTuple "dict_keyiterator" = false := by decide
  simp only [ow, Bool.false_eq_true, if_false]
  show wpAny _ _ (if (Value.ref d == Value.none) = true then _ else _) _ _ s
  rw [if_neg (show ¬ ((Value.ref d == Value.none) = true) from fun z => Bool.false_ne_true z)]
  refine wpAny_bind (wpAny_pure (wpAny_bind (wpAny_dictEntries e1 e3 ?_)))
  rw [if_neg (by simp)]
  refine wpAny_bind (wpAny_pure (wpAny_bind (wpAny_dictEpoch e1 e3 ?_)))
  rw [if_neg (by simp)]
  refine wpAny_pure ?_
  simp only [show ¬ ((i : Int) < 0) from by omega, if_false, Int.toNat_natCast, hx]
  refine wpAny_bind ?_
  first | refine wpAny_bind (wpAny_typeNameOfWhole_keyiter T (wpAny_pure ?_)) | refine wpAny_bind (wpAny_typeNameOf_keyiter T (wpAny_pure ?_))
  refine wpAny_bind (wpAny_isOneOf_keyiter T ?_)
  show wpAny _ _ (setField (.ref it) 1 (rawInt ((i : Int) + 1)) >>= _) _ _ s
  refine wpAny_bind (wpAny_setField a1 a3 (by simp) ?_)
  have hj : (s.heap.update it (Obj.mapFields (·.setIfInBounds 1 (rawInt ((i : Int) + 1))))).IsKeyIter it d (i + 1) es.size ep :=
    ⟨_, Heap.get?_update_self _ a1 (Obj.isFreed_of_fields (Obj.data_mapFields a3 _)), (Obj.cls_mapFields ..).trans a2, by rw [Obj.data_mapFields a3]; simp [rawInt]⟩
  refine wpAny_bind (wpAny_holding (wpAny_bind (wpAny_isOneOf_keyiter (s := { s with heap := s.heap.update it (Obj.mapFields (·.setIfInBounds 1 (rawInt ((i : Int) + 1)))) }) hj.typeIs ?_)))
  show wpAny _ _ (pure e.key) _ _ _
  exact wpAny_pure (wpAny_pure ⟨_, rfl, wpAny_pure (q _ hj (Heap.SameBut.update ..))⟩)
theorem ent_end {Q : Option Value → Shared → Prop} (hh : A.handled = none) (hi : s.heap.IsKeyIter it d i es.size ep) (m : EnsAt s.heap d es ep) (hx : es.size ≤ i)
    (q : ∀ h', Heap.ExtBut it s.heap h' → Q none { s with heap := h' }) : wpAny (model prog w) A (pyNext (.ref it)) Q E s := by
  have T := hi.typeIs
  obtain ⟨o, a1, a2, a3⟩ := id hi
  obtain ⟨od, e1, _, e3⟩ := id m
  unfold pyNext
  refine wpAny_bind (wpAny_attempt (wpAny_callSpecial?_slot (name := Str.ofString "__next__") T PySem.F.slot_dict_keyiterator_next
    (wpAny_call_entry PySem.F.slot_dict_keyiterator_next T PySem.F.entry_dict_keyiterator_next ?_ (PySem.F.args_dict_keyiterator_next_1 _))))
  refine wpAny_bind (wpAny_pure (wpAny_bind (wpAny_bind ?_)))
  first | refine wpAny_bind (wpAny_typeNameOfWhole_keyiter T (wpAny_pure ?_)) | refine wpAny_bind (wpAny_typeNameOf_keyiter T (wpAny_pure ?_))
  refine wpAny_bind (wpAny_fieldsOf a1 a3 ?_)
  have ow : Builtin.Dict_items.ownsTuple "dict_keyiterator" = false := by decide
  simp only [ow, Bool.false_eq_true, if_false]
  show wpAny _ _ (if (Value.ref d == Value.none) = true then _ else _) _ _ s
  rw [if_neg (show ¬ ((Value.ref d == Value.none) = true) from fun z => Bool.false_ne_true z)]
  refine wpAny_bind (wpAny_pure (wpAny_bind (wpAny_dictEntries e1 e3 ?_)))
  rw [if_neg (by simp)]
  refine wpAny_bind (wpAny_pure (wpAny_bind (wpAny_dictEpoch e1 e3 ?_)))
  rw [if_neg (by simp)]
  refine wpAny_pure ?_
  simp only [show ¬ ((i : Int) < 0) from by omega, if_false, Int.toNat_natCast, Array.getElem?_eq_none hx]
  refine wpAny_bind ?_
  first | refine wpAny_bind (wpAny_typeNameOfWhole_keyiter T (wpAny_pure ?_)) | refine wpAny_bind (wpAny_typeNameOf_keyiter T (wpAny_pure ?_))
  show wpAny _ _ (setField (.ref it) 0 .none >>= _) _ _ s
  refine wpAny_bind (wpAny_setField a1 a3 (by simp) ?_)
  show wpAny _ _ (newExc (.type "StopIteration") [] >>= _) _ _ _
  refine wpAny_bind ?_
  simp only [newExc, newTuple]
  refine wpAny_bind (wpAny_newObj_type ?_ (by size_fits))
  refine wpAny_bind (m := firstArgMember _ _) (wpAny_of_eq (a := Value.none) (by first | rfl | (simp only [firstArgMember]; rfl)) (wpAny_newObj_type ?_ (by size_fits)))
  simp only [raiseNew]
  refine wpAny_bind (wpAny_handled ?_)
  rw [show A.in1.handled = none from hh]
  refine wpAny_bind (wpAny_pure (wpAny_throw ?_))
  refine wpAny_bind (wpAny_isInstance (T := "StopIteration") (b := true) ⟨_, Heap.get?_push_size _ rfl, rfl⟩ PySem.isSubtype_stop ?_)
  exact wpAny_pure (q _ (((Heap.SameBut.update ..).extBut.push _).push _))
theorem ent_walks (hh : A.handled = none) (ne : d ≠ it) (es : Array DictEntry) (ep : Nat) :
    Walks prog w A it [it, d] [it] es.size (fun i v => ∃ e, es[i]? = some e ∧ v = e.key) (fun i h => h.IsKeyIter it d i es.size ep ∧ EnsAt h d es ep) where
  sub := fun b z => by simp at z; simp [z]
  frame := fun _ _ _ st k => ⟨let ⟨o, a, r⟩ := st.1; ⟨o, k it (by simp) o a, r⟩, st.2.keep fun o z => k d (by simp) o z⟩
  item := fun i s Q E hi st q => by
    refine ent_next st.1 st.2 (Array.getElem?_eq_getElem hi) fun h' h1 h2 => ?_
    exact q _ h' s.toks ⟨_, Array.getElem?_eq_getElem hi, rfl⟩ ⟨h1, st.2.keep fun o z => h2.extBut d o ne z⟩ fun b o hb z => h2.extBut b o (fun y => hb (by simp [y])) z
  done := fun s Q E st q => ent_end hh st.1 st.2 (Nat.le_refl _) fun h' h1 => q h' s.toks fun b o hb z => h1 b o (fun y => hb (by simp [y])) z
  self := fun _ _ _ _ st q => wpAny_pyIter_keyiter st.1 q
theorem ent_src (lo : (d == sysModules) = false) : PySem.W.KdlSrc prog w "dict" d d es.size (fun i v => ∃ e, es[i]? = some e ∧ v = e.key) (fun h => EnsAt h d es ep) where
  type := fun _ m => m.ty
  there := fun _ m => ⟨m.lt, m.lt⟩
  keep := fun _ _ m k => m.keep fun o z => k d (.inl rfl) o z
  notList := by decide
  notTuple := by decide
  hint := fun _ _ _ _ m q => PySem.W.kdl_hint_dict m.ty q
  iter := fun _ _ hh m => ⟨_, _, (fun _ _ q => ent_iter lo m q), ent_walks hh (Nat.ne_of_lt m.lt) es ep, ⟨⟨_, Heap.get?_push_size _ rfl, rfl, rfl⟩, m.keep fun o z => Heap.get?_push_of_some _ z⟩⟩
end
section
variable {X : Cx} {pins : List (Addr × Obj)} {σ : St} {H : Hp} {s : Shared}
/-- each u is a tuple that holds its key -/
def KeyRef (H : Hp) (k : List Key) (u : V) : Prop := ∃ b, u = .ref b ∧ H b = some (.tup (k.map kV))
theorem call_listT (hc : X.calm = true := by rfl) : CallR X (.type "list") (fun xs H Q => ∃ p kvs, xs = [.ref p] ∧ Rd H p (.dT kvs) ∧ ∀ us, Paired (KeyRef H) (kvs.map (·.1)) us → ∀ l, H l = none → Q (.ref l) (upd H l (.lst us))) := by
  intro pins s σ H xs us Q I r h
  obtain ⟨p, kvs, rfl, z, q⟩ := h
  obtain ⟨u, rfl, ru⟩ := vals1 r
  cases ru
  obtain ⟨hz, lo, xs, rel, o, es, ep, h1, h2, h3, h4, h5, h6⟩ := dt_rd I.hok z
  have hl : kvs.length = xs.length := Paired.length rel
  have hs : es.size = xs.length := by have := congrArg List.length h4; simpa using this
  refine PySem.W.kdl_call (ent_src (es := es) (ep := ep) lo) (I.ok.hd hc) ⟨o, h1, h2, h3⟩ (by omega) fun h' tk acc c k hL hacc => ?_
  have hn := I.hok.fresh (Nat.le_refl s.heap.objs.size)
  have el : ∀ j : Nat, es[j]? = (xs[j]?).map (entryOfKey (tupleKind (mixKind X.prog X.w))) := fun j => entry_at h4 j
  have ha : acc.toList.length = xs.length := by rw [Array.length_toList, hacc.1]; exact hs
  have ac : ∀ (j : Nat) (b : Value), acc.toList[j]? = some b → ∃ x, xs[j]? = some x ∧ b = .ref x.2.1 := fun j b e => by
    obtain ⟨e2, g1, g2⟩ := hacc.2 j b (by rw [← Array.getElem?_toList]; exact e)
    rw [el j] at g1
    cases ex : xs[j]? with
    | none => rw [ex] at g1; cases g1
    | some x => rw [ex] at g1; cases g1; exact ⟨x, rfl, g2⟩
  have PK : Paired (KeyRef H) (kvs.map (·.1)) (xs.map fun x => V.ref x.2.1) := paired_of (by simp [hl]) fun j a b e1 e2 => by
    rw [List.getElem?_map] at e1 e2
    cases ek : kvs[j]? with
    | none => rw [ek] at e1; cases e1
    | some kv =>
      cases ex : xs[j]? with
      | none => rw [ex] at e2; cases e2
      | some x =>
        rw [ek] at e1; rw [ex] at e2; cases e1; cases e2
        have := paired_get (show Paired _ _ _ from rel) ek ex
        exact ⟨x.2.1, rfl, this.2.1⟩
  refine ⟨.ref s.heap.objs.size, _, I.laid (t' := tk) (o := .lst (xs.map fun x => V.ref x.2.1)) k (Nat.le_refl _) ⟨by rw [List.length_map]; omega, acc.toList, c, ?_, by simpa using hL⟩, rfl, q _ PK _ hn⟩
  refine paired_of (by rw [List.length_map]; omega) fun j a b e1 e2 => ?_
  obtain ⟨x, ex, eb⟩ := ac j b e2
  rw [List.getElem?_map, ex] at e1
  cases e1
  rw [eb]; rfl
/-! ### set(list of ints), its len -/
theorem call_setG (hc : X.calm = true := by rfl) : CallR X (.type "set") (fun xs H Q => ∃ (l : Addr) (ns : List Int), xs = [.ref l] ∧ SqL X.K H l (ns.map V.int) ∧ ns.length < 4000 ∧ ∀ p, H p = none → Q (.ref p) (upd H p (.set (fun k => (firstMet (fun i => ns.getD i 0) ns.length).any (· == k)) (firstMet (fun i => ns.getD i 0) ns.length).length))) := by
  intro pins s σ H xs us Q I r h
  obtain ⟨l, ns, rfl, hl, hz, q⟩ := h
  obtain ⟨u, rfl, ru⟩ := vals1 r
  cases ru
  obtain ⟨its, rv, pl, _⟩ := I.list hl
  have len : ns.length = its.length := by have := rv.length; simpa using this
  have sz : its.toArray.size = ns.length := by simp [len]
  refine PySem.call_set_list (items := its.toArray) (ns := ns) (I.ok.hd hc) pl.isList (by simpa using intsAre_of rv) (by rw [sz]; show ns.length + 1 < 4096; omega) fun h' tk hS k => ?_
  rw [sz] at hS
  have hn := I.hok.fresh (Nat.le_refl s.heap.objs.size)
  exact ⟨.ref s.heap.objs.size, _, I.laid (t' := tk) (o := .set (fun k => (firstMet (fun i => ns.getD i 0) ns.length).any (· == k)) (firstMet (fun i => ns.getD i 0) ns.length).length) (fun b o e => k b o (Heap.lt_size e) e) (Nat.le_refl _) hS, rfl, q _ hn⟩
theorem call_lenS : CallR X (.builtin "len") (fun xs H Q => ∃ a S n, xs = [.ref a] ∧ H a = some (.set S n) ∧ n < 4000 ∧ Q (.int n) H) := by
  intro pins s σ H xs us Q I r h
  obtain ⟨a, S, n, rfl, ha, hz, q⟩ := h
  obtain ⟨u, rfl, ru⟩ := vals1 r
  cases ru
  obtain ⟨o, es, ep, t, e1, e2, e3, _, _, _, e4, e5⟩ := (show ObjOk X.prog X.w H s.heap a (.set S n) from I.hok a _ ha)
  refine PySem.call_len_set e1 e2 e3 e4 (by rw [e5]; omega) ⟨.int n, H, I.tok _, ⟨_, by rw [e5]⟩, q⟩
/-! ### for i, x in enumerate(l, start=1) -/
theorem for_enum {K : PySem.W.Frag} {a : Addr} {xs : List V} {g : TG} {tb : TS} {D : Ends} {σ : St} {H : Hp} (Pv : Nat → St → Hp → Prop) (h0 : Pv 0 σ H) (hl : ∀ i σ H, i ≤ xs.length → Pv i σ H → SqL K H a xs)
    (hs : ∀ i x t σ H, xs[i]? = some x → H t = none → Pv i σ H → g (.ref t) σ (upd H t (.tup [.int ((i : Int) + 1), x])) fun σ2 H2 => tb { D with nx := Pv (i + 1), ct := Pv (i + 1), bk := D.nx } σ2 H2) (hd : ∀ σ H, Pv xs.length σ H → D.nx σ H) :
    ∃ W : Nat → Nat → St → Hp → Prop, (∃ m, W 0 m σ H) ∧ ∀ i m σ H, W i m σ H →
      ((Ite K a).stop i H ∧ D.nx σ H) ∨ ((Ite K a).go i H ∧ ∃ N : St → Hp → Prop, (∀ σ' H', N σ' H' → ∃ m', m' < m ∧ W (i + 1) m' σ' H') ∧ ∀ x H', (Ite K a).yld i H x H' → g x σ H' fun σ2 H2 => tb { D with nx := N, ct := N, bk := D.nx } σ2 H2) := by
  refine ⟨fun i m σ H => m = xs.length - i ∧ i ≤ xs.length ∧ Pv i σ H, ⟨xs.length, by simp, Nat.zero_le _, h0⟩, ?_⟩
  rintro i m σ H ⟨rfl, hi, p⟩
  have q := hl i σ H hi p
  by_cases z : i < xs.length
  · refine .inr ⟨⟨xs, xs[i], q, by simp [z]⟩, Pv (i + 1), fun σ' H' p' => ⟨xs.length - (i + 1), by omega, rfl, z, p'⟩, fun x H' y => ?_⟩
    obtain ⟨t, v, t1, rfl, rfl, y⟩ := y
    exact hs i v t σ H (y xs q) t1 p
  · have e : i = xs.length := by omega
    subst e
    exact .inl ⟨⟨xs, q, Nat.le_refl _⟩, hd σ H p⟩
end
end L2

set_option Elab.async false
set_option linter.all false
set_option maxRecDepth 100000
set_option maxHeartbeats 1000000
namespace L2
open PySem PySem.Spec PyProof.Rows
theorem kVs_one : ∀ {r r' : List Key}, r.map kV = r'.map kV → r = r'
  | [], [], _ => rfl
  | [], _ :: _, h => nomatch h
  | _ :: _, [], h => nomatch h
  | a :: r, b :: r', h => by
    rw [List.map_cons, List.map_cons] at h
    injection h with h1 h2
    rw [kV_inj h1, kVs_one h2]
theorem scl_kV (a b : Key) : scl (kV a) (kV b) = true := by cases a <;> cases b <;> rfl
/-- two tuples of ints and texts -/
theorem deq_keys {K : PySem.W.Frag} {H : Hp} {b p : Addr} {r r' : List Key} (hb : H b = some (.tup (r.map kV))) (hp : H p = some (.tup (r'.map kV))) : DEq K H 1 (.ref b) (.ref p) (decide (r = r')) := by
  by_cases z : b = p
  · subst z
    rw [hb] at hp
    have e : r = r' := kVs_one (by injection hp with h; injection h)
    rw [decide_eq_true e]; exact .same
  · have h := DEq.tup (n := 0) (fun j => decide (r[j]? = r'[j]?)) (SqT.of (K := K) hb) (SqT.of (K := K) hp) z fun j x y h1 h2 => by
      rw [List.getElem?_map] at h1 h2
      cases e1 : r[j]? with
      | none => rw [e1] at h1; cases h1
      | some k =>
        cases e2 : r'[j]? with
        | none => rw [e2] at h2; cases h2
        | some k' =>
          rw [e1] at h1; rw [e2] at h2; cases h1; cases h2
          have := DEq.scal (K := K) (H := H) (n := 0) (scl_kV k k')
          have e : decide (kV k = kV k') = decide (some k = some k') := by
            by_cases q : k = k'
            · rw [q]; simp
            · rw [decide_eq_false (fun y => q (kV_inj y)), decide_eq_false (fun y => q (Option.some.inj y))]
          rw [e] at this; exact this
    have e : ((List.range (min (r.map kV).length (r'.map kV).length)).all (fun j => decide (r[j]? = r'[j]?)) && (r.map kV).length == (r'.map kV).length) = decide (r = r') := by
      rw [List.length_map, List.length_map, Bool.eq_iff_iff, Bool.and_eq_true, decide_eq_true_eq, List.all_eq_true, beq_iff_eq]
      constructor
      · rintro ⟨h1, h2⟩
        apply List.ext_getElem? fun j => ?_
        by_cases hj : j < r.length
        · exact of_decide_eq_true (h1 j (List.mem_range.mpr (by omega)))
        · rw [List.getElem?_eq_none_iff.mpr (by omega), List.getElem?_eq_none_iff.mpr (by omega)]
      · rintro rfl
        exact ⟨fun j _ => decide_eq_true rfl, rfl⟩
    rw [e] at h; exact h
/-- is a tuple in a list of tuples -/
theorem in_keys {K : PySem.W.Frag} {H : Hp} {a p : Addr} {xs : List V} {rows : List (List Key)} {r' : List Key} {bb : Bool} (R : _root_.Own.Rows H xs (rows.map fun r => r.map kV)) (ha : SqL K H a xs) (hp : H p = some (.tup (r'.map kV))) (hbb : bb = true ↔ r' ∈ rows) : InV K H (.ref p) (.ref a) bb := by
  classical
  have get : ∀ y ∈ xs, ∃ b r, y = .ref b ∧ H b = some (.tup (r.map kV)) ∧ r ∈ rows := fun y hy => by
    obtain ⟨j, hj⟩ := List.mem_iff_getElem?.mp hy
    have lj : j < rows.length := by
      have h1 := (List.getElem?_eq_some_iff.mp hj).1
      have h2 := Paired.length R
      rw [List.length_map] at h2; omega
    obtain ⟨b, e1, e2⟩ := paired_get (show Paired _ _ _ from R) hj (by rw [List.getElem?_map, List.getElem?_eq_getElem lj]; rfl)
    exact ⟨b, rows[j], e1, e2, List.getElem_mem lj⟩
  have h := InV.lst (K := K) (n := 1) (fun v => decide (∃ b, v = V.ref b ∧ H b = some (.tup (r'.map kV)))) ha (by omega) (x := .ref p) fun y hy => by
    obtain ⟨b, r, rfl, hb, _⟩ := get y hy
    have := deq_keys (K := K) hb hp
    have e : decide (r = r') = decide (∃ b', V.ref b = V.ref b' ∧ H b' = some (.tup (r'.map kV))) := by
      by_cases q : r = r'
      · rw [decide_eq_true q, decide_eq_true ⟨b, rfl, by rw [← q]; exact hb⟩]
      · rw [decide_eq_false q, decide_eq_false]
        rintro ⟨b', e, h⟩
        cases e
        rw [hb] at h
        exact q (kVs_one (by injection h with h; injection h))
    rw [e] at this; exact this
  have e : (xs.any fun v => decide (∃ b, v = V.ref b ∧ H b = some (.tup (r'.map kV)))) = bb := by
    rw [Bool.eq_iff_iff, List.any_eq_true, hbb]
    constructor
    · rintro ⟨y, hy, h⟩
      obtain ⟨b, r, rfl, hb, hm⟩ := get y hy
      obtain ⟨b', e, h⟩ := of_decide_eq_true h
      cases e
      rw [hb] at h
      rw [← kVs_one (show r.map kV = r'.map kV by injection h with h; injection h)]; exact hm
    · intro hm
      obtain ⟨j, hj⟩ := List.mem_iff_getElem?.mp hm
      have lj : j < xs.length := by
        have h1 := (List.getElem?_eq_some_iff.mp hj).1
        have h2 := Paired.length R
        rw [List.length_map] at h2; omega
      obtain ⟨b, e1, e2⟩ := paired_get (show Paired _ _ _ from R) (List.getElem?_eq_getElem lj) (by rw [List.getElem?_map, hj]; rfl)
      exact ⟨xs[j], List.getElem_mem lj, decide_eq_true ⟨b, e1, e2⟩⟩
  rw [e] at h; exact h
theorem in_ints {K : PySem.W.Frag} {H : Hp} {a : Addr} {ns : List Int} (ha : SqL K H a (ns.map V.int)) (s : Int) : InV K H (.int s) (.ref a) (decide (s ∈ ns)) := by
  have h := InV.lst (K := K) (n := 0) (fun v => decide (v = V.int s)) ha (by omega) (x := .int s) fun y hy => by
    obtain ⟨n, _, rfl⟩ := List.mem_map.mp hy
    exact .scal rfl
  have e : ((ns.map V.int).any fun v => decide (v = V.int s)) = decide (s ∈ ns) := by
    rw [Bool.eq_iff_iff, List.any_eq_true, decide_eq_true_eq]
    constructor
    · rintro ⟨y, hy, h⟩
      obtain ⟨n, hn, rfl⟩ := List.mem_map.mp hy
      have := of_decide_eq_true h
      cases this; exact hn
    · intro hs; exact ⟨_, List.mem_map_of_mem hs, decide_eq_true rfl⟩
  rw [e] at h; exact h
def kDat : Key → Dat
  | .inl i => .int i
  | .inr s => .str s
/-- a list of tuples of ints and texts, all the way down -/
theorem deep_rows {H : Hp} {l : Addr} {us : List V} {rows : List (List Key)} (h : H l = some (.lst us)) (R : _root_.Own.Rows H us (rows.map fun r => r.map kV)) (hz : us.length ≤ 1000) (hr : ∀ r ∈ rows, r.length ≤ 1000) : Deep H 2 (.ref l) (.lst (rows.map fun r => .tup (r.map kDat))) := by
  have hl : us.length = rows.length := by have := Paired.length R; rwa [List.length_map] at this
  refine .lst h (Nat.le_of_lt (small1000 hz)) (by rw [List.length_map]; exact hl) fun j x d h1 h2 => ?_
  rw [List.getElem?_map] at h2
  cases e : rows[j]? with
  | none => rw [e] at h2; cases h2
  | some r =>
    rw [e] at h2; cases h2
    obtain ⟨t, rfl, ht⟩ := paired_get (show Paired _ _ _ from R) h1 (by rw [List.getElem?_map, e]; rfl)
    refine .tup ht (by rw [List.length_map]; exact Nat.le_of_lt (small1000 (hr r (List.mem_of_getElem? e)))) (by rw [List.length_map, List.length_map]) fun i y d h3 h4 => ?_
    rw [List.getElem?_map] at h3 h4
    cases e2 : r[i]? with
    | none => rw [e2] at h3; cases h3
    | some k =>
      rw [e2] at h3 h4; cases h3; cases h4
      cases k with
      | inl n => exact .int
      | inr s => exact .str
theorem cutV_take (us : List V) (t : Nat) : cutV us none (some (t : Int)) = us.take t := by
  unfold cutV
  rw [HT.sIx_none, HT.sIx_nat, List.drop_zero, Nat.sub_zero]
  by_cases h : t ≤ us.length
  · rw [Nat.min_eq_left h]
  · rw [Nat.min_eq_right (by omega), List.take_length, List.take_of_length_le (by omega)]
end L2

set_option linter.all false
namespace N3
/-! ### what is settled, by data -/
section
variable {α : Type} [DecidableEq α]
/-- one more hand -/
def addS (l : List Int) (s : Int) : List Int := if s ∈ l then l else l ++ [s]
/-- whose hands wrote k -/
def hnd (k : α) (ws : List (α × Int)) : List Int := ws.foldl (fun l p => if p.1 = k then addS l p.2 else l) []
theorem hnd_snoc (k : α) (ws : List (α × Int)) (p : α × Int) : hnd k (ws ++ [p]) = if p.1 = k then addS (hnd k ws) p.2 else hnd k ws := by
  unfold hnd; rw [List.foldl_append]; rfl
/-- does the writing p settle its key -/
def crs (c : Int) (pre : List (α × Int)) (p : α × Int) : Bool := !decide (p.2 ∈ hnd p.1 pre) && (decide (2 * (((hnd p.1 pre).length : Int) + 1) > c) && !decide (2 * ((hnd p.1 pre).length : Int) > c))
/-- the settlings of the first i -/
def sts (c : Int) (ws : List (α × Int)) : Nat → List (α × Nat)
  | 0 => []
  | i + 1 => sts c ws i ++ (match ws[i]? with | some p => if crs c (ws.take i) p then [(p.1, i + 1)] else [] | none => [])
/-- the settled keys of the first i, found the other way -/
def alls (c : Int) (ws : List (α × Int)) : Nat → List α
  | 0 => []
  | i + 1 => alls c ws i ++ (match ws[i]? with | some p => if 2 * ((hnd p.1 (ws.take (i + 1))).length : Int) > c ∧ p.1 ∉ alls c ws i then [p.1] else [] | none => [])
theorem take_snoc {β : Type} {ws : List β} {i : Nat} {p : β} (h : ws[i]? = some p) : ws.take (i + 1) = ws.take i ++ [p] := by
  rw [List.take_add_one, h]; rfl
theorem len_addS (l : List Int) (s : Int) : (addS l s).length = if s ∈ l then l.length else l.length + 1 := by
  unfold addS; split <;> simp
theorem alls_iff (c : Int) (hc : 0 ≤ c) (ws : List (α × Int)) : ∀ i, ∀ k, k ∈ alls c ws i ↔ 2 * ((hnd k (ws.take i)).length : Int) > c
  | 0, k => by
    simp only [alls, List.not_mem_nil, false_iff, List.take_zero]
    show ¬ 2 * ((([] : List Int).length : Int)) > c
    simp; omega
  | i + 1, k => by
    have ih := alls_iff c hc ws i
    cases e : ws[i]? with
    | none =>
      have hl : ws.length ≤ i := List.getElem?_eq_none_iff.mp e
      simp only [alls, e, List.append_nil]
      rw [ih k, List.take_of_length_le hl, List.take_of_length_le (Nat.le_succ_of_le hl)]
    | some p =>
      have t := take_snoc e
      simp only [alls, e]
      rw [List.mem_append, ih k]
      by_cases hk : p.1 = k
      · subst hk
        have m : (hnd p.1 (ws.take i)).length ≤ (hnd p.1 (ws.take (i + 1))).length := by
          rw [t, hnd_snoc, if_pos rfl, len_addS]; split <;> omega
        constructor
        · rintro (h | h)
          · omega
          · split at h
            · next h' => exact h'.1
            · exact nomatch h
        · intro h
          by_cases h2 : p.1 ∈ alls c ws i
          · exact .inl ((ih _).mp h2)
          · right
            rw [if_pos ⟨h, h2⟩]; exact List.mem_singleton.mpr rfl
      · have : hnd k (ws.take (i + 1)) = hnd k (ws.take i) := by rw [t, hnd_snoc, if_neg hk]
        rw [this]
        constructor
        · rintro (h | h)
          · exact h
          · split at h
            · exact absurd (List.mem_singleton.mp h).symm hk
            · exact nomatch h
        · exact .inl
theorem alls_sts (c : Int) (hc : 0 ≤ c) (ws : List (α × Int)) : ∀ i, alls c ws i = (sts c ws i).map (·.1)
  | 0 => rfl
  | i + 1 => by
    have ih := alls_sts c hc ws i
    cases e : ws[i]? with
    | none => simp only [alls, sts, e, List.append_nil, ih]
    | some p =>
      have t := take_snoc e
      have f := alls_iff c hc ws i p.1
      simp only [alls, sts, e, List.map_append, ih]
      congr 1
      have hL : hnd p.1 (ws.take (i + 1)) = addS (hnd p.1 (ws.take i)) p.2 := by rw [t, hnd_snoc, if_pos rfl]
      have hl := len_addS (hnd p.1 (ws.take i)) p.2
      rw [← hL] at hl
      rw [ih] at f
      by_cases h : crs c (ws.take i) p = true
      · rw [if_pos h]
        simp only [crs, Bool.and_eq_true, Bool.not_eq_true', decide_eq_true_eq, decide_eq_false_iff_not] at h
        obtain ⟨h1, h2, h3⟩ := h
        rw [if_neg h1] at hl
        rw [if_pos ⟨by omega, fun z => h3 (f.mp z)⟩]; rfl
      · rw [if_neg h]
        rw [if_neg]; rfl
        rintro ⟨h2, h3⟩
        have h3 : ¬ 2 * ((hnd p.1 (ws.take i)).length : Int) > c := fun z => h3 (f.mpr z)
        apply h
        simp only [crs, Bool.and_eq_true, Bool.not_eq_true', decide_eq_true_eq, decide_eq_false_iff_not]
        by_cases h1 : p.2 ∈ hnd p.1 (ws.take i)
        · rw [if_pos h1] at hl; omega
        · rw [if_neg h1] at hl; exact ⟨h1, by omega, h3⟩
/-- the first j of the first i -/
theorem alls_take (c : Int) (ws : List (α × Int)) (m : Nat) : ∀ i, i ≤ m → alls c (ws.take m) i = alls c ws i
  | 0, _ => rfl
  | i + 1, h => by
    have ih := alls_take c ws m i (by omega)
    simp only [alls, ih]
    rw [List.getElem?_take_of_lt (by omega), List.take_take, Nat.min_eq_left h]
/-- what a settling says -/
theorem sts_mem (c : Int) (ws : List (α × Int)) : ∀ i k t, (k, t) ∈ sts c ws i → 1 ≤ t ∧ t ≤ i ∧ t ≤ ws.length ∧ (k, t) ∈ sts c ws t
  | 0, _, _, h => nomatch h
  | i + 1, k, t, h => by
    simp only [sts] at h
    rcases List.mem_append.mp h with h | h
    · obtain ⟨a, b, d, e⟩ := sts_mem c ws i k t h
      exact ⟨a, by omega, d, e⟩
    · cases e : ws[i]? with
      | none => rw [e] at h; exact nomatch h
      | some p =>
        rw [e] at h
        simp only at h
        split at h
        · next hc =>
          have := List.mem_singleton.mp h
          cases this
          have hl := (List.getElem?_eq_some_iff.mp e).1
          refine ⟨by omega, by omega, by omega, ?_⟩
          simp only [sts]
          rw [e]
          simp only [if_pos hc]
          exact List.mem_append_right _ (List.mem_singleton.mpr rfl)
        · exact nomatch h
theorem sts_mono (c : Int) (ws : List (α × Int)) {i j : Nat} (h : i ≤ j) {x : α × Nat} (hx : x ∈ sts c ws i) : x ∈ sts c ws j := by
  induction h with
  | refl => exact hx
  | step _ ih => simp only [sts]; exact List.mem_append_left _ ih
theorem sts_lt (c : Int) (ws : List (α × Int)) : ∀ i, (sts c ws i).Pairwise (fun a b => a.2 < b.2)
  | 0 => .nil
  | i + 1 => by
    simp only [sts]
    rw [List.pairwise_append]
    refine ⟨sts_lt c ws i, ?_, fun a ha b hb => ?_⟩
    · cases ws[i]? with
      | none => exact .nil
      | some p => simp only; split <;> simp
    · have h1 := (sts_mem c ws i a.1 a.2 ha).2.1
      cases e : ws[i]? with
      | none => rw [e] at hb; exact nomatch hb
      | some p =>
        rw [e] at hb
        simp only at hb
        split at hb
        · rw [List.mem_singleton.mp hb]; show a.2 < i + 1; omega
        · exact nomatch hb
end
/-! ### what is met first -/
section
variable {β : Type} [DecidableEq β]
def ddp (l : List β) : List β := l.foldl (fun acc x => if x ∈ acc then acc else acc ++ [x]) []
theorem ddp_snoc (l : List β) (x : β) : ddp (l ++ [x]) = if x ∈ ddp l then ddp l else ddp l ++ [x] := by
  unfold ddp; rw [List.foldl_append]; rfl
theorem snoc_ind {γ : Type} {P : List γ → Prop} (h0 : P []) (h1 : ∀ l x, P l → P (l ++ [x])) (l : List γ) : P l := by
  have : ∀ n (l : List γ), l.length = n → P l := by
    intro n
    induction n with
    | zero => intro l e; rw [List.length_eq_zero_iff.mp e]; exact h0
    | succ n ih =>
      intro l e
      have hne : l ≠ [] := fun z => by rw [z] at e; simp at e
      rw [← List.dropLast_concat_getLast hne]
      exact h1 _ _ (ih _ (by rw [List.length_dropLast, e]; rfl))
  exact this _ l rfl
theorem ddp_mem (l : List β) (x : β) : x ∈ ddp l ↔ x ∈ l := by
  refine snoc_ind (P := fun l => x ∈ ddp l ↔ x ∈ l) (by simp [ddp]) (fun l y ih => ?_) l
  rw [ddp_snoc, List.mem_append, ← ih]
  split
  · next h => constructor
              · exact .inl
              · rintro (z | z)
                · exact z
                · rw [List.mem_singleton.mp z]; exact h
  · rw [List.mem_append]
theorem ddp_nodup (l : List β) : (ddp l).Nodup := by
  refine snoc_ind (P := fun l => (ddp l).Nodup) (by simp [ddp]) (fun l y ih => ?_) l
  rw [ddp_snoc]
  split
  · exact ih
  · next h =>
    rw [List.nodup_append]
    refine ⟨ih, by simp, fun a ha b hb z => h ?_⟩
    rw [List.mem_singleton.mp hb] at z
    rw [← z]; exact ha
theorem ddp_len (l : List β) : (ddp l).length ≤ l.length := by
  refine snoc_ind (P := fun l => (ddp l).length ≤ l.length) (Nat.le_refl _) (fun l y ih => ?_) l
  rw [ddp_snoc, List.length_append]
  split
  · simp; omega
  · rw [List.length_append]; simp; omega
/-- the first thing at each place -/
def fst1 (l : List (β × Nat)) : List (β × Nat) := l.foldl (fun acc x => if x.1 ∈ acc.map (·.1) then acc else acc ++ [x]) []
theorem fst1_snoc (l : List (β × Nat)) (x : β × Nat) : fst1 (l ++ [x]) = if x.1 ∈ (fst1 l).map (·.1) then fst1 l else fst1 l ++ [x] := by
  unfold fst1; rw [List.foldl_append]; rfl
theorem fst1_keys (l : List (β × Nat)) : (fst1 l).map (·.1) = ddp (l.map (·.1)) := by
  refine snoc_ind (P := fun l => (fst1 l).map (·.1) = ddp (l.map (·.1))) rfl (fun l x ih => ?_) l
  rw [fst1_snoc, List.map_append, List.map_cons, List.map_nil, ddp_snoc, ih]
  split
  · exact ih
  · rw [List.map_append, ih]; rfl
theorem fst1_sub (l : List (β × Nat)) {x : β × Nat} : x ∈ fst1 l → x ∈ l := by
  refine snoc_ind (P := fun l => x ∈ fst1 l → x ∈ l) (fun h => nomatch h) (fun l y ih => ?_) l
  rw [fst1_snoc]
  split
  · exact fun h => List.mem_append_left _ (ih h)
  · intro h
    rcases List.mem_append.mp h with z | z
    · exact List.mem_append_left _ (ih z)
    · exact List.mem_append_right _ z
theorem fst1_len (l : List (β × Nat)) : (fst1 l).length ≤ l.length := by
  refine snoc_ind (P := fun l => (fst1 l).length ≤ l.length) (Nat.le_refl _) (fun l y ih => ?_) l
  rw [fst1_snoc, List.length_append]
  split
  · simp; omega
  · rw [List.length_append]; simp; omega
/-- and nothing before it -/
theorem fst1_least (l : List (β × Nat)) (hs : l.Pairwise (fun a b => a.2 < b.2)) {x y : β × Nat} (hx : x ∈ fst1 l) (hy : y ∈ l) (e : y.1 = x.1) : x.2 ≤ y.2 := by
  revert hs hx hy
  refine snoc_ind (P := fun l => l.Pairwise (fun a b => a.2 < b.2) → x ∈ fst1 l → y ∈ l → x.2 ≤ y.2) (fun _ h => nomatch h) (fun l z ih hs hx hy => ?_) l
  rw [List.pairwise_append] at hs
  obtain ⟨h1, _, h3⟩ := hs
  rw [fst1_snoc] at hx
  rcases List.mem_append.mp hy with hy | hy
  · split at hx
    · exact ih h1 hx hy
    · next hn =>
      rcases List.mem_append.mp hx with hx | hx
      · exact ih h1 hx hy
      · exfalso
        apply hn
        rw [fst1_keys, ddp_mem, ← List.mem_singleton.mp hx, ← e]
        exact List.mem_map_of_mem hy
  · rw [List.mem_singleton.mp hy]
    split at hx
    · exact Nat.le_of_lt (h3 x (fst1_sub l hx) z List.mem_cons_self)
    · rcases List.mem_append.mp hx with hx | hx
      · exact Nat.le_of_lt (h3 x (fst1_sub l hx) z List.mem_cons_self)
      · rw [List.mem_singleton.mp hx]; exact Nat.le_refl _
/-- two lists of unlike things with the same things are as long -/
theorem len_same : ∀ {xs ys : List β}, xs.Nodup → ys.Nodup → (∀ z, z ∈ xs ↔ z ∈ ys) → xs.length = ys.length := by
  intro xs ys h1 h2 h
  exact (List.perm_ext_iff_of_nodup h1 h2).mpr h |>.length_eq
end
/-! ### the first settled at a place -/
section
variable {α β : Type} [DecidableEq α] [DecidableEq β]
/-- place by place, when it was first settled -/
def fss (pl : α → β) (c : Int) (ws : List (α × Int)) : List (β × Nat) := fst1 ((sts c ws ws.length).map fun x => (pl x.1, x.2))
theorem fss_sorted (pl : α → β) (c : Int) (ws : List (α × Int)) (n : Nat) : ((sts c ws n).map fun x => (pl x.1, x.2)).Pairwise (fun a b => a.2 < b.2) := by
  rw [List.pairwise_map]; exact sts_lt c ws n
theorem fss_now (pl : α → β) (c : Int) (hc : 0 ≤ c) (ws : List (α × Int)) {p : β} {t : Nat} (h : (p, t) ∈ fss pl c ws) : 1 ≤ t ∧ t ≤ ws.length ∧ p ∈ (alls c (ws.take t) t).map pl := by
  have h := fst1_sub _ h
  obtain ⟨⟨k, t'⟩, hk, e⟩ := List.mem_map.mp h
  cases e
  obtain ⟨h1, h2, h3, h4⟩ := sts_mem c ws _ _ _ hk
  refine ⟨h1, h3, ?_⟩
  rw [alls_take c ws t' t' (Nat.le_refl _), alls_sts c hc, List.map_map]
  exact List.mem_map.mpr ⟨(k, t'), h4, rfl⟩
theorem fss_ahead (pl : α → β) (c : Int) (hc : 0 ≤ c) (ws : List (α × Int)) {p : β} {t : Nat} (h : (p, t) ∈ fss pl c ws) : p ∉ (alls c (ws.take (t - 1)) (t - 1)).map pl := by
  intro z
  obtain ⟨h1, h2, _⟩ := fss_now pl c hc ws h
  rw [alls_take c ws (t - 1) (t - 1) (Nat.le_refl _), alls_sts c hc, List.map_map] at z
  obtain ⟨⟨k, t'⟩, hk, e⟩ := List.mem_map.mp z
  have l1 := (sts_mem c ws _ _ _ hk).2.1
  have m := sts_mono c ws (show t - 1 ≤ ws.length by omega) hk
  have := fst1_least _ (fss_sorted pl c ws ws.length) h (y := (p, t')) (List.mem_map.mpr ⟨(k, t'), m, by rw [← e]; rfl⟩) rfl
  simp only at this
  omega
theorem fss_keys (pl : α → β) (c : Int) (hc : 0 ≤ c) (ws : List (α × Int)) (q : β) : q ∈ (fss pl c ws).map (·.1) ↔ q ∈ (alls c ws ws.length).map pl := by
  unfold fss
  rw [fst1_keys, ddp_mem, alls_sts c hc, List.map_map, List.map_map]
  exact Iff.rfl
theorem fss_nodup (pl : α → β) (c : Int) (ws : List (α × Int)) : ((fss pl c ws).map (·.1)).Nodup := by
  unfold fss; rw [fst1_keys]; exact ddp_nodup _
end
end N3

set_option Elab.async false
set_option linter.all false
set_option maxRecDepth 100000
set_option maxHeartbeats 1000000
namespace N3
open PySem L2
/-! ### writings -/
/-- number, scribe, place, saying -/
abbrev Wr := Int × Int × Int × Str
/-- place, number, saying -/
abbrev K3 := Int × Int × Str
def wrow (x : Wr) : List V := [.int x.1, .int x.2.1, .int x.2.2.1, .str x.2.2.2]
def kof (x : Wr) : K3 × Int := ((x.2.2.1, x.1, x.2.2.2), x.2.1)
def kK (k : K3) : List Key := [.inl k.1, .inl k.2.1, .inr k.2.2]
def kL (k : K3) : List Key := [.inl k.2.1, .inl k.1, .inr k.2.2]
theorem kK_inj {a b : K3} (h : kK a = kK b) : a = b := by
  obtain ⟨a1, a2, a3⟩ := a; obtain ⟨b1, b2, b3⟩ := b
  simp only [kK, List.cons.injEq, Sum.inl.injEq, Sum.inr.injEq] at h
  obtain ⟨h1, h2, h3, _⟩ := h
  rw [h1, h2, h3]
theorem kL_inj {a b : K3} (h : kL a = kL b) : a = b := by
  obtain ⟨a1, a2, a3⟩ := a; obtain ⟨b1, b2, b3⟩ := b
  simp only [kL, List.cons.injEq, Sum.inl.injEq, Sum.inr.injEq] at h
  obtain ⟨h1, h2, h3, _⟩ := h
  rw [h1, h2, h3]
/-- a settling's tuple -/
def srow (x : K3 × Nat) : List V := [.int x.1.1, .int x.1.2.1, .str x.1.2.2, .int x.2]
/-- hands, as a dict -/
def hK (l : List Int) : List (Key × V) := l.map fun s => (Sum.inl s, V.bl true)
theorem val_hK (l : List Int) (s : Int) : valV (hK l) (Sum.inl s) = if s ∈ l then some (.bl true) else none := by
  induction l with
  | nil => rfl
  | cons a l ih =>
    show valV ((Sum.inl a, V.bl true) :: hK l) (Sum.inl s) = _
    by_cases e : a = s
    · rw [valV_pos (by rw [e])]; simp [e]
    · rw [valV_neg (fun z => e (Sum.inl.inj z)), ih]
      simp [Ne.symm e, eq_comm]
theorem put_hK {l : List Int} {s : Int} (h : s ∉ l) : putK (hK l) (Sum.inl s) (.bl true) = hK (l ++ [s]) := by
  rw [putK_new _ (by rw [val_hK, if_neg h])]
  unfold hK; rw [List.map_append]; rfl
theorem hK_len (l : List Int) : (hK l).length = l.length := by unfold hK; rw [List.length_map]
theorem hnd_len {α : Type} [DecidableEq α] (k : α) (ws : List (α × Int)) : (hnd k ws).length ≤ ws.length := by
  refine snoc_ind (P := fun ws => (hnd k ws).length ≤ ws.length) (Nat.le_refl _) (fun l x ih => ?_) ws
  rw [hnd_snoc, List.length_append]
  split
  · rw [len_addS]; split <;> simp <;> omega
  · simp; omega
/-- the writers' book: each key its own dict of hands -/
structure Bk (H0 H : Hp) (d : Addr) (ps : List (K3 × Int)) (kvs : List (List Key × V)) : Prop where
  at_ : H d = some (.dT kvs)
  val : ∀ k, (valV kvs (kK k) = none ∧ hnd k ps = []) ∨ ∃ a, valV kvs (kK k) = some (.ref a) ∧ H0 a = none ∧ H a = some (.dK (hK (hnd k ps)))
  inj : ∀ k k' a, valV kvs (kK k) = some (.ref a) → valV kvs (kK k') = some (.ref a) → k = k'
section
variable {H0 H H' : Hp} {d : Addr} {ps : List (K3 × Int)} {kvs : List (List Key × V)}
theorem Bk.keep (B : Bk H0 H d ps kvs) (s : Same H H') : Bk H0 H' d ps kvs :=
  ⟨s _ _ B.at_, fun k => (B.val k).imp id fun ⟨a, h1, h2, h3⟩ => ⟨a, h1, h2, s _ _ h3⟩, B.inj⟩
theorem Bk.at_key (B : Bk H0 H d ps kvs) {k : K3} {v : V} (h : valV kvs (kK k) = some v) : ∃ a, v = .ref a ∧ H0 a = none ∧ H a = some (.dK (hK (hnd k ps))) := by
  rcases B.val k with ⟨z, _⟩ | ⟨a, h1, h2, h3⟩
  · rw [h] at z; cases z
  · rw [h] at h1; cases h1; exact ⟨a, rfl, h2, h3⟩
theorem Bk.new (B : Bk H0 H d ps kvs) {k : K3} {q : Addr} (hn : valV kvs (kK k) = none) (hq : H q = none) (h0 : H0 q = none) : Bk H0 (upd (upd H q (.dK [])) d (.dT (putK kvs (kK k) (.ref q)))) d ps (putK kvs (kK k) (.ref q)) := by
  have qd : q ≠ d := fun z => by rw [z, B.at_] at hq; cases hq
  have he : hnd k ps = [] := by
    rcases B.val k with ⟨_, z⟩ | ⟨a, h1, _⟩
    · exact z
    · rw [hn] at h1; cases h1
  refine ⟨upd_same, fun k1 => ?_, fun k1 k2 a h1 h2 => ?_⟩
  · by_cases e : k1 = k
    · subst e
      right
      exact ⟨q, by rw [valV_put, if_pos rfl], h0, by rw [upd_ne qd, upd_same, he]; rfl⟩
    · rw [valV_put, if_neg (fun z => e (kK_inj z))]
      refine (B.val k1).imp id fun ⟨a, h1, h2, h3⟩ => ⟨a, h1, h2, ?_⟩
      rw [upd_ne (ne_of h3 B.at_ (fun z => nomatch z)), upd_ne (ne_of_none h3 hq)]; exact h3
  · rw [valV_put] at h1 h2
    have nq : ∀ j, valV kvs (kK j) = some (.ref a) → a ≠ q := fun j h => by
      obtain ⟨b, e, _, h3⟩ := B.at_key h
      cases e; exact ne_of_none h3 hq
    by_cases e1 : kK k1 = kK k
    · rw [if_pos e1] at h1
      cases h1
      by_cases e2 : kK k2 = kK k
      · exact kK_inj (e1.trans e2.symm)
      · rw [if_neg e2] at h2; exact absurd rfl (nq _ h2)
    · rw [if_neg e1] at h1
      by_cases e2 : kK k2 = kK k
      · rw [if_pos e2] at h2
        cases h2; exact absurd rfl (nq _ h1)
      · rw [if_neg e2] at h2; exact B.inj k1 k2 a h1 h2
theorem Bk.seen (B : Bk H0 H d ps kvs) {k : K3} {s : Int} (h : s ∈ hnd k ps) : Bk H0 H d (ps ++ [(k, s)]) kvs := by
  refine ⟨B.at_, fun k1 => ?_, B.inj⟩
  have e : hnd k1 (ps ++ [(k, s)]) = hnd k1 ps := by
    rw [hnd_snoc]
    split
    · next z => have z : k = k1 := z
                subst z; unfold addS; rw [if_pos h]
    · rfl
  rw [e]; exact B.val k1
theorem Bk.hand (B : Bk H0 H d ps kvs) {k : K3} {s : Int} {a : Addr} (ha : valV kvs (kK k) = some (.ref a)) (h : s ∉ hnd k ps) : Bk H0 (upd H a (.dK (hK (hnd k ps ++ [s])))) d (ps ++ [(k, s)]) kvs := by
  obtain ⟨a', e, _, h3⟩ := B.at_key ha
  cases e
  refine ⟨(upd_ne (ne_of B.at_ h3 (fun z => nomatch z))).trans B.at_, fun k1 => ?_, B.inj⟩
  rw [hnd_snoc]
  by_cases z : k = k1
  · subst z
    rw [if_pos rfl]
    right
    obtain ⟨_, e, h2, _⟩ := B.at_key ha
    cases e
    exact ⟨a, ha, h2, by rw [upd_same]; unfold addS; rw [if_neg h]⟩
  · rw [if_neg z]
    refine (B.val k1).imp id fun ⟨b, h1, h2, h4⟩ => ⟨b, h1, h2, ?_⟩
    rw [upd_ne (fun y => z (B.inj _ _ _ ha (by rw [← y]; exact h1)))]; exact h4
/-- hands of k, there or new -/
theorem Bk.setd {p q : Addr} {k : K3} {Q : VK} (B : Bk H0 H d ps kvs) (hp : H p = some (.tup ((kK k).map kV))) (hq : H q = none) (h0 : Same H0 H) (hz : kvs.length ≤ 1000)
    (kk : ∀ a kv2 H2, Bk H0 H2 d ps kv2 → valV kv2 (kK k) = some (.ref a) → kv2.length ≤ kvs.length + 1 → (∀ b u, H b = some u → b ≠ d → H2 b = some u) → Q (.ref a) H2) : rSetT (.ref d) [.ref p, .ref q] (upd H q (.dK [])) Q := by
  have s1 := same_upd (o := .dK []) hq
  have q0 : H0 q = none := by
    cases e : H0 q with
    | none => rfl
    | some u => rw [h0 _ _ e] at hq; cases hq
  refine ⟨_, kvs, kK k, p, .ref q, rfl, s1 _ _ B.at_, rfl, s1 _ _ hp, small1000 hz, fun u hu => ?_, fun hn => ?_⟩
  · obtain ⟨a, e, _, _⟩ := B.at_key hu
    subst e
    exact kk a kvs _ (B.keep s1) hu (Nat.le_succ _) fun b u e _ => s1 _ _ e
  · refine kk q _ _ (B.new hn hq q0) (by rw [valV_put, if_pos rfl]) (length_putK _ _ _) fun b u e hb => ?_
    rw [upd_ne hb]; exact s1 _ _ e
end
/-! ### rows, decoded -/
def dec4 : List Key → K3 × Nat
  | [.inl p, .inl n, .inr s, .inl t] => ((p, n, s), t.toNat)
  | _ => ((0, 0, ""), 0)
def enc4 (x : K3 × Nat) : List Key := kK x.1 ++ [.inl (x.2 : Int)]
theorem dec_enc4 (x : K3 × Nat) : dec4 (enc4 x) = x := rfl
def dec3 : List Key → K3
  | [.inl p, .inl n, .inr s] => (p, n, s)
  | _ => (0, 0, "")
theorem dec_enc3 (x : K3) : dec3 (kK x) = x := rfl
/-- rows that are a turn of coded things are coded things -/
theorem coded {α β : Type} {f : α → β} {g : β → α} (gf : ∀ x, g (f x) = x) {rows : List β} {xs : List α} (p : rows.Perm (xs.map f)) : ∃ ys : List α, rows = ys.map f ∧ ys.Perm xs := by
  refine ⟨rows.map g, ?_, ?_⟩
  · rw [List.map_map]
    symm
    conv => rhs; rw [← List.map_id rows]
    refine List.map_congr_left fun r hr => ?_
    obtain ⟨x, _, rfl⟩ := List.mem_map.mp (p.mem_iff.mp hr)
    show f (g (f x)) = f x
    rw [gf]
  · have := p.map g
    rw [List.map_map] at this
    have e : xs.map (g ∘ f) = xs := by
      conv => rhs; rw [← List.map_id xs]
      exact List.map_congr_left fun x _ => gf x
    rw [e] at this; exact this
/-- in order: no row behind a greater one -/
abbrev Ordd (ks : List K3) : Prop := ks.Pairwise (fun a b => _root_.Own.lexK (kK b) (kK a) = false)
theorem ord_one : ∀ {xs ys : List K3}, xs.Perm ys → Ordd xs → Ordd ys → xs = ys
  | [], ys, p, _, _ => by have := p.length_eq; cases ys with | nil => rfl | cons _ _ => simp at this
  | x :: xs, [], p, _, _ => by have := p.length_eq; simp at this
  | x :: xs, y :: ys, p, h1, h2 => by
    have hx : x ∈ y :: ys := p.mem_iff.mp List.mem_cons_self
    have hy : y ∈ x :: xs := p.mem_iff.mpr List.mem_cons_self
    have h1' := List.pairwise_cons.mp h1
    have h2' := List.pairwise_cons.mp h2
    have e : x = y := by
      rcases List.mem_cons.mp hx with z | z
      · exact z
      · rcases List.mem_cons.mp hy with w | w
        · exact w.symm
        · exact kK_inj (_root_.Own.lexK_total (h2'.1 x z) (h1'.1 y w))
    subst e
    rw [ord_one ((List.perm_cons x).mp p) h1'.2 h2'.2]
theorem lex_front {a b : K3} {s t : Key} (h : _root_.Own.lexK (kK b ++ [t]) (kK a ++ [s]) = false) : _root_.Own.lexK (kK b) (kK a) = false := by
  obtain ⟨a1, a2, a3⟩ := a; obtain ⟨b1, b2, b3⟩ := b
  simp only [kK, List.cons_append, List.nil_append, _root_.Own.lexK] at h ⊢
  split at h
  · next e => rw [if_pos e]
              split at h
              · next e => rw [if_pos e]
                          split at h
                          · next e => rw [if_pos e]
                          · next e => rw [if_neg e]; exact h
              · next e => rw [if_neg e]; exact h
  · next e => rw [if_neg e]; exact h
/-- the sorted settlings hold their keys in order -/
theorem ord_front {xs : List (K3 × Nat)} (h : (xs.map enc4).Pairwise (fun a b => _root_.Own.lexK b a = false)) : Ordd (xs.map (·.1)) := by
  rw [List.pairwise_map] at h
  show ((xs.map (·.1)).Pairwise _)
  rw [List.pairwise_map]
  exact h.imp fun z => lex_front z
/-- place and saying -/
def prj (k : K3) : Int × Str := (k.1, k.2.2)
def pK (p : Int × Str) : List Key := [.inl p.1, .inr p.2]
theorem pK_inj {a b : Int × Str} (h : pK a = pK b) : a = b := by
  obtain ⟨a1, a2⟩ := a; obtain ⟨b1, b2⟩ := b
  simp only [pK, List.cons.injEq, Sum.inl.injEq, Sum.inr.injEq] at h
  obtain ⟨h1, h2, _⟩ := h
  rw [h1, h2]
def pT (l : List (Int × Str)) : List (List Key × V) := l.map fun p => (pK p, V.bl true)
theorem val_pT (l : List (Int × Str)) (p : Int × Str) : valV (pT l) (pK p) = if p ∈ l then some (.bl true) else none := by
  induction l with
  | nil => rfl
  | cons a l ih =>
    show valV ((pK a, V.bl true) :: pT l) (pK p) = _
    by_cases e : a = p
    · rw [valV_pos (by rw [e])]; simp [e]
    · rw [valV_neg (fun z => e (pK_inj z)), ih]
      simp [Ne.symm e, eq_comm]
theorem put_pT (l : List (Int × Str)) (p : Int × Str) : putK (pT l) (pK p) (.bl true) = pT (if p ∈ l then l else l ++ [p]) := by
  by_cases h : p ∈ l
  · rw [if_pos h]
    unfold putK
    rw [if_pos (by rw [valV_any, val_pT, if_pos h]; rfl)]
    unfold pT
    rw [List.map_map]
    refine List.map_congr_left fun x _ => ?_
    simp only [Function.comp]
    split <;> rfl
  · rw [if_neg h, putK_new _ (by rw [val_pT, if_neg h])]
    unfold pT; rw [List.map_append]; rfl
theorem put_ddp (l : List (Int × Str)) (p : Int × Str) : putK (pT (ddp l)) (pK p) (.bl true) = pT (ddp (l ++ [p])) := by
  rw [put_pT, ddp_snoc]
  by_cases h : p ∈ ddp l
  · rw [if_pos h, if_pos h]
  · rw [if_neg h, if_neg h]
/-- rows out of a dict's keys -/
theorem rows_keys {H H' : Hp} {l : List (Int × Str)} {us : List V} (P : Paired (KeyRef H) ((pT l).map (·.1)) us) (s : Same H H') : _root_.Own.Rows H' us (l.map fun p => (pK p).map kV) := by
  have hl : l.length = us.length := by have := Paired.length P; simpa [pT] using this
  refine paired_of (by rw [List.length_map]; exact hl.symm) fun j u r h1 h2 => ?_
  rw [List.getElem?_map] at h2
  cases e : l[j]? with
  | none => rw [e] at h2; cases h2
  | some p =>
    rw [e] at h2; cases h2
    obtain ⟨b, e1, e2⟩ := paired_get (show Paired _ _ _ from P) (show _ = some (pK p) by unfold pT; rw [List.map_map, List.getElem?_map, e]; rfl) h1
    exact ⟨b, e1, s _ _ e2⟩
def decF : Int × V → Int × Nat
  | (p, .int t) => (p, t.toNat)
  | (p, _) => (p, 0)
theorem dec_encF (x : Int × Nat) : decF (x.1, V.int (x.2 : Int)) = x := rfl
/-- the first settled, as a dict -/
def fK (l : List (Int × Nat)) : List (Key × V) := l.map fun p => (Sum.inl p.1, V.int p.2)
theorem val_fK (l : List (Int × Nat)) (p : Int) : (p ∈ l.map (·.1) ∧ ∃ u, valV (fK l) (Sum.inl p) = some u) ∨ (p ∉ l.map (·.1) ∧ valV (fK l) (Sum.inl p) = none) := by
  induction l with
  | nil => right; exact ⟨List.not_mem_nil, rfl⟩
  | cons a l ih =>
    by_cases e : a.1 = p
    · left; exact ⟨by simp [e], _, valV_pos (p := (Sum.inl a.1, V.int a.2)) (by rw [e])⟩
    · have z : valV (fK (a :: l)) (Sum.inl p) = valV (fK l) (Sum.inl p) := valV_neg (p := (Sum.inl a.1, V.int a.2)) (fun z => e (Sum.inl.inj z))
      rw [z]
      refine ih.imp (fun ⟨h1, h2⟩ => ⟨List.mem_cons_of_mem _ h1, h2⟩) fun ⟨h1, h2⟩ => ⟨fun y => ?_, h2⟩
      rcases List.mem_cons.mp y with y | y
      · exact e y.symm
      · exact h1 y
theorem met_ddp (ns : List Int) : PyProof.Rows.firstMet (fun i => ns.getD i 0) ns.length = ddp ns := by
  unfold PyProof.Rows.firstMet
  have e : (List.range ns.length).map (fun i => ns.getD i 0) = ns := by
    apply List.ext_getElem (by simp)
    intro i h1 h2
    simp [h2]
  rw [e]
  refine snoc_ind (P := fun l => l.foldl PyProof.Rows.step_dedup [] = ddp l) rfl (fun l x ih => ?_) ns
  rw [List.foldl_append, ih, ddp_snoc]
  show PyProof.Rows.step_dedup (ddp l) x = _
  unfold PyProof.Rows.step_dedup
  by_cases h : x ∈ ddp l
  · rw [if_pos h, if_pos (List.any_eq_true.mpr ⟨x, h, by simp⟩)]
  · rw [if_neg h, if_neg (fun z => by
      obtain ⟨y, hy, e⟩ := List.any_eq_true.mp z
      have : y = x := by simpa using e
      exact h (this ▸ hy))]
/-- as many places are first settled as there are places among what is due -/
theorem many_first {ws : List Wr} {c : Int} (hc : 0 ≤ c) {fs : List (Int × Nat)} {ks : List K3} (pf : fs.Perm (fss (fun k : K3 => k.1) c (ws.map kof))) (pk : ks.Perm (alls c (ws.map kof) ws.length)) : (ddp ((ddp (ks.map prj)).map (·.1))).length = fs.length := by
  have e : fs.length = ((fss (fun k : K3 => k.1) c (ws.map kof)).map (·.1)).length := by rw [List.length_map, pf.length_eq]
  rw [e]
  refine len_same (ddp_nodup _) (fss_nodup _ _ _) fun z => ?_
  rw [ddp_mem, fss_keys _ c hc, List.length_map]
  constructor
  · intro h
    obtain ⟨p, h1, h2⟩ := List.mem_map.mp h
    rw [ddp_mem] at h1
    obtain ⟨k, h3, h4⟩ := List.mem_map.mp h1
    exact List.mem_map.mpr ⟨k, pk.mem_iff.mp h3, by rw [← h2, ← h4]; rfl⟩
  · intro h
    obtain ⟨k, h1, h2⟩ := List.mem_map.mp h
    exact List.mem_map.mpr ⟨prj k, by rw [ddp_mem]; exact List.mem_map_of_mem (pk.mem_iff.mpr h1), h2⟩
end N3

set_option Elab.async false
set_option linter.all false
set_option maxRecDepth 100000
set_option maxHeartbeats 4000000
namespace K03
open PySem L2
def top (i : Nat) : Stmt := PySem.Challenge.pw_scriberow_k03_what_is_settled.main.body.getD i (.Pass ⟨0, 0, 0, 0⟩)
abbrev s_is_most : Stmt := top 1
abbrev s_settlings : Stmt := top 2
abbrev s_settled_in : Stmt := top 3
abbrev s_first_settled : Stmt := top 4
abbrev s_so : Stmt := top 6
abbrev s_whole : Stmt := top 7
abbrev s_at : Stmt := top 8
abbrev s_all_settled : Stmt := top 9
abbrev s_law : Stmt := top 10
theorem sc_is_most : FnScope ["count", "many"] ["count", "many"] (defScope s_is_most) := ⟨rfl, rfl, rfl, by decide +kernel, rfl, by decide +kernel, by decide +kernel⟩
theorem sc_settlings : FnScope ["count", "writings", "writers", "found", "taken", "number", "scribe", "place", "saying", "hands"] ["count", "writings"] (defScope s_settlings) := ⟨rfl, rfl, rfl, by decide +kernel, rfl, by decide +kernel, by decide +kernel⟩
theorem sc_settled_in : FnScope ["count", "writings", "pairs", "place", "number", "saying", "taken"] ["count", "writings"] (defScope s_settled_in) := ⟨rfl, rfl, rfl, by decide +kernel, rfl, by decide +kernel, by decide +kernel⟩
theorem sc_first_settled : FnScope ["count", "writings", "first", "place", "number", "saying", "taken"] ["count", "writings"] (defScope s_first_settled) := ⟨rfl, rfl, rfl, by decide +kernel, rfl, by decide +kernel, by decide +kernel⟩
theorem sc_so : FnScope ["_law_found", "_law_meant", "_law_k"] ["_law_found", "_law_meant"] (defScope s_so) := ⟨rfl, rfl, rfl, by decide +kernel, rfl, by decide +kernel, by decide +kernel⟩
theorem sc_whole : FnScope ["_law_found"] ["_law_found"] (defScope s_whole) := ⟨rfl, rfl, rfl, by decide +kernel, rfl, by decide +kernel, by decide +kernel⟩
theorem sc_at : FnScope ["_law_script", "_law_k"] ["_law_script", "_law_k"] (defScope s_at) := ⟨rfl, rfl, rfl, by decide +kernel, rfl, by decide +kernel, by decide +kernel⟩
theorem sc_all_settled : FnScope ["_law_count", "_law_writings", "_law_them", "_law_found", "_law_number", "_law_scribe", "_law_place", "_law_saying", "_law_key", "_law_row"] ["_law_count", "_law_writings"] (defScope s_all_settled) := ⟨rfl, rfl, rfl, by decide +kernel, rfl, by decide +kernel, by decide +kernel⟩
theorem sc_law : FnScope ["_law_script", "_law_count", "_law_writings", "_law_said", "_law_k", "_law_cell", "_law_wide", "_law_number", "_law_place", "_law_saying", "_law_handed", "_law_found", "_law_first", "_law_keys", "_law_due", "_law_key", "_law_pair", "_law_now", "_law_less", "_law_ahead"] ["_law_script"] (defScope s_law) := ⟨rfl, rfl, rfl, by decide +kernel, rfl, by decide +kernel, by decide +kernel⟩
structure NBs (mg : Str → Option Value) : Prop where
  len : mg "len" = none
  min : mg "min" = none
  max : mg "max" = none
  range : mg "range" = none
  int : mg "int" = none
  bool : mg "bool" = none
  str : mg "str" = none
  list : mg "list" = none
  dict : mg "dict" = none
  tuple : mg "tuple" = none
  set : mg "set" = none
  sorted : mg "sorted" = none
  isinstance : mg "isinstance" = none
  enumerate : mg "enumerate" = none
section
variable {P : Program} {w : World} {K : PySem.W.Frag} {mg : Str → Option Value} {base : Heap}
/-! ### two values that are the same all the way down -/
theorem own_so (NB : NBs mg) (D : DefAt K mg "_law_so" s_so ["_law_found", "_law_meant"]) : ∀ n : Nat, L2.Own P w K mg base "_law_so" n ["_law_found", "_law_meant"] (spSo n)
  | 0 => by
    obtain ⟨f, fd, F, hm, hb⟩ := D.ex
    exact ⟨f, fd, ⟨fun _ _ _ _ h => h.elim, fun _ _ _ _ _ _ _ _ _ _ _ _ _ h => h.elim⟩, hm, F.kp, hb⟩
  | n + 1 => by
    have O_so : L2.Own P w K mg base "_law_so" n ["_law_found", "_law_meant"] (spSo n) := own_so NB D n
    refine D.own sc_so (fun vs H Q E h => ?_) (fun f cdv A outer s H vs Q E hr h => ?_)
    · obtain ⟨x, y, d, rfl, _⟩ := h; rfl
    · obtain ⟨x, y, d, rfl, dx, dy, k⟩ := h
      have hu := hu_of hr
      have nd := sc_so.nd
      refine ⟨_, (pss_cons (ps_if (pt_cmpR op_isN (nv 1) pe_non (nomark _)) (pss_one (ps_ret (pe_cmpR op_isN (nv 0) pe_non (nomark _)))) pss_nil)
  (pss_cons (ps_if (pt_val (pe_callB call_isinstanceG (by rfl) NB.isinstance bb_isinstance (pa_cons (nv 1) (pa_cons (nt NB.bool bb_bool) pa_nil)))) (pss_one (ps_ret (pe_and (pe_callB call_isinstanceG (by rfl) NB.isinstance bb_isinstance (pa_cons (nv 0) (pa_cons (nt NB.bool bb_bool) pa_nil))) (pe_one (pe_cmpR (op_eqG hr) (nv 0) (nv 1) (nomark _)))))) pss_nil)
  (pss_cons (ps_if (pt_val (pe_callB call_isinstanceG (by rfl) NB.isinstance bb_isinstance (pa_cons (nv 1) (pa_cons (nt NB.int bb_int) pa_nil)))) (pss_one (ps_ret (pe_and (pe_callB call_isinstanceG (by rfl) NB.isinstance bb_isinstance (pa_cons (nv 0) (pa_cons (nt NB.int bb_int) pa_nil))) (pe_and (pe_not (pe_callB call_isinstanceG (by rfl) NB.isinstance bb_isinstance (pa_cons (nv 0) (pa_cons (nt NB.bool bb_bool) pa_nil)))) (pe_one (pe_cmpR (op_eqG hr) (nv 0) (nv 1) (nomark _))))))) pss_nil)
  (pss_cons (ps_if (pt_val (pe_callB call_isinstanceG (by rfl) NB.isinstance bb_isinstance (pa_cons (nv 1) (pa_cons (nt NB.str bb_str) pa_nil)))) (pss_one (ps_ret (pe_and (pe_callB call_isinstanceG (by rfl) NB.isinstance bb_isinstance (pa_cons (nv 0) (pa_cons (nt NB.str bb_str) pa_nil))) (pe_one (pe_cmpR (op_eqG hr) (nv 0) (nv 1) (nomark _)))))) pss_nil)
  (pss_cons (ps_if (pt_val (pe_callB call_isinstanceG (by rfl) NB.isinstance bb_isinstance (pa_cons (nv 1) (pa_cons (nt NB.dict bb_dict) pa_nil)))) (pss_one (ps_ret (pe_and (pe_callB call_isinstanceG (by rfl) NB.isinstance bb_isinstance (pa_cons (nv 0) (pa_cons (nt NB.dict bb_dict) pa_nil))) (pe_one (pe_own O_so hr rfl (pa_cons (pe_callB call_sortedG (by rfl) NB.sorted bb_sorted (pa_cons (pe_bm0 PySem.F.plainAttrs_dict PySem.F.slot_dict_items PySem.F.type_dict_items mt_items (nv 0)) pa_nil)) (pa_cons (pe_callB call_sortedG (by rfl) NB.sorted bb_sorted (pa_cons (pe_bm0 PySem.F.plainAttrs_dict PySem.F.slot_dict_items PySem.F.type_dict_items mt_items (nv 1)) pa_nil)) pa_nil))))))) pss_nil)
  (pss_cons (ps_if (pt_cmpR (op_neG hr) (pe_callB call_isinstanceG (by rfl) NB.isinstance bb_isinstance (pa_cons (nv 1) (pa_cons (nt NB.tuple bb_tuple) pa_nil))) (pe_callB call_isinstanceG (by rfl) NB.isinstance bb_isinstance (pa_cons (nv 0) (pa_cons (nt NB.tuple bb_tuple) pa_nil))) (nomark _)) (pss_one (ps_ret pe_bl)) pss_nil)
  (pss_cons (ps_if (PW.pt (pw_or (pt_cmpR (op_neG hr) (pe_callB call_isinstanceG (by rfl) NB.isinstance bb_isinstance (pa_cons (nv 1) (pa_cons (nt NB.list bb_list) pa_nil))) (pe_callB call_isinstanceG (by rfl) NB.isinstance bb_isinstance (pa_cons (nv 0) (pa_cons (nt NB.list bb_list) pa_nil))) (nomark _)) (pw_or1 (pt_not (pt_val (pe_callB call_isinstanceG (by rfl) NB.isinstance bb_isinstance (pa_cons (nv 1) (pa_cons (pe_tup (pa_cons (nt NB.list bb_list) (pa_cons (nt NB.tuple bb_tuple) pa_nil))) pa_nil)))))))) (pss_one (ps_ret pe_bl)) pss_nil)
  (pss_cons (ps_if (pt_cmpR (op_neG hr) (pe_callB call_lenG (by rfl) NB.len bb_len (pa_cons (nv 0) pa_nil)) (pe_callB call_lenG (by rfl) NB.len bb_len (pa_cons (nv 1) pa_nil)) (nomark _)) (pss_one (ps_ret pe_bl)) pss_nil)
  (pss_cons (ps_for PassesOwn.never rfl (pi_range1 rfl NB.range (pa_cons (pe_callB call_lenG (by rfl) NB.len bb_len (pa_cons (nv 1) pa_nil)) pa_nil)) (pg_nameG nd 2) (pss_one (ps_if (pt_not (pt_val (pe_own O_so hr rfl (pa_cons (pe_ix (ixG hu) (nv 0) (nv 2) (fun _ _ => rfl)) (pa_cons (pe_ix (ixG hu) (nv 1) (nv 2) (fun _ _ => rfl)) pa_nil))))) (pss_one (ps_ret pe_bl)) pss_nil)))
  (pss_one (ps_ret pe_bl))))))))))), ?_⟩
      cases dx with
      | non =>
        cases dy
        exact ⟨rfl, _, rfl, iteDT rfl ⟨rfl, k H (Same.refl H)⟩⟩
      | @bl _ b =>
        cases dy
        refine ⟨rfl, _, rfl, iteD (fun z => nomatch z) ?_⟩
        refine ⟨_, true, .bl _, kt_bool_bool K, _, rfl, iteT ?_⟩
        refine ⟨_, true, .bl _, kt_bool_bool K, _, rfl, iteT ?_⟩
        refine ⟨_, .scal rfl, ?_⟩
        rw [decide_eq_true rfl]
        exact k H (Same.refl H)
      | @int _ i =>
        cases dy
        refine ⟨rfl, _, rfl, iteD (fun z => nomatch z) ?_⟩
        refine ⟨_, false, .int _, kt_int_bool K, _, rfl, iteF ?_⟩
        refine ⟨_, true, .int _, kt_int_int K, _, rfl, iteT ?_⟩
        refine ⟨_, true, .int _, kt_int_int K, _, rfl, iteT ?_⟩
        refine ⟨_, false, .int _, kt_int_bool K, _, rfl, _, rfl, iteT ?_⟩
        refine ⟨_, .scal rfl, ?_⟩
        rw [decide_eq_true rfl]
        exact k H (Same.refl H)
      | @str _ x =>
        cases dy
        refine ⟨rfl, _, rfl, iteD (fun z => nomatch z) ?_⟩
        refine ⟨_, false, .str _, kt_str_bool K, _, rfl, iteF ?_⟩
        refine ⟨_, false, .str _, kt_str_int K, _, rfl, iteF ?_⟩
        refine ⟨_, true, .str _, kt_str_str K, _, rfl, iteT ?_⟩
        refine ⟨_, true, .str _, kt_str_str K, _, rfl, iteT ?_⟩
        refine ⟨_, .scal rfl, ?_⟩
        rw [decide_eq_true rfl]
        exact k H (Same.refl H)
      | @tup m a xs ds hx hz hl kx =>
        cases dy with
        | @tup _ b ys _ hy hz' hl' ky =>
        refine ⟨rfl, _, rfl, iteD (fun z => nomatch z) ?_⟩
        refine ⟨_, false, .tup hy, kt_tuple_bool K, _, rfl, iteF ?_⟩
        refine ⟨_, false, .tup hy, kt_tuple_int K, _, rfl, iteF ?_⟩
        refine ⟨_, false, .tup hy, kt_tuple_str K, _, rfl, iteF ?_⟩
        refine ⟨_, false, .tup hy, kt_tuple_dict K, _, rfl, iteF ?_⟩
        refine ⟨_, true, .tup hy, kt_tuple_tuple K, _, true, .tup hx, kt_tuple_tuple K, _, .scal rfl, _, rfl, iteNS rfl ?_⟩
        refine ⟨_, false, .tup hy, kt_tuple_list K, _, false, .tup hx, kt_tuple_list K, _, .scal rfl, _, rfl, iteNS rfl ?_⟩
        refine ⟨by show 2 ≤ sizeLine; decide, fun p hp => ?_⟩
        have s1 := same_upd (o := .tup [.ty "list", .ty "tuple"]) hp
        refine ⟨["list", "tuple"], _, true, upd_same, .tup (s1 _ _ hy), ka_tuple_lt K, _, rfl, iteNT ?_⟩
        refine ⟨xs.length, .inl ⟨_, .inr (SqT.of (s1 _ _ hx)), rfl⟩, ys.length, .inl ⟨_, .inr (SqT.of (s1 _ _ hy)), rfl⟩, _, .scal rfl, _, rfl, iteNS (congrArg (fun n : Nat => V.int n) (hl.trans hl'.symm)) ?_⟩
        refine ⟨ys.length, .inl ⟨_, .inr (SqT.of (s1 _ _ hy)), rfl⟩, _, rfl, by omega, by rw [sizeLine_eq] at hz'; omega, ?_⟩
        refine for_range (n := ((ys.length : Int)).toNat) (fun j σ H' => ∃ o, σ = [some (.ref a), some (.ref b), o] ∧ Same H H') ⟨_, rfl, s1⟩ ?_ ?_
        · rintro j σ H1 hj ⟨o, rfl, s2⟩
          have hj' : j < ys.length := by omega
          have g1 : xs[j]? = some xs[j] := List.getElem?_eq_getElem (by omega)
          have g2 : ys[j]? = some ys[j] := List.getElem?_eq_getElem hj'
          have g3 : ds[j]? = some ds[j] := List.getElem?_eq_getElem (by omega)
          refine ⟨_, .tup (SqT.of (s2 _ _ hx)) (by rw [Int.zero_add]; exact atI_nat g1), _, .tup (SqT.of (s2 _ _ hy)) (by rw [Int.zero_add]; exact atI_nat g2), ?_⟩
          refine ⟨_, _, ds[j], rfl, (kx j _ _ g1 g3).mono s2, (ky j _ _ g2 g3).mono s2, fun H2 s3 => ⟨_, rfl, iteNT ?_⟩⟩
          exact ⟨_, rfl, s2.trans s3⟩
        · rintro σ H1 ⟨o, rfl, s2⟩
          exact k H1 s2
      | @lst m a xs ds hx hz hl kx =>
        cases dy with
        | @lst _ b ys _ hy hz' hl' ky =>
        refine ⟨rfl, _, rfl, iteD (fun z => nomatch z) ?_⟩
        refine ⟨_, false, .lst hy, kt_list_bool K, _, rfl, iteF ?_⟩
        refine ⟨_, false, .lst hy, kt_list_int K, _, rfl, iteF ?_⟩
        refine ⟨_, false, .lst hy, kt_list_str K, _, rfl, iteF ?_⟩
        refine ⟨_, false, .lst hy, kt_list_dict K, _, rfl, iteF ?_⟩
        refine ⟨_, false, .lst hy, kt_list_tuple K, _, false, .lst hx, kt_list_tuple K, _, .scal rfl, _, rfl, iteNS rfl ?_⟩
        refine ⟨_, true, .lst hy, kt_list_list K, _, true, .lst hx, kt_list_list K, _, .scal rfl, _, rfl, iteNS rfl ?_⟩
        refine ⟨by show 2 ≤ sizeLine; decide, fun p hp => ?_⟩
        have s1 := same_upd (o := .tup [.ty "list", .ty "tuple"]) hp
        refine ⟨["list", "tuple"], _, true, upd_same, .lst (s1 _ _ hy), ka_list_lt K, _, rfl, iteNT ?_⟩
        refine ⟨xs.length, .inl ⟨_, .inl (SqL.of (s1 _ _ hx)), rfl⟩, ys.length, .inl ⟨_, .inl (SqL.of (s1 _ _ hy)), rfl⟩, _, .scal rfl, _, rfl, iteNS (congrArg (fun n : Nat => V.int n) (hl.trans hl'.symm)) ?_⟩
        refine ⟨ys.length, .inl ⟨_, .inl (SqL.of (s1 _ _ hy)), rfl⟩, _, rfl, by omega, by rw [sizeLine_eq] at hz'; omega, ?_⟩
        refine for_range (n := ((ys.length : Int)).toNat) (fun j σ H' => ∃ o, σ = [some (.ref a), some (.ref b), o] ∧ Same H H') ⟨_, rfl, s1⟩ ?_ ?_
        · rintro j σ H1 hj ⟨o, rfl, s2⟩
          have hj' : j < ys.length := by omega
          have g1 : xs[j]? = some xs[j] := List.getElem?_eq_getElem (by omega)
          have g2 : ys[j]? = some ys[j] := List.getElem?_eq_getElem hj'
          have g3 : ds[j]? = some ds[j] := List.getElem?_eq_getElem (by omega)
          refine ⟨_, .lst (SqL.of (s2 _ _ hx)) (by rw [Int.zero_add]; exact atI_nat g1), _, .lst (SqL.of (s2 _ _ hy)) (by rw [Int.zero_add]; exact atI_nat g2), ?_⟩
          refine ⟨_, _, ds[j], rfl, (kx j _ _ g1 g3).mono s2, (ky j _ _ g2 g3).mono s2, fun H2 s3 => ⟨_, rfl, iteNT ?_⟩⟩
          exact ⟨_, rfl, s2.trans s3⟩
        · rintro σ H1 ⟨o, rfl, s2⟩
          exact k H1 s2
      | @dct m a ps qs ds hx hz hp hs hl ke kx =>
        cases dy with
        | @dct _ b ps' qs' _ hy hz' hp' hs' hl' ke' ky =>
        refine ⟨rfl, _, rfl, iteD (fun z => nomatch z) ?_⟩
        refine ⟨_, false, .dK hy, kt_dict_bool K, _, rfl, iteF ?_⟩
        refine ⟨_, false, .dK hy, kt_dict_int K, _, rfl, iteF ?_⟩
        refine ⟨_, false, .dK hy, kt_dict_str K, _, rfl, iteF ?_⟩
        refine ⟨_, true, .dK hy, kt_dict_dict K, _, rfl, iteT ?_⟩
        refine ⟨_, true, .dK hx, kt_dict_dict K, _, rfl, iteT ?_⟩
        refine ⟨.inr (.inr (.inl ⟨rfl, .inl ⟨_, hx⟩⟩)), _, _, rfl, rfl, .inl hx, fun v1 hv1 => ?_⟩
        have s1 := same_upd (o := ItV v1 a) hv1
        refine ⟨_, rfl, .inr (.inr (.inr ⟨a, ps, upd_same, .inl (s1 _ _ hx), hz, fun us1 ps1 H1 s2 R1 _ pp1 pw1 l1 hl1 => ?_⟩))⟩
        have s3 := same_upd (o := .lst us1) hl1
        have sA : Same H (upd H1 l1 (.lst us1)) := (s1.trans s2).trans s3
        refine ⟨.inr (.inr (.inl ⟨rfl, .inl ⟨_, sA _ _ hy⟩⟩)), _, _, rfl, rfl, .inl (sA _ _ hy), fun v2 hv2 => ?_⟩
        have s4 := same_upd (o := ItV v2 b) hv2
        refine ⟨_, rfl, .inr (.inr (.inr ⟨b, ps', upd_same, .inl (s4 _ _ (sA _ _ hy)), hz', fun us2 ps2 H2 s5 R2 _ pp2 pw2 l2 hl2 => ?_⟩))⟩
        have s6 := same_upd (o := .lst us2) hl2
        obtain rfl : ps1 = qs := sorted_one (f := fun p : Int × V => p.1) (pp1.trans hp.symm) pw1 hs
        obtain rfl : ps2 = qs' := sorted_one (f := fun p : Int × V => p.1) (pp2.trans hp'.symm) pw2 hs'
        have d1 := deep_items (ds := ds) hl1 R1 hl (by rw [hp.length_eq]; exact hz) ke fun j q d h1 h2 => (kx j q d h1 h2).mono (s1.trans s2)
        have d2 := deep_items (ds := ds) hl2 R2 hl' (by rw [hp'.length_eq]; exact hz') ke' fun j q d h1 h2 => (ky j q d h1 h2).mono ((sA.trans s4).trans s5)
        have sB := (s4.trans s5).trans s6
        exact ⟨_, _, _, rfl, d1.mono sB, d2, fun H3 s7 => k H3 ((sA.trans sB).trans s7)⟩

def spWhole : Sp := fun vs H Q _ => ∃ i : Int, vs = [.int i] ∧ Q (.bl true) H
theorem own_whole (NB : NBs mg) (D : DefAt K mg "_law_whole" s_whole ["_law_found"]) : L2.Own P w K mg base "_law_whole" 1 ["_law_found"] spWhole := by
  refine D.own sc_whole (fun vs H Q E h => ?_) (fun f cdv A outer s H vs Q E hr h => ?_)
  · obtain ⟨i, rfl, _⟩ := h; rfl
  · obtain ⟨i, rfl, k⟩ := h
    refine ⟨_, (pss_one (ps_ret (pe_and (pe_callB call_isinstanceG (by rfl) NB.isinstance bb_isinstance (pa_cons (nv 0) (pa_cons (nt NB.int bb_int) pa_nil))) (pe_one (pe_not (pe_callB call_isinstanceG (by rfl) NB.isinstance bb_isinstance (pa_cons (nv 0) (pa_cons (nt NB.bool bb_bool) pa_nil)))))))), ?_⟩
    refine ⟨_, true, .int i, kt_int_int K, _, rfl, ?_⟩
    refine iteT ?_
    refine ⟨_, false, .int i, kt_int_bool K, _, rfl, ?_⟩
    exact k
def spAt (K : PySem.W.Frag) : Sp := fun vs H Q _ => ∃ (a : Addr) (ns : List Int) (i : Int), vs = [.ref a, .int i] ∧ SqL K H a (ns.map V.int) ∧ 0 ≤ i ∧ Q (.int (ns.getD i.toNat 0)) H
theorem own_at (NB : NBs mg) (D : DefAt K mg "_law_at" s_at ["_law_script", "_law_k"]) : L2.Own P w K mg base "_law_at" 1 ["_law_script", "_law_k"] (spAt K) := by
  refine D.own sc_at (fun vs H Q E h => ?_) (fun f cdv A outer s H vs Q E hr h => ?_)
  · obtain ⟨a, ns, i, rfl, _⟩ := h; rfl
  · obtain ⟨a, ns, i, rfl, hS, h0, k⟩ := h
    have hu := hu_of hr
    refine ⟨_, (pss_cons (ps_if (pt_cmpR op_ltG (nv 1) (pe_callB call_lenG (by rfl) NB.len bb_len (pa_cons (nv 0) pa_nil)) (nomark _)) (pss_one (ps_ret (pe_ix (ixG hu) (nv 0) (nv 1) (fun _ _ => rfl)))) pss_nil)
  (pss_one (ps_ret pe_int))), ?_⟩
    refine ⟨ns.length, .inl ⟨_, .inl hS, by simp⟩, _, rfl, ?_⟩
    by_cases h : i < (ns.length : Int)
    · refine iteDT h ?_
      obtain ⟨n, rfl⟩ := Int.eq_ofNat_of_zero_le h0
      have hn : n < ns.length := by omega
      have e : ns.getD ((n : Int)).toNat 0 = ns[n] := by simp [hn]
      rw [e] at k
      exact ⟨_, .lst hS (atI_nat (by simp [hn])), k⟩
    · refine iteD h ?_
      have e : ns.getD i.toNat 0 = 0 := by
        have : ns.length ≤ i.toNat := by omega
        simp [this]
      rw [e] at k
      exact k
end
end K03

set_option Elab.async false
set_option linter.all false
set_option maxRecDepth 100000
set_option maxHeartbeats 4000000
namespace K03
open PySem L2 N3
seal L2.PE L2.PA L2.PS L2.PSs
def spMost : Sp := fun vs H Q _ => ∃ c m : Int, vs = [.int c, .int m] ∧ Q (.bl (decide (c < 2 * m))) H
/-- writings: a list of tuples -/
structure WrA (H : Hp) (l : Addr) (us : List V) (ws : List Wr) (c : Int) : Prop where
  at_ : H l = some (.lst us)
  rows : _root_.Own.Rows H us (ws.map wrow)
  few : ws.length < 64
  in_ : ∀ x ∈ ws, 0 ≤ x.2.1 ∧ x.2.1 < c
  pos : 0 ≤ c
theorem rows_same {H H' : Hp} {us : List V} {rows : List (List V)} (R : _root_.Own.Rows H us rows) (s : Same H H') : _root_.Own.Rows H' us rows := Paired.mapP R fun u r ⟨a, e, h⟩ => ⟨a, e, s _ _ h⟩
theorem WrA.keep {H H' : Hp} {l : Addr} {us : List V} {ws : List Wr} {c : Int} (W : WrA H l us ws c) (s : Same H H') : WrA H' l us ws c := ⟨s _ _ W.at_, rows_same W.rows s, W.few, W.in_, W.pos⟩
theorem rows_at {H : Hp} {us : List V} {rows : List (List V)} (R : _root_.Own.Rows H us rows) {i : Nat} {x : V} {row : List V} (h1 : us[i]? = some x) (h2 : rows[i]? = some row) : ∃ t, x = .ref t ∧ H t = some (.tup row) := paired_get (show Paired _ _ _ from R) h1 h2
theorem WrA.len {H : Hp} {l : Addr} {us : List V} {ws : List Wr} {c : Int} (W : WrA H l us ws c) : us.length = ws.length := by have := Paired.length W.rows; rwa [List.length_map] at this
theorem WrA.get {H : Hp} {l : Addr} {us : List V} {ws : List Wr} {c : Int} (W : WrA H l us ws c) {i : Nat} {x : V} (h : us[i]? = some x) : ∃ t y, x = .ref t ∧ ws[i]? = some y ∧ H t = some (.tup (wrow y)) ∧ i < ws.length := by
  have hi : i < ws.length := by have := (List.getElem?_eq_some_iff.mp h).1; rw [W.len] at this; exact this
  obtain ⟨t, e1, e2⟩ := rows_at W.rows h (show (ws.map wrow)[i]? = some (wrow ws[i]) by rw [List.getElem?_map, List.getElem?_eq_getElem hi]; rfl)
  exact ⟨t, ws[i], e1, List.getElem?_eq_getElem hi, e2, hi⟩
def spSts : Sp := fun vs H Q _ => ∃ (c : Int) (l : Addr) (us : List V) (ws : List Wr), vs = [.int c, .ref l] ∧ WrA H l us ws c ∧
  ∀ f us' H', H f = none → H' f = some (.lst us') → _root_.Own.Rows H' us' ((sts c (ws.map kof) ws.length).map srow) → Same H H' → Q (.ref f) H'
theorem sts_len {α : Type} [DecidableEq α] (c : Int) (ws : List (α × Int)) : ∀ i, (sts c ws i).length ≤ i
  | 0 => Nat.le_refl _
  | i + 1 => by
    have ih := sts_len c ws i
    simp only [sts, List.length_append]
    cases ws[i]? with
    | none => simp; omega
    | some p => simp only; split <;> simp <;> omega
section
variable {P : Program} {w : World} {K : PySem.W.Frag} {mg : Str → Option Value} {base : Heap}
theorem own_is_most (D : DefAt K mg "is_most" s_is_most ["count", "many"]) : L2.Own P w K mg base "is_most" 1 ["count", "many"] spMost := by
  refine D.own sc_is_most (fun vs H Q E h => ?_) (fun f cdv A outer s H vs Q E hr h => ?_)
  · obtain ⟨c, m, rfl, _⟩ := h; rfl
  · obtain ⟨c, m, rfl, k⟩ := h
    refine ⟨_, (pss_one (ps_ret (pe_cmpR op_gtG (pe_op op_mulG pe_int (nv 1)) (nv 0) (nomark _)))), ?_⟩
    exact ⟨.inl ⟨by decide, by decide⟩, k⟩
theorem own_settlings (NB : NBs mg) (O_is_most : L2.Own P w K mg base "is_most" 1 ["count", "many"] spMost) (D : DefAt K mg "settlings" s_settlings ["count", "writings"]) : L2.Own P w K mg base "settlings" 2 ["count", "writings"] spSts := by
  refine D.own sc_settlings (fun vs H Q E h => ?_) (fun f cdv A outer s H vs Q E hr h => ?_)
  · obtain ⟨c, l, us, ws, rfl, _⟩ := h; rfl
  · obtain ⟨c, l, us, ws, rfl, W, k⟩ := h
    have hu := hu_of hr
    have nd := sc_settlings.nd
    refine ⟨_, (pss_cons (ps_setG nd 2 pe_dnewT)
  (pss_cons (ps_setG nd 3 (pe_lst pa_nil))
  (pss_cons (ps_for PassesOwn.never rfl (pi_enum rfl NB.enumerate (nv 1) pe_int) (pg_tup rfl (pgs_cons (pg_nameG nd 4) (pgs_cons (pg_tup rfl (pgs_cons (pg_nameG nd 5) (pgs_cons (pg_nameG nd 6) (pgs_cons (pg_nameG nd 7) (pgs_cons (pg_nameG nd 8) pgs_nil))))) pgs_nil))) (pss_cons (ps_setG nd 9 (pe_bm PySem.F.plainAttrs_dict PySem.F.slot_dict_setdefault PySem.F.type_dict_setdefault (mt_setT hr) (nv 2) (pa_cons (pe_tup (pa_cons (nv 7) (pa_cons (nv 5) (pa_cons (nv 8) pa_nil)))) (pa_cons pe_dnewK pa_nil))))
  (pss_cons (ps_if (PW.pt (pw_or (pt_cmpR (op_inG hr) (nv 6) (nv 9) (by with_unfolding_all rfl)) (pw_or1 (pt_not (pt_chain op_leG op_ltG pe_int (nv 6) (nv 0)))))) (pss_one ps_continue) pss_nil)
  (pss_cons (ps_dput hu (nv 9) (nv 6) pe_bl rfl)
  (pss_one (ps_if (PW.pt (pw_and (pt_val (pe_own O_is_most hr rfl (pa_cons (nv 0) (pa_cons (pe_callB call_lenG (by rfl) NB.len bb_len (pa_cons (nv 9) pa_nil)) pa_nil)))) (pw_and1 (pt_not (pt_val (pe_own O_is_most hr rfl (pa_cons (nv 0) (pa_cons (pe_op op_subG (pe_callB call_lenG (by rfl) NB.len bb_len (pa_cons (nv 9) pa_nil)) pe_int) pa_nil)))))))) (pss_one (ps_expr (pe_bm PySem.F.plainAttrs_list PySem.F.slot_list_append PySem.F.type_list_append mt_append (nv 3) (pa_cons (pe_tup (pa_cons (nv 7) (pa_cons (nv 5) (pa_cons (nv 8) (pa_cons (nv 4) pa_nil))))) pa_nil)))) pss_nil))))))
  (pss_one (ps_ret (nv 3)))))), ?_⟩
    intro d nd0
    refine ⟨Nat.zero_le _, fun fo nf => ?_⟩
    have s0 : Same H (upd (upd H d (.dT [])) fo (.lst [])) := (same_upd nd0).trans (same_upd nf)
    have W0 := W.keep s0
    refine ⟨rfl, l, rfl, ⟨us, SqL.of W0.at_⟩, ?_⟩
    have lu := W.len
    have dn : fo ≠ d := fun z => by rw [z, upd_same] at nf; cases nf
    have fn0 : H fo = none := by rwa [upd_ne dn] at nf
    refine for_enum (xs := us) (fun i σ H1 => ∃ kvs us' o4 o5 o6 o7 o8 o9, σ = [some (.int c), some (.ref l), some (.ref d), some (.ref fo), o4, o5, o6, o7, o8, o9] ∧ Bk H H1 d ((ws.map kof).take i) kvs ∧ kvs.length ≤ i ∧ H1 fo = some (.lst us') ∧ _root_.Own.Rows H1 us' ((sts c (ws.map kof) i).map srow) ∧ Same H H1) ?_ ?_ ?_ ?_
    · refine ⟨[], [], _, _, _, _, _, _, rfl, ⟨(upd_ne (Ne.symm dn)).trans upd_same, fun k => .inl ⟨rfl, rfl⟩, fun k k' a h => nomatch h⟩, Nat.le_refl _, upd_same, .nil, s0⟩
    · rintro i σ H1 _ ⟨_, _, _, _, _, _, _, _, _, _, _, _, _, s1⟩
      exact SqL.of (s1 _ _ W.at_)
    · rintro i x t σ H1 hx ht ⟨kvs, us', o4, o5, o6, o7, o8, o9, rfl, B, kl, hf, R, s1⟩
      obtain ⟨tw, y, rfl, hy, hw, hi⟩ := W.get hx
      have sA := same_upd (o := .tup [.int ((i : Int) + 1), .ref tw]) ht
      have B1 := B.keep sA
      refine ⟨t, _, rfl, SqT.of upd_same, rfl, _, _, rfl, _, _, rfl, tw, _, rfl, SqT.of (sA _ _ (s1 _ _ hw)), rfl, _, _, rfl, _, _, rfl, _, _, rfl, _, _, rfl, rfl, rfl, ?_⟩
      refine ⟨.inr (.inr (.inl ⟨rfl, .inr ⟨_, B1.at_⟩⟩)), by show 3 ≤ sizeLine; decide, fun p hp q hq => ?_⟩
      have sB := same_upd (o := .tup [.int y.2.2.1, .int y.1, .str y.2.2.2]) hp
      have B2 := B1.keep sB
      have sAB : Same H1 _ := sA.trans sB
      refine Bk.setd (k := (kof y).1) B2 upd_same hq (s1.trans sAB) (by have := W.few; omega) fun a kv2 H2 B3 va kl2 kp => ?_
      have et : (ws.map kof).take (i + 1) = (ws.map kof).take i ++ [((kof y).1, y.2.1)] := by
        rw [take_snoc (p := kof y) (by rw [List.getElem?_map, hy]; rfl)]; rfl
      have hp' : (ws.map kof)[i]? = some (kof y) := by rw [List.getElem?_map, hy]; rfl
      have fd : fo ≠ d := dn
      have hf2 := kp _ _ (sAB _ _ hf) fd
      have R2 : _root_.Own.Rows H2 us' ((sts c (ws.map kof) i).map srow) := Paired.mapP R fun u r ⟨b, e, h⟩ => ⟨b, e, kp _ _ (sAB _ _ h) (ne_of h B.at_ (fun z => nomatch z))⟩
      have s2 : Same H H2 := fun b u e => kp _ _ (sAB _ _ (s1 _ _ e)) (ne_of_none e nd0)
      obtain ⟨a', ea, na, ha⟩ := B3.at_key va
      cases ea
      have yin := W.in_ y (List.mem_of_getElem? hy)
      generalize hpre : (ws.map kof).take i = pre at B3 et ha
      generalize hL : hnd (kof y).1 pre = Ls at ha
      have lL : Ls.length ≤ i := by rw [← hL]; have := hnd_len (kof y).1 pre; rw [← hpre] at this ⊢; rw [List.length_take] at this; omega
      refine ⟨_, .dct (DGet.k (k := Sum.inl y.2.1) ha), _, rfl, ?_⟩
      rw [val_hK]
      by_cases hs : y.2.1 ∈ Ls
      · rw [if_pos hs]
        have nc : crs c pre (kof y) = false := by
          unfold crs
          have : y.2.1 ∈ hnd (kof y).1 pre := by rw [hL]; exact hs
          rw [show (kof y).2 = y.2.1 from rfl, decide_eq_true this]; rfl
        refine iteT (iteT ⟨kv2, us', _, _, _, _, _, _, rfl, ?_, by omega, hf2, ?_, s2⟩)
        · rw [et]; exact B3.seen (by rw [hL]; exact hs)
        · simp only [sts, hp', hpre, nc, Bool.false_eq_true, if_false, List.append_nil]; exact R2
      · rw [if_neg hs]
        refine iteF ⟨_, rfl, iteDT yin.1 ⟨_, rfl, iteNS yin.2 ?_⟩⟩
        refine ⟨_, _, rfl, DPut.k (k := Sum.inl y.2.1) ha (small1000 (by rw [hK_len]; have := W.few; omega)), ?_⟩
        rw [put_hK hs]
        have B4 := B3.hand (s := y.2.1) va (by rw [hL]; exact hs)
        rw [hL] at B4
        have ha4 : upd H2 a (.dK (hK (Ls ++ [y.2.1]))) a = some (.dK (hK (Ls ++ [y.2.1]))) := upd_same
        have kp4 : ∀ b u, H2 b = some u → (∀ kvs, u ≠ .dK kvs) → upd H2 a (.dK (hK (Ls ++ [y.2.1]))) b = some u := fun b u e h => (upd_ne (fun z => by rw [z, ha] at e; cases e; exact h _ rfl)).trans e
        have hf4 := kp4 _ _ hf2 (fun _ z => nomatch z)
        have R4 : _root_.Own.Rows (upd H2 a (.dK (hK (Ls ++ [y.2.1])))) us' ((sts c (ws.map kof) i).map srow) := Paired.mapP R2 fun u r ⟨b, e, h⟩ => ⟨b, e, kp4 _ _ h (fun _ z => nomatch z)⟩
        have s4 : Same H (upd H2 a (.dK (hK (Ls ++ [y.2.1])))) := fun b u e => (upd_ne (ne_of_none e na)).trans (s2 _ _ e)
        generalize upd H2 a (.dK (hK (Ls ++ [y.2.1]))) = H4 at B4 ha4 hf4 R4 s4
        have ll : (hK (Ls ++ [y.2.1])).length = Ls.length + 1 := by rw [hK_len, List.length_append]; rfl
        have nn : decide ((kof y).2 ∈ hnd (kof y).1 pre) = false := by rw [hL]; exact decide_eq_false hs
        have ex : crs c pre (kof y) = (decide (c < 2 * ((Ls.length : Int) + 1)) && !decide (c < 2 * (Ls.length : Int))) := by
          unfold crs; rw [nn, hL]; rfl
        refine ⟨_, .inr ⟨_, ha4, rfl⟩, c, _, rfl, _, rfl, ?_⟩
        rw [ll]
        have fin : crs c pre (kof y) = false → ∃ kvs us' o4 o5 o6 o7 o8 o9, [some (V.int c), some (V.ref l), some (V.ref d), some (V.ref fo), some (V.int ((i : Int) + 1)), some (V.int y.1), some (V.int y.2.1), some (V.int y.2.2.1), some (V.str y.2.2.2), some (V.ref a)] = [some (V.int c), some (V.ref l), some (V.ref d), some (V.ref fo), o4, o5, o6, o7, o8, o9] ∧ Bk H H4 d ((ws.map kof).take (i + 1)) kvs ∧ kvs.length ≤ i + 1 ∧ H4 fo = some (.lst us') ∧ _root_.Own.Rows H4 us' ((sts c (ws.map kof) (i + 1)).map srow) ∧ Same H H4 := fun nc =>
          ⟨kv2, us', _, _, _, _, _, _, rfl, by rw [et]; exact B4, by omega, hf4, by simp only [sts, hp', hpre, nc, Bool.false_eq_true, if_false, List.append_nil]; exact R4, s4⟩
        by_cases h1 : c < 2 * (((Ls.length + 1 : Nat)) : Int)
        · refine iteDT h1 ?_
          refine ⟨_, .inr ⟨_, ha4, rfl⟩, c, _, rfl, _, rfl, ?_⟩
          rw [ll]
          by_cases h2 : c < 2 * ((((Ls.length + 1 : Nat)) : Int) - 1)
          · refine iteNS h2 (fin ?_)
            rw [ex, decide_eq_true (show c < 2 * ((Ls.length : Int)) by omega)]; simp
          · rw [decide_eq_false h2]
            refine iteT ?_
            have yc : crs c pre (kof y) = true := by
              rw [ex, decide_eq_true (by omega), decide_eq_false (by omega)]; rfl
            refine ⟨.inl ⟨rfl, _, SqL.of hf4⟩, by show 4 ≤ sizeLine; decide, fun p5 n5 => ?_⟩
            have s5 := same_upd (o := .tup [.int y.2.2.1, .int y.1, .str y.2.2.2, .int ((i : Int) + 1)]) n5
            have lus : us'.length ≤ i := by have h1 := Paired.length R4; have h2 := sts_len c (ws.map kof) i; rw [List.length_map] at h1; omega
            refine ⟨_, _, _, rfl, rfl, s5 _ _ hf4, small1000 (by have := W.few; omega), ?_⟩
            have kp6 : ∀ b u, upd H4 p5 (.tup [.int y.2.2.1, .int y.1, .str y.2.2.2, .int ((i : Int) + 1)]) b = some u → (∀ xs, u ≠ .lst xs) → upd (upd H4 p5 (.tup [.int y.2.2.1, .int y.1, .str y.2.2.2, .int ((i : Int) + 1)])) fo (.lst (us' ++ [.ref p5])) b = some u := fun b u e h => (upd_ne (fun z => by rw [z, s5 _ _ hf4] at e; cases e; exact h _ rfl)).trans e
            refine ⟨kv2, us' ++ [.ref p5], _, _, _, _, _, _, rfl, ?_, by omega, upd_same, ?_, fun b u e => ?_⟩
            · rw [et]
              have B5 := B4.keep s5
              exact ⟨kp6 _ _ B5.at_ (fun _ z => nomatch z), fun k => (B5.val k).imp id fun ⟨a, h1, h2, h3⟩ => ⟨a, h1, h2, kp6 _ _ h3 (fun _ z => nomatch z)⟩, B5.inj⟩
            · simp only [sts, hp', hpre, yc, if_true, List.map_append]
              exact Paired.snoc (Paired.mapP R4 fun u r ⟨b, e, h⟩ => ⟨b, e, kp6 _ _ (s5 _ _ h) (fun _ z => nomatch z)⟩) ⟨p5, rfl, kp6 _ _ upd_same (fun _ z => nomatch z)⟩
            · rw [upd_ne (fun z => by rw [z, fn0] at e; cases e)]; exact s5 _ _ (s4 _ _ e)
        · refine iteD h1 (iteF (fin ?_))
          rw [ex, decide_eq_false (show ¬ c < 2 * ((Ls.length : Int) + 1) by omega)]; rfl
    · rintro σ H1 ⟨kvs, us', o4, o5, o6, o7, o8, o9, rfl, B, kl, hf, R, s1⟩
      rw [lu] at R
      exact k fo us' H1 fn0 hf R s1
end
end K03

set_option Elab.async false
set_option linter.all false
set_option maxRecDepth 100000
set_option maxHeartbeats 4000000
namespace K03
open PySem L2 N3
seal L2.PE L2.PA L2.PS L2.PSs
def spIn : Sp := fun vs H Q _ => ∃ (c : Int) (l : Addr) (us : List V) (ws : List Wr), vs = [.int c, .ref l] ∧ WrA H l us ws c ∧
  ∀ (r : Addr) (us' : List V) (ks : List K3) (H' : Hp), H r = none → H' r = some (.lst us') → ks.Perm (alls c (ws.map kof) ws.length) → Ordd ks → _root_.Own.Rows H' us' ((ddp (ks.map prj)).map fun p => (pK p).map kV) → Same H H' → Q (.ref r) H'
def spFirst : Sp := fun vs H Q _ => ∃ (c : Int) (l : Addr) (us : List V) (ws : List Wr), vs = [.int c, .ref l] ∧ WrA H l us ws c ∧
  ∀ (r : Addr) (us' : List V) (fs : List (Int × Nat)) (H' : Hp), H r = none → H' r = some (.lst us') → fs.Perm (fss (fun k : K3 => k.1) c (ws.map kof)) → fs.Pairwise (fun a b => a.1 < b.1) → _root_.Own.Rows H' us' (fs.map fun p => [V.int p.1, V.int (p.2 : Int)]) → Same H H' → Q (.ref r) H'
def spAlls : Sp := fun vs H Q _ => ∃ (c : Int) (l : Addr) (us : List V) (ws : List Wr), vs = [.int c, .ref l] ∧ WrA H l us ws c ∧
  ∀ r us' H', H r = none → H' r = some (.lst us') → _root_.Own.Rows H' us' ((alls c (ws.map kof) ws.length).map fun k => (kL k).map kV) → Same H H' → Q (.ref r) H'
theorem none_of_same {H H' : Hp} {b : Addr} (s : Same H H') (h : H' b = none) : H b = none := by
  cases e : H b with
  | none => rfl
  | some u => rw [s _ _ e] at h; cases h
section
variable {P : Program} {w : World} {K : PySem.W.Frag} {mg : Str → Option Value} {base : Heap}
theorem own_settled_in (NB : NBs mg) (O_settlings : L2.Own P w K mg base "settlings" 2 ["count", "writings"] spSts) (D : DefAt K mg "settled_in" s_settled_in ["count", "writings"]) : L2.Own P w K mg base "settled_in" 3 ["count", "writings"] spIn := by
  refine D.own sc_settled_in (fun vs H Q E h => ?_) (fun f cdv A outer s H vs Q E hr h => ?_)
  · obtain ⟨c, l, us, ws, rfl, _⟩ := h; rfl
  · obtain ⟨c, l, us, ws, rfl, W, k⟩ := h
    have hu := hu_of hr
    have nd := sc_settled_in.nd
    refine ⟨_, (pss_cons (ps_setG nd 2 pe_dnewT)
  (pss_cons (ps_for PassesOwn.never rfl (pi_list (pe_callB call_sortedG (by rfl) NB.sorted bb_sorted (pa_cons (pe_own O_settlings hr rfl (pa_cons (nv 0) (pa_cons (nv 1) pa_nil))) pa_nil))) (pg_tup rfl (pgs_cons (pg_nameG nd 3) (pgs_cons (pg_nameG nd 4) (pgs_cons (pg_nameG nd 5) (pgs_cons (pg_nameG nd 6) pgs_nil))))) (pss_one (ps_dput hu (nv 2) (pe_tup (pa_cons (nv 3) (pa_cons (nv 5) pa_nil))) pe_bl rfl)))
  (pss_one (ps_ret (pe_callTy call_listT (by rfl) NB.list bb_list (pa_cons (nv 2) pa_nil)))))), ?_⟩
    intro d nd0
    have s0 := same_upd (o := .dT []) nd0
    refine ⟨c, l, us, ws, rfl, W.keep s0, fun fo us' H1 nf hf R s1 => ?_⟩
    have lf : us'.length < 64 := by
      have h1 := Paired.length R
      have h2 := sts_len c (ws.map kof) ws.length
      have h3 := W.few
      rw [List.length_map] at h1; omega
    refine ⟨fo, rfl, .inr (.inl ⟨us', (sts c (ws.map kof) ws.length).map enc4, [true, false, true], SqL.of hf, by rw [List.map_map]; exact R, lf, fun r hr => ?_, fun us2 rows2 R2 pu pr pw p np => ?_⟩)⟩
    · obtain ⟨x, _, rfl⟩ := List.mem_map.mp hr; rfl
    obtain ⟨xs, rfl, px⟩ := coded dec_enc4 pr
    have s2 := same_upd (o := .lst us2) np
    have R3 := rows_same R2 s2
    have l2 : us2.length = xs.length := by have := Paired.length R2; rwa [List.length_map, List.length_map] at this
    have lx : xs.length < 64 := by have := pu.length_eq; omega
    refine ⟨p, rfl, ⟨us2, SqL.of upd_same⟩, ?_⟩
    have sA := (s0.trans s1).trans s2
    refine for_list (xs := us2) (fun i σ H3 => ∃ o3 o4 o5 o6, σ = [some (.int c), some (.ref l), some (.ref d), o3, o4, o5, o6] ∧ H3 d = some (.dT (pT (ddp ((xs.take i).map fun x => prj x.1)))) ∧ ∀ b u, (upd H1 p (.lst us2)) b = some u → b ≠ d → H3 b = some u) ?_ ?_ ?_ ?_
    · exact ⟨_, _, _, _, rfl, s2 _ _ (s1 _ _ upd_same), fun b u e _ => e⟩
    · rintro i σ H3 _ ⟨_, _, _, _, _, h3, kp⟩
      refine SqL.of (kp _ _ upd_same fun z => ?_)
      rw [z, s1 _ _ upd_same] at np; cases np
    · rintro i x σ H3 hx ⟨o3, o4, o5, o6, rfl, h3, kp⟩
      have hi : i < xs.length := by have := (List.getElem?_eq_some_iff.mp hx).1; omega
      obtain ⟨t, rfl, ht⟩ := rows_at R3 hx (show _ = some (srow xs[i]) by rw [List.map_map, List.getElem?_map, List.getElem?_eq_getElem hi]; rfl)
      have td : t ≠ d := fun z => by rw [z, s2 _ _ (s1 _ _ upd_same)] at ht; cases ht
      refine ⟨t, _, rfl, SqT.of (kp _ _ ht td), rfl, _, _, rfl, _, _, rfl, _, _, rfl, _, _, rfl, rfl, ?_⟩
      refine ⟨by show 2 ≤ sizeLine; decide, fun q nq => ?_⟩
      have dq : d ≠ q := ne_of_none h3 nq
      have lk : (pT (ddp ((xs.take i).map fun x => prj x.1))).length ≤ 1000 := by
        have := ddp_len ((xs.take i).map fun x => prj x.1)
        unfold pT; rw [List.length_map]; rw [List.length_map, List.length_take] at this; omega
      refine ⟨_, _, rfl, DPut.t (k := pK (prj xs[i].1)) ((upd_ne dq).trans h3) upd_same (small1000 lk), ?_⟩
      refine ⟨_, _, _, _, rfl, ?_, fun b u e hb => ?_⟩
      · rw [upd_same, put_ddp, List.take_succ_eq_append_getElem hi, List.map_append, List.map_cons, List.map_nil]
      · rw [upd_ne hb, upd_ne (ne_of_none (kp _ _ e hb) nq)]; exact kp _ _ e hb
    · rintro σ H3 ⟨o3, o4, o5, o6, rfl, h3, kp⟩
      rw [l2, List.take_length] at h3
      refine ⟨_, _, rfl, .inl h3, fun us4 R4 r nr => ?_⟩
      have s4 := same_upd (o := .lst us4) nr
      have sZ : Same H H3 := fun b u e => kp _ _ (sA _ _ e) (ne_of_none e nd0)
      refine k r us4 (xs.map (·.1)) _ (none_of_same sZ nr) upd_same ?_ (ord_front pw) ?_ (sZ.trans s4)
      · rw [alls_sts c W.pos]; exact px.map _
      · have := rows_keys R4 s4
        rw [List.map_map]; exact this
end
end K03

set_option Elab.async false
set_option linter.all false
set_option maxRecDepth 100000
set_option maxHeartbeats 4000000
namespace K03
open PySem L2 N3
seal L2.PE L2.PA L2.PS L2.PSs
section
variable {P : Program} {w : World} {K : PySem.W.Frag} {mg : Str → Option Value} {base : Heap}
theorem own_first_settled (NB : NBs mg) (O_settlings : L2.Own P w K mg base "settlings" 2 ["count", "writings"] spSts) (D : DefAt K mg "first_settled" s_first_settled ["count", "writings"]) : L2.Own P w K mg base "first_settled" 3 ["count", "writings"] spFirst := by
  refine D.own sc_first_settled (fun vs H Q E h => ?_) (fun f cdv A outer s H vs Q E hr h => ?_)
  · obtain ⟨c, l, us, ws, rfl, _⟩ := h; rfl
  · obtain ⟨c, l, us, ws, rfl, W, k⟩ := h
    have hu := hu_of hr
    have nd := sc_first_settled.nd
    refine ⟨_, (pss_cons (ps_setG nd 2 pe_dnewK)
  (pss_cons (ps_for PassesOwn.never rfl (pi_list (pe_own O_settlings hr rfl (pa_cons (nv 0) (pa_cons (nv 1) pa_nil)))) (pg_tup rfl (pgs_cons (pg_nameG nd 3) (pgs_cons (pg_nameG nd 4) (pgs_cons (pg_nameG nd 5) (pgs_cons (pg_nameG nd 6) pgs_nil))))) (pss_one (ps_expr (pe_bm PySem.F.plainAttrs_dict PySem.F.slot_dict_setdefault PySem.F.type_dict_setdefault mt_setdef (nv 2) (pa_cons (nv 3) (pa_cons (nv 6) pa_nil))))))
  (pss_one (ps_ret (pe_callB call_sortedG (by rfl) NB.sorted bb_sorted (pa_cons (pe_bm0 PySem.F.plainAttrs_dict PySem.F.slot_dict_items PySem.F.type_dict_items mt_items (nv 2)) pa_nil)))))), ?_⟩
    intro d nd0
    have s0 := same_upd (o := .dK []) nd0
    refine ⟨c, l, us, ws, rfl, W.keep s0, fun fo us' H1 nf hf R s1 => ?_⟩
    generalize hx : sts c (ws.map kof) ws.length = xs at R
    have l2 : us'.length = xs.length := by have := Paired.length R; rwa [List.length_map] at this
    have lx : xs.length < 64 := by rw [← hx]; have h2 := sts_len c (ws.map kof) ws.length; have h3 := W.few; omega
    refine ⟨fo, rfl, ⟨us', SqL.of hf⟩, ?_⟩
    have sA := s0.trans s1
    have fd : fo ≠ d := fun z => by rw [z, upd_same] at nf; cases nf
    refine for_list (xs := us') (fun i σ H3 => ∃ o3 o4 o5 o6, σ = [some (.int c), some (.ref l), some (.ref d), o3, o4, o5, o6] ∧ H3 d = some (.dK (fK (fst1 ((xs.take i).map fun x => (x.1.1, x.2))))) ∧ ∀ b u, H1 b = some u → b ≠ d → H3 b = some u) ?_ ?_ ?_ ?_
    · exact ⟨_, _, _, _, rfl, s1 _ _ upd_same, fun b u e _ => e⟩
    · rintro i σ H3 _ ⟨_, _, _, _, _, h3, kp⟩
      exact SqL.of (kp _ _ hf fd)
    · rintro i x σ H3 hx ⟨o3, o4, o5, o6, rfl, h3, kp⟩
      have hi : i < xs.length := by have := (List.getElem?_eq_some_iff.mp hx).1; omega
      obtain ⟨t, rfl, ht⟩ := rows_at R hx (show _ = some (srow xs[i]) by rw [List.getElem?_map, List.getElem?_eq_getElem hi]; rfl)
      have td : t ≠ d := fun z => by rw [z, s1 _ _ upd_same] at ht; cases ht
      refine ⟨t, _, rfl, SqT.of (kp _ _ ht td), rfl, _, _, rfl, _, _, rfl, _, _, rfl, _, _, rfl, rfl, ?_⟩
      refine ⟨.inr (.inr (.inl ⟨rfl, .inl ⟨_, h3⟩⟩)), ?_⟩
      have et : (xs.take (i + 1)).map (fun x => (x.1.1, x.2)) = (xs.take i).map (fun x => (x.1.1, x.2)) ++ [(xs[i].1.1, xs[i].2)] := by rw [List.take_succ_eq_append_getElem hi, List.map_append]; rfl
      have fl : (fK (fst1 ((xs.take i).map fun x => (x.1.1, x.2)))).length ≤ 1000 := by
        have := fst1_len ((xs.take i).map fun x => (x.1.1, x.2))
        unfold fK; rw [List.length_map]; rw [List.length_map, List.length_take] at this; omega
      refine ⟨_, _, Sum.inl xs[i].1.1, .int (xs[i].2 : Int), rfl, h3, rfl, small1000 fl, fun u hu2 => ?_, fun hn => ?_⟩
      · refine ⟨_, _, _, _, rfl, ?_, kp⟩
        rw [et, fst1_snoc]
        rcases val_fK (fst1 ((xs.take i).map fun x => (x.1.1, x.2))) xs[i].1.1 with ⟨h1, _⟩ | ⟨_, h2⟩
        · rw [if_pos h1]; exact h3
        · rw [h2] at hu2; cases hu2
      · refine ⟨_, _, _, _, rfl, ?_, fun b u e hb => (upd_ne hb).trans (kp _ _ e hb)⟩
        rw [et, fst1_snoc, upd_same]
        rcases val_fK (fst1 ((xs.take i).map fun x => (x.1.1, x.2))) xs[i].1.1 with ⟨_, u, h2⟩ | ⟨h1, _⟩
        · rw [hn] at h2; cases h2
        · rw [if_neg h1, putK_new _ hn]
          unfold fK; rw [List.map_append]; rfl
    · rintro σ H3 ⟨o3, o4, o5, o6, rfl, h3, kp⟩
      rw [l2, List.take_length] at h3
      refine ⟨.inr (.inr (.inl ⟨rfl, .inl ⟨_, h3⟩⟩)), ?_⟩
      refine ⟨_, _, rfl, rfl, .inl h3, fun v nv => ?_⟩
      have s3 := same_upd (o := ItV v d) nv
      have sZ : Same H H3 := fun b u e => kp _ _ (sA _ _ e) (ne_of_none e nd0)
      refine ⟨_, rfl, .inr (.inr (.inr ⟨d, (fst1 (xs.map fun x => (x.1.1, x.2))).map fun p => (p.1, V.int (p.2 : Int)), upd_same, .inl ?_, ?_, fun us4 ps4 H4 s4 R4 _ pp pw r nr => ?_⟩))⟩
      · rw [List.map_map]; exact s3 _ _ h3
      · have := fst1_len (xs.map fun x => (x.1.1, x.2))
        rw [List.length_map]; rw [List.length_map] at this; omega
      · obtain ⟨fs, rfl, pf⟩ : ∃ fs : List (Int × Nat), ps4 = fs.map (fun p => (p.1, V.int (p.2 : Int))) ∧ fs.Perm (fst1 (xs.map fun x => (x.1.1, x.2))) := coded (f := fun p : Int × Nat => (p.1, V.int (p.2 : Int))) dec_encF pp
        have s5 := same_upd (o := .lst us4) nr
        have sF : Same H (upd H4 r (.lst us4)) := ((sZ.trans s3).trans s4).trans s5
        refine k r us4 fs _ (none_of_same ((sZ.trans s3).trans s4) nr) upd_same ?_ ?_ ?_ sF
        · unfold fss; rw [List.length_map, hx]; exact pf
        · rw [List.pairwise_map] at pw; exact pw
        · rw [List.map_map] at R4; exact rows_same R4 s5
end
end K03

set_option Elab.async false
set_option linter.all false
set_option maxRecDepth 100000
set_option maxHeartbeats 4000000
namespace K03
open PySem L2 N3
seal L2.PE L2.PA L2.PS L2.PSs
/-- the law's book: each key the list of its hands -/
structure Lb (fo : Addr) (H : Hp) (d : Addr) (ps : List (K3 × Int)) (kvs : List (List Key × V)) : Prop where
  at_ : H d = some (.dT kvs)
  val : ∀ k, (valV kvs (kL k) = none ∧ hnd k ps = []) ∨ ∃ a, valV kvs (kL k) = some (.ref a) ∧ H a = some (.lst ((hnd k ps).map V.int)) ∧ a ≠ fo
theorem Lb.keep {H H' : Hp} {fo d : Addr} {ps : List (K3 × Int)} {kvs : List (List Key × V)} (B : Lb fo H d ps kvs) (s : Same H H') : Lb fo H' d ps kvs := ⟨s _ _ B.at_, fun k => (B.val k).imp id fun ⟨a, h1, h2, h3⟩ => ⟨a, h1, s _ _ h2, h3⟩⟩
theorem Lb.seen {H : Hp} {fo d : Addr} {ps : List (K3 × Int)} {kvs : List (List Key × V)} (B : Lb fo H d ps kvs) {k : K3} {s : Int} (h : s ∈ hnd k ps) : Lb fo H d (ps ++ [(k, s)]) kvs := by
  refine ⟨B.at_, fun k1 => ?_⟩
  have e : hnd k1 (ps ++ [(k, s)]) = hnd k1 ps := by
    rw [hnd_snoc]
    split
    · next z => have z : k = k1 := z
                subst z; unfold addS; rw [if_pos h]
    · rfl
  rw [e]; exact B.val k1
theorem Lb.put {H : Hp} {fo d a : Addr} {ps : List (K3 × Int)} {kvs : List (List Key × V)} (B : Lb fo H d ps kvs) {k : K3} {s : Int} (ha : H a = some (.lst ((hnd k ps ++ [s]).map V.int))) (h : s ∉ hnd k ps) (nf : a ≠ fo) : Lb fo (upd H d (.dT (putK kvs (kL k) (.ref a)))) d (ps ++ [(k, s)]) (putK kvs (kL k) (.ref a)) := by
  have nl : ∀ {b : Addr} {xs : List V}, H b = some (.lst xs) → b ≠ d := fun e => ne_of e B.at_ (fun z => nomatch z)
  refine ⟨upd_same, fun k1 => ?_⟩
  rw [hnd_snoc, valV_put]
  by_cases z : k = k1
  · subst z
    rw [if_pos rfl, if_pos rfl]
    right
    exact ⟨a, rfl, by rw [upd_ne (nl ha)]; unfold addS; rw [if_neg h]; exact ha, nf⟩
  · rw [if_neg (fun y => z (kL_inj y).symm), if_neg z]
    exact (B.val k1).imp id fun ⟨b, h1, h2, h3⟩ => ⟨b, h1, by rw [upd_ne (nl h2)]; exact h2, h3⟩
theorem alls_len {α : Type} [DecidableEq α] (c : Int) (ws : List (α × Int)) : ∀ i, (alls c ws i).length ≤ i
  | 0 => Nat.le_refl _
  | i + 1 => by
    have ih := alls_len c ws i
    simp only [alls, List.length_append]
    cases ws[i]? with
    | none => simp; omega
    | some p => simp only; split <;> simp <;> omega
section
variable {P : Program} {w : World} {K : PySem.W.Frag} {mg : Str → Option Value} {base : Heap}
theorem own_all_settled (NB : NBs mg) (D : DefAt K mg "_law_all_settled" s_all_settled ["_law_count", "_law_writings"]) : L2.Own P w K mg base "_law_all_settled" 1 ["_law_count", "_law_writings"] spAlls := by
  refine D.own sc_all_settled (fun vs H Q E h => ?_) (fun f cdv A outer s H vs Q E hr h => ?_)
  · obtain ⟨c, l, us, ws, rfl, _⟩ := h; rfl
  · obtain ⟨c, l, us, ws, rfl, W, k⟩ := h
    have hu := hu_of hr
    have nd := sc_all_settled.nd
    refine ⟨_, (pss_cons (ps_setG nd 2 pe_dnewT)
  (pss_cons (ps_setG nd 3 (pe_lst pa_nil))
  (pss_cons (ps_for PassesOwn.never rfl (pi_list (nv 1)) (pg_tup rfl (pgs_cons (pg_nameG nd 4) (pgs_cons (pg_nameG nd 5) (pgs_cons (pg_nameG nd 6) (pgs_cons (pg_nameG nd 7) pgs_nil))))) (pss_cons (ps_setG nd 8 (pe_tup (pa_cons (nv 4) (pa_cons (nv 6) (pa_cons (nv 7) pa_nil)))))
  (pss_cons (ps_setG nd 9 (pe_dget2 hu (nv 2) (nv 8) (pe_lst pa_nil) ⟨rfl, rfl, rfl, rfl⟩))
  (pss_cons (ps_if (pt_cmpR (op_notInG hr) (nv 5) (nv 9) (by with_unfolding_all rfl)) (pss_cons (ps_setG nd 9 (pe_op op_addG (nv 9) (pe_lst (pa_cons (nv 5) pa_nil))))
  (pss_one (ps_dput hu (nv 2) (nv 8) (nv 9) rfl))) pss_nil)
  (pss_one (ps_if (PW.pt (pw_and (pt_cmpR op_gtG (pe_op op_addG (pe_callB call_lenG (by rfl) NB.len bb_len (pa_cons (nv 9) pa_nil)) (pe_callB call_lenG (by rfl) NB.len bb_len (pa_cons (nv 9) pa_nil))) (nv 0) (nomark _)) (pw_and1 (pt_cmpR (op_notInG hr) (nv 8) (nv 3) (by with_unfolding_all rfl))))) (pss_one (ps_expr (pe_bm PySem.F.plainAttrs_list PySem.F.slot_list_append PySem.F.type_list_append mt_append (nv 3) (pa_cons (nv 8) pa_nil)))) pss_nil))))))
  (pss_one (ps_ret (nv 3)))))), ?_⟩
    intro d nd0
    refine ⟨Nat.zero_le _, fun fo nf => ?_⟩
    have s0 : Same H (upd (upd H d (.dT [])) fo (.lst [])) := (same_upd nd0).trans (same_upd nf)
    have dn : fo ≠ d := fun z => by rw [z, upd_same] at nf; cases nf
    have fn0 : H fo = none := by rwa [upd_ne dn] at nf
    have W0 := W.keep s0
    have lu := W.len
    refine ⟨l, rfl, ⟨us, SqL.of W0.at_⟩, ?_⟩
    refine for_list (xs := us) (fun i σ H1 => ∃ kvs us' o4 o5 o6 o7 o8 o9, σ = [some (.int c), some (.ref l), some (.ref d), some (.ref fo), o4, o5, o6, o7, o8, o9] ∧ Lb fo H1 d ((ws.map kof).take i) kvs ∧ kvs.length ≤ i ∧ H1 fo = some (.lst us') ∧ _root_.Own.Rows H1 us' ((alls c (ws.map kof) i).map fun k => (kL k).map kV) ∧ Same H H1) ?_ ?_ ?_ ?_
    · exact ⟨[], [], _, _, _, _, _, _, rfl, ⟨(upd_ne (Ne.symm dn)).trans upd_same, fun k => .inl ⟨rfl, rfl⟩⟩, Nat.le_refl _, upd_same, .nil, s0⟩
    · rintro i σ H1 _ ⟨_, _, _, _, _, _, _, _, _, _, _, _, _, s1⟩
      exact SqL.of (s1 _ _ W.at_)
    · rintro i x σ H1 hx ⟨kvs, us', o4, o5, o6, o7, o8, o9, rfl, B, kl, hf, R, s1⟩
      obtain ⟨tw, y, rfl, hy, hw, hi⟩ := W.get hx
      refine ⟨tw, _, rfl, SqT.of (s1 _ _ hw), rfl, _, _, rfl, _, _, rfl, _, _, rfl, _, _, rfl, rfl, ?_⟩
      refine ⟨by show 3 ≤ sizeLine; decide, fun p np => ?_⟩
      have sA := same_upd (o := .tup [.int y.1, .int y.2.2.1, .str y.2.2.2]) np
      have B1 := B.keep sA
      have hp1 : upd H1 p (.tup [.int y.1, .int y.2.2.1, .str y.2.2.2]) p = some (.tup ((kL (kof y).1).map kV)) := upd_same
      have hf1 := sA _ _ hf
      have R1 := rows_same R sA
      have s2 := s1.trans sA
      generalize upd H1 p (.tup [.int y.1, .int y.2.2.1, .str y.2.2.2]) = H2 at B1 hp1 hf1 R1 s2
      have et : (ws.map kof).take (i + 1) = (ws.map kof).take i ++ [((kof y).1, y.2.1)] := by
        rw [take_snoc (p := kof y) (by rw [List.getElem?_map, hy]; rfl)]; rfl
      have hp' : (ws.map kof)[i]? = some (kof y) := by rw [List.getElem?_map, hy]; rfl
      -- row
      refine ⟨d, rfl, .inr ⟨_, .inl B1.at_⟩, Nat.zero_le _, fun q nq => ?_⟩
      have sB := same_upd (o := .lst []) nq
      refine ⟨_, DGet.t (sB _ _ B1.at_) (sB _ _ hp1), ?_⟩
      have B2 := B1.keep sB
      have hp2 := sB _ _ hp1
      have hf2 := sB _ _ hf1
      have R2 := rows_same R1 sB
      have s3 := s2.trans sB
      obtain ⟨ra, era, hra⟩ : ∃ ra, (valV kvs (kL (kof y).1)).getD (.ref q) = .ref ra ∧ upd H2 q (.lst []) ra = some (.lst ((hnd (kof y).1 ((ws.map kof).take i)).map V.int)) := by
        rcases B2.val (kof y).1 with ⟨h1, h2⟩ | ⟨a, h1, h2, _⟩
        · exact ⟨q, by rw [h1]; rfl, by rw [h2]; exact upd_same⟩
        · exact ⟨a, by rw [h1]; rfl, h2⟩
      rw [era]
      generalize upd H2 q (.lst []) = H3 at B2 hp2 hf2 R2 s3 hra
      generalize hpre : (ws.map kof).take i = pre at B2 et hra
      have hL0 : hnd (kof y).1 (pre ++ [((kof y).1, y.2.1)]) = addS (hnd (kof y).1 pre) y.2.1 := by rw [hnd_snoc, if_pos rfl]
      have lL : (hnd (kof y).1 pre).length ≤ i := by have := hnd_len (kof y).1 pre; rw [← hpre] at this ⊢; rw [List.length_take] at this; omega
      refine ⟨_, in_ints (SqL.of hra) y.2.1, _, rfl, ?_⟩
      have few := W.few
      by_cases hs : y.2.1 ∈ hnd (kof y).1 pre
      case' pos =>
        rw [decide_eq_true hs]
        refine iteNT ?_
        have B5 := B2.seen hs
        have h5 : H3 ra = some (.lst ((hnd (kof y).1 (pre ++ [((kof y).1, y.2.1)])).map V.int)) := by rw [hL0]; unfold addS; rw [if_pos hs]; exact hra
        have k5 : kvs.length ≤ i + 1 := by omega
        clear era
        generalize ra = r5 at h5
        generalize kvs = kv5 at B5 k5
        generalize H3 = H5 at B5 h5 hp2 hf2 R2 s3
      case' neg =>
        rw [decide_eq_false hs]
        refine iteT ?_
        refine ⟨by show 1 ≤ sizeLine; decide, fun q4 n4 => ?_⟩
        have s4 := same_upd (o := .lst [.int y.2.1]) n4
        refine .inl ⟨_, _, s4 _ _ hra, upd_same, ?_, fun q5 n5 => ?_⟩
        · rw [List.length_map]; exact Nat.le_of_lt (small1000 (by show _ + 1 ≤ 1000; omega))
        have s5 := same_upd (o := .lst ((hnd (kof y).1 pre).map V.int ++ [.int y.2.1])) n5
        have s45 := s4.trans s5
        have B4 := B2.keep s45
        refine ⟨_, _, rfl, DPut.t (k := kL (kof y).1) B4.at_ (s45 _ _ hp2) (small1000 (by omega)), ?_⟩
        have h5' : (upd (upd H3 q4 (.lst [.int y.2.1])) q5 (.lst ((hnd (kof y).1 pre).map V.int ++ [.int y.2.1]))) q5 = some (.lst ((hnd (kof y).1 pre ++ [y.2.1]).map V.int)) := by rw [List.map_append]; exact upd_same
        have B5 := B4.put (s := y.2.1) h5' hs (fun z => by rw [z, s4 _ _ hf2] at n5; cases n5)
        have k5 : (putK kvs (kL (kof y).1) (.ref q5)).length ≤ i + 1 := by have := length_putK kvs (kL (kof y).1) (.ref q5); omega
        have kp5 : ∀ b u, H3 b = some u → (∀ kt, u ≠ .dT kt) → upd (upd (upd H3 q4 (.lst [.int y.2.1])) q5 (.lst ((hnd (kof y).1 pre).map V.int ++ [.int y.2.1]))) d (.dT (putK kvs (kL (kof y).1) (.ref q5))) b = some u := fun b u e h => (upd_ne (fun z => by rw [z, B2.at_] at e; cases e; exact h _ rfl)).trans (s45 _ _ e)
        have h5 : upd (upd (upd H3 q4 (.lst [.int y.2.1])) q5 (.lst ((hnd (kof y).1 pre).map V.int ++ [.int y.2.1]))) d (.dT (putK kvs (kL (kof y).1) (.ref q5))) q5 = some (.lst ((hnd (kof y).1 (pre ++ [((kof y).1, y.2.1)])).map V.int)) := by
          rw [hL0, upd_ne (ne_of h5' B4.at_ (fun z => nomatch z))]; unfold addS; rw [if_neg hs]; exact h5'
        have hp2 := kp5 _ _ hp2 (fun _ z => nomatch z)
        have hf2 := kp5 _ _ hf2 (fun _ z => nomatch z)
        have R2 : _root_.Own.Rows _ us' ((alls c (ws.map kof) i).map fun k => (kL k).map kV) := Paired.mapP R2 fun u r ⟨b, e, h⟩ => ⟨b, e, kp5 _ _ h (fun _ z => nomatch z)⟩
        have s3 : Same H (upd (upd (upd H3 q4 (.lst [.int y.2.1])) q5 (.lst ((hnd (kof y).1 pre).map V.int ++ [.int y.2.1]))) d (.dT (putK kvs (kL (kof y).1) (.ref q5)))) := fun b u e => (upd_ne (ne_of_none e nd0)).trans (s45 _ _ (s3 _ _ e))
        generalize putK kvs (kL (kof y).1) (.ref q5) = kv5 at B5 k5 h5 hp2 hf2 R2 s3
        generalize upd (upd (upd H3 q4 (.lst [.int y.2.1])) q5 (.lst ((hnd (kof y).1 pre).map V.int ++ [.int y.2.1]))) d (.dT kv5) = H5 at B5 h5 hp2 hf2 R2 s3
        generalize q5 = r5 at h5
      all_goals
        have R2' : _root_.Own.Rows H5 us' (((alls c (ws.map kof) i).map kL).map fun r => r.map kV) := by rw [List.map_map]; exact R2
        have ea : alls c (ws.map kof) (i + 1) = alls c (ws.map kof) i ++ (if 2 * ((hnd (kof y).1 (pre ++ [((kof y).1, y.2.1)])).length : Int) > c ∧ (kof y).1 ∉ alls c (ws.map kof) i then [(kof y).1] else []) := by
          simp only [alls, hp', et]
        have fin : ¬ (2 * ((hnd (kof y).1 (pre ++ [((kof y).1, y.2.1)])).length : Int) > c ∧ (kof y).1 ∉ alls c (ws.map kof) i) → ∃ kvs us' o4 o5 o6 o7 o8 o9, [some (V.int c), some (V.ref l), some (V.ref d), some (V.ref fo), some (V.int y.1), some (V.int y.2.1), some (V.int y.2.2.1), some (V.str y.2.2.2), some (V.ref p), some (V.ref r5)] = [some (V.int c), some (V.ref l), some (V.ref d), some (V.ref fo), o4, o5, o6, o7, o8, o9] ∧ Lb fo H5 d ((ws.map kof).take (i + 1)) kvs ∧ kvs.length ≤ i + 1 ∧ H5 fo = some (.lst us') ∧ _root_.Own.Rows H5 us' ((alls c (ws.map kof) (i + 1)).map fun k => (kL k).map kV) ∧ Same H H5 := fun nc =>
          ⟨kv5, us', _, _, _, _, _, _, rfl, by rw [et]; exact B5, k5, hf2, by rw [ea, if_neg nc, List.append_nil]; exact R2, s3⟩
        generalize hnd (kof y).1 (pre ++ [((kof y).1, y.2.1)]) = L5 at h5 ea fin
        refine ⟨L5.length, .inl ⟨_, .inl (SqL.of h5), by rw [List.length_map]⟩, L5.length, .inl ⟨_, .inl (SqL.of h5), by rw [List.length_map]⟩, _, rfl, ?_⟩
        by_cases h1 : c < (L5.length : Int) + (L5.length : Int)
        · refine iteDT h1 ?_
          refine ⟨_, in_keys R2' (SqL.of hf2) hp2 (bb := decide ((kof y).1 ∈ alls c (ws.map kof) i)) ?_, _, rfl, ?_⟩
          · rw [decide_eq_true_eq]
            exact ⟨fun h => List.mem_map_of_mem h, fun h => by obtain ⟨k', h1, h2⟩ := List.mem_map.mp h; rw [← kL_inj h2]; exact h1⟩
          by_cases h2 : (kof y).1 ∈ alls c (ws.map kof) i
          · rw [decide_eq_true h2]
            exact iteNT (fin fun z => z.2 h2)
          · rw [decide_eq_false h2]
            refine iteT ?_
            have lus : us'.length ≤ i := by
              have h1 := Paired.length R2
              have h3 := alls_len c (ws.map kof) i
              rw [List.length_map] at h1; omega
            refine ⟨.inl ⟨rfl, _, SqL.of hf2⟩, _, _, _, rfl, rfl, hf2, small1000 (by omega), ?_⟩
            have kp6 : ∀ b u, H5 b = some u → (∀ xs, u ≠ .lst xs) → upd H5 fo (.lst (us' ++ [.ref p])) b = some u := fun b u e h => (upd_ne (fun z => by rw [z, hf2] at e; cases e; exact h _ rfl)).trans e
            refine ⟨kv5, us' ++ [.ref p], _, _, _, _, _, _, rfl, ?_, k5, upd_same, ?_, fun b u e => ?_⟩
            · rw [et]
              exact ⟨kp6 _ _ B5.at_ (fun _ z => nomatch z), fun k => (B5.val k).imp id fun ⟨a, h1, h2, h3⟩ => ⟨a, h1, (upd_ne h3).trans h2, h3⟩⟩
            · rw [ea, if_pos ⟨by omega, h2⟩, List.map_append]
              exact Paired.snoc (Paired.mapP R2 fun u r ⟨b, e, h⟩ => ⟨b, e, kp6 _ _ h (fun _ z => nomatch z)⟩) ⟨p, rfl, kp6 _ _ hp2 (fun _ z => nomatch z)⟩
            · rw [upd_ne (fun z => by rw [z, fn0] at e; cases e)]; exact s3 _ _ e
        · exact iteD h1 (iteF (fin fun z => h1 (by have := z.1; omega)))
    · rintro σ H1 ⟨kvs, us', o4, o5, o6, o7, o8, o9, rfl, B, kl, hf, R, s1⟩
      rw [lu] at R
      exact k fo us' H1 fn0 hf R s1
end
end K03

set_option Elab.async false
set_option linter.all false
set_option maxRecDepth 100000
set_option maxHeartbeats 8000000
namespace K03
open PySem L2 N3
seal L2.PE L2.PA L2.PS L2.PSs
/-- while the writings are drawn -/
structure LW (K : PySem.W.Frag) (a L m : Addr) (ns : List Int) (H : Hp) (us : List V) (ws : List Wr) (c : Int) (kt : List (List Key × V)) : Prop where
  scr : ScrA K H a (ns.map V.int)
  at_ : H L = some (.lst us)
  rows : _root_.Own.Rows H us (ws.map wrow)
  nt : H m = some (.dT kt)
  st : ∀ p ∈ kt, ∃ s, p.2 = .str s
  in_ : ∀ x ∈ ws, 0 ≤ x.2.1 ∧ x.2.1 < c
theorem LW.same {K : PySem.W.Frag} {a L m : Addr} {ns : List Int} {H H' : Hp} {us : List V} {ws : List Wr} {c : Int} {kt : List (List Key × V)} (B : LW K a L m ns H us ws c kt) (s : Same H H') : LW K a L m ns H' us ws c kt := ⟨B.scr.keep (.of_same s), s _ _ B.at_, rows_same B.rows s, s _ _ B.nt, B.st, B.in_⟩
theorem putK_strs {kt : List (List Key × V)} (h : ∀ p ∈ kt, ∃ s, p.2 = V.str s) (k : List Key) (s : Str) : ∀ p ∈ putK kt k (.str s), ∃ s, p.2 = V.str s := fun p hp => by
  unfold putK at hp
  split at hp
  · obtain ⟨q, hq, e⟩ := List.mem_map.mp hp
    split at e
    · subst e; exact ⟨s, rfl⟩
    · subst e; exact h q hq
  · rcases List.mem_append.mp hp with z | z
    · exact h p z
    · have : p = (k, .str s) := by simpa using z
      subst this; exact ⟨s, rfl⟩
theorem valV_str {kt : List (List Key × V)} (h : ∀ p ∈ kt, ∃ s, p.2 = V.str s) (k : List Key) (d : Str) : ∃ s, (valV kt k).getD (.str d) = .str s := by
  unfold valV
  cases e : kt.find? fun kv => decide (kv.1 = k) with
  | none => exact ⟨d, rfl⟩
  | some p => exact h p (List.mem_of_find?_eq_some e)
theorem LW.dT {K : PySem.W.Frag} {a L m : Addr} {ns : List Int} {H : Hp} {us : List V} {ws : List Wr} {c : Int} {kt : List (List Key × V)} (B : LW K a L m ns H us ws c kt) (k : List Key) (s : Str) : LW K a L m ns (upd H m (.dT (putK kt k (.str s)))) us ws c (putK kt k (.str s)) := by
  have kp : ∀ b u, H b = some u → (∀ kt, u ≠ .dT kt) → upd H m (.dT (putK kt k (.str s))) b = some u := fun b u e h => (upd_ne (fun z => by rw [z, B.nt] at e; cases e; exact h _ rfl)).trans e
  exact ⟨B.scr.keep fun b o u e => kp b _ e (fun _ z => nomatch z), kp _ _ B.at_ (fun _ z => nomatch z), Paired.mapP B.rows fun u r ⟨b, e, h⟩ => ⟨b, e, kp _ _ h (fun _ z => nomatch z)⟩, upd_same, putK_strs B.st k s, B.in_⟩
theorem LW.add {K : PySem.W.Frag} {a L m : Addr} {ns : List Int} {H : Hp} {us : List V} {ws : List Wr} {c : Int} {kt : List (List Key × V)} (B : LW K a L m ns H us ws c kt) {t : Addr} {x : Wr} (ht : H t = some (.tup (wrow x))) (hx : 0 ≤ x.2.1 ∧ x.2.1 < c) : LW K a L m ns (upd H L (.lst (us ++ [.ref t]))) (us ++ [.ref t]) (ws ++ [x]) c kt := by
  have kp : ∀ b u, H b = some u → (∀ xs, u ≠ .lst xs) → upd H L (.lst (us ++ [.ref t])) b = some u := fun b u e h => (upd_ne (fun z => by rw [z, B.at_] at e; cases e; exact h _ rfl)).trans e
  refine ⟨B.scr.keep fun b o u e => kp b _ e (fun _ z => nomatch z), upd_same, ?_, kp _ _ B.nt (fun _ z => nomatch z), B.st, fun y hy => ?_⟩
  · rw [List.map_append]
    exact Paired.snoc (Paired.mapP B.rows fun u r ⟨b, e, h⟩ => ⟨b, e, kp _ _ h (fun _ z => nomatch z)⟩) ⟨t, rfl, kp _ _ ht (fun _ z => nomatch z)⟩
  · rcases List.mem_append.mp hy with z | z
    · exact B.in_ y z
    · rw [List.mem_singleton.mp z]; exact hx
theorem fss_len (c : Int) (ws : List Wr) : (fss (fun k : K3 => k.1) c (ws.map kof)).length ≤ ws.length := by
  unfold fss
  refine Nat.le_trans (fst1_len _) ?_
  rw [List.length_map]
  have := sts_len c (ws.map kof) (ws.map kof).length
  rw [List.length_map] at this ⊢; exact this
theorem WrA.take {H : Hp} {l q : Addr} {us : List V} {ws : List Wr} {c : Int} (W : WrA H l us ws c) (t : Nat) (hq : H q = some (.lst (us.take t))) : WrA H q (us.take t) (ws.take t) c := by
  have hl := W.len
  refine ⟨hq, paired_of (by simp [hl]) fun j x r h1 h2 => ?_, by rw [List.length_take]; have := W.few; omega, fun x hx => W.in_ x (List.mem_of_mem_take hx), W.pos⟩
  have hj : j < t := by have := (List.getElem?_eq_some_iff.mp h1).1; rw [List.length_take] at this; omega
  rw [List.getElem?_take_of_lt hj] at h1
  rw [List.map_take, List.getElem?_take_of_lt hj] at h2
  exact paired_get (show Paired _ _ _ from W.rows) h1 h2
theorem two_len : ("ab" : Str).length ≤ sizeLine := by decide
theorem two_list : ("ab" : Str).cps.toList.length = 2 := by decide +kernel
section
variable {P : Program} {w : World} {K : PySem.W.Frag} {mg : Str → Option Value} {base : Heap}
theorem law_ok {f : Addr} {fd : FuncData} (NB : NBs mg) (O_at : L2.Own P w K mg base "_law_at" 1 ["_law_script", "_law_k"] (spAt K)) (O_settled_in : L2.Own P w K mg base "settled_in" 3 ["count", "writings"] spIn) (O_first_settled : L2.Own P w K mg base "first_settled" 3 ["count", "writings"] spFirst)
    (O_all_settled : L2.Own P w K mg base "_law_all_settled" 1 ["_law_count", "_law_writings"] spAlls) (O_so : L2.Own P w K mg base "_law_so" 3 ["_law_found", "_law_meant"] (spSo 3)) (O_whole : L2.Own P w K mg base "_law_whole" 1 ["_law_found"] spWhole)
    (F : Fun K "law" "law" s_law f fd) : FnOk P w K mg base CX0 4 f fd ["_law_script"] (spLawF K) := by
  refine F.ok sc_law (fun vs H Q E h => ?_) (fun cdv A outer s H vs Q E hr h => ?_)
  · obtain ⟨a, ns, rfl, _⟩ := h; rfl
  · obtain ⟨a, ns, rfl, hS, hO, hlen, k⟩ := h
    have hu := hu_of hr
    have nd := sc_law.nd
    refine ⟨_, (pss_cons (ps_setG nd 1 (pe_ix (ixG hu) (pe_lst (pa_cons pe_int (pa_cons pe_int (pa_cons pe_int (pa_cons pe_int (pa_cons pe_int (pa_cons pe_int (pa_cons pe_int (pa_cons pe_int pa_nil))))))))) (pe_op op_modG (pe_op op_modG (pe_op op_mulG (pe_own O_at hr rfl (pa_cons (nv 0) (pa_cons pe_int pa_nil))) pe_int) pe_int) pe_int) (fun _ _ => rfl)))
  (pss_cons (ps_setG nd 2 (pe_lst pa_nil))
  (pss_cons (ps_setG nd 3 pe_dnewT)
  (pss_cons (ps_for PassesOwn.never rfl (pi_range2 rfl NB.range (pa_cons pe_int (pa_cons (pe_callB call_minG (by rfl) NB.min bb_min (pa_cons pe_int (pa_cons (pe_callB call_lenG (by rfl) NB.len bb_len (pa_cons (nv 0) pa_nil)) pa_nil))) pa_nil))) (pg_nameG nd 4) (pss_cons (ps_setG nd 5 (pe_ix (ixG hu) (nv 0) (nv 4) (fun _ _ => rfl)))
  (pss_cons (ps_setG nd 6 (pe_op op_modG (nv 5) (pe_callTy call_intG (by rfl) NB.int bb_int (pa_cons (pe_op op_addG pe_str (pe_op op_mulG pe_str pe_int)) pa_nil))))
  (pss_cons (ps_setG nd 7 (pe_ix (ixG hu) (pe_lst (pa_cons pe_int (pa_cons pe_int (pa_cons pe_int (pa_cons pe_int (pa_cons pe_int (pa_cons (nv 6) pa_nil))))))) (pe_op op_modG (pe_op op_modG (pe_op op_mulG (nv 5) pe_int) pe_int) pe_int) (fun _ _ => rfl)))
  (pss_cons (ps_setG nd 8 (pe_ix (ixG hu) (pe_lst (pa_cons pe_int (pa_cons pe_int (pa_cons pe_int (pa_cons pe_int (pa_cons pe_int (pa_cons pe_int (pa_cons (nv 6) pa_nil)))))))) (pe_op op_modG (pe_op op_modG (pe_op op_mulG (nv 5) pe_int) pe_int) pe_int) (fun _ _ => rfl)))
  (pss_cons (ps_setG nd 9 (pe_dget2 hu (nv 3) (pe_tup (pa_cons (nv 7) (pa_cons (nv 8) pa_nil))) (pe_ix (ixG hu) pe_str (pe_op op_modG (pe_op op_modG (pe_op op_mulG (nv 5) pe_int) pe_int) pe_int) (fun _ _ => rfl)) ⟨rfl, rfl, rfl, rfl⟩))
  (pss_cons (ps_dput hu (nv 3) (pe_tup (pa_cons (nv 7) (pa_cons (nv 8) pa_nil))) (nv 9) rfl)
  (pss_one (ps_expr (pe_bm PySem.F.plainAttrs_list PySem.F.slot_list_append PySem.F.type_list_append mt_append (nv 2) (pa_cons (pe_tup (pa_cons (nv 7) (pa_cons (pe_op op_modG (pe_op op_modG (pe_op op_mulG (pe_op op_addG (nv 5) (nv 4)) pe_int) pe_int) (nv 1)) (pa_cons (nv 8) (pa_cons (nv 9) pa_nil))))) pa_nil)))))))))))
  (pss_cons (ps_setG nd 10 (pe_callTy call_listH (by rfl) NB.list bb_list (pa_cons (nv 2) pa_nil)))
  (pss_cons (ps_setG nd 11 (pe_own O_settled_in hr rfl (pa_cons (nv 1) (pa_cons (nv 10) pa_nil))))
  (pss_cons (ps_setG nd 12 (pe_own O_first_settled hr rfl (pa_cons (nv 1) (pa_cons (nv 10) pa_nil))))
  (pss_cons (ps_if (PW.pt (pw_or (pt_not (pt_val (pe_callB call_isinstanceG (by rfl) NB.isinstance bb_isinstance (pa_cons (nv 11) (pa_cons (nt NB.list bb_list) pa_nil))))) (pw_or (pt_not (pt_val (pe_callB call_isinstanceG (by rfl) NB.isinstance bb_isinstance (pa_cons (nv 12) (pa_cons (nt NB.list bb_list) pa_nil))))) (pw_or1 (pt_cmpR (op_neG hr) (nv 10) (nv 2) (nomark _)))))) (pss_one (ps_ret pe_bl)) pss_nil)
  (pss_cons (ps_setG nd 13 (pe_own O_all_settled hr rfl (pa_cons (nv 1) (pa_cons (nv 2) pa_nil))))
  (pss_cons (ps_setG nd 14 (pe_lst pa_nil))
  (pss_cons (ps_for PassesOwn.never rfl (pi_list (pe_callB call_sortedG (by rfl) NB.sorted bb_sorted (pa_cons (pe_comp (tgs := ["_law_key"]) (fr := []) (pi_list (nv 13)) (block_mk (tt := none) (fun _ _ _ _ => (pg_nameC 0)) (fun _ _ _ _ => True.intro) (fun _ _ _ _ => (pe_tup (pa_cons (pe_ix (ixK (K := K) hu) (nv 0) pe_int (fun _ _ => rfl)) (pa_cons (pe_ix (ixK (K := K) hu) (nv 0) pe_int (fun _ _ => rfl)) (pa_cons (pe_ix (ixK (K := K) hu) (nv 0) pe_int (fun _ _ => rfl)) pa_nil))))))) pa_nil))) (pg_nameG nd 15) (pss_one (ps_if (pt_cmpR (op_notInG hr) (pe_tup (pa_cons (pe_ix (ixG hu) (nv 15) pe_int (fun _ _ => rfl)) (pa_cons (pe_ix (ixG hu) (nv 15) pe_int (fun _ _ => rfl)) pa_nil))) (nv 14) (by with_unfolding_all rfl)) (pss_one (ps_expr (pe_bm PySem.F.plainAttrs_list PySem.F.slot_list_append PySem.F.type_list_append mt_append (nv 14) (pa_cons (pe_tup (pa_cons (pe_ix (ixG hu) (nv 15) pe_int (fun _ _ => rfl)) (pa_cons (pe_ix (ixG hu) (nv 15) pe_int (fun _ _ => rfl)) pa_nil))) pa_nil)))) pss_nil)))
  (pss_cons (ps_for PassesOwn.never rfl (pi_list (nv 11)) (pg_nameG nd 16) (pss_cons (ps_if (PW.pt (pw_or (pt_not (pt_val (pe_callB call_isinstanceG (by rfl) NB.isinstance bb_isinstance (pa_cons (nv 16) (pa_cons (nt NB.tuple bb_tuple) pa_nil))))) (pw_or1 (pt_cmpR (op_neG hr) (pe_callB call_lenG (by rfl) NB.len bb_len (pa_cons (nv 16) pa_nil)) pe_int (nomark _))))) (pss_one (ps_ret pe_bl)) pss_nil)
  (pss_one (ps_if (PW.pt (pw_or (pt_not (pt_val (pe_own O_whole hr rfl (pa_cons (pe_ix (ixG hu) (nv 16) pe_int (fun _ _ => rfl)) pa_nil)))) (pw_or1 (pt_not (pt_val (pe_callB call_isinstanceG (by rfl) NB.isinstance bb_isinstance (pa_cons (pe_ix (ixG hu) (nv 16) pe_int (fun _ _ => rfl)) (pa_cons (nt NB.str bb_str) pa_nil)))))))) (pss_one (ps_ret pe_bl)) pss_nil))))
  (pss_cons (ps_if (PW.pt (pw_or (pt_not (pt_val (pe_own O_so hr rfl (pa_cons (nv 11) (pa_cons (nv 14) pa_nil))))) (pw_or1 (pt_cmpR (op_neG hr) (pe_callB call_lenG (by rfl) NB.len bb_len (pa_cons (nv 12) pa_nil)) (pe_callB call_lenS (by rfl) NB.len bb_len (pa_cons (pe_callTy call_setG (by rfl) NB.set bb_set (pa_cons (pe_comp (tgs := ["_law_pair"]) (fr := []) (pi_list (nv 14)) (block_mk (tt := none) (fun _ _ _ _ => (pg_nameC 0)) (fun _ _ _ _ => True.intro) (fun _ _ _ _ => (pe_ix (ixK (K := K) hu) (nv 0) pe_int (fun _ _ => rfl))))) pa_nil)) pa_nil)) (nomark _))))) (pss_one (ps_ret pe_bl)) pss_nil)
  (pss_cons (ps_for PassesOwn.never rfl (pi_list (nv 12)) (pg_nameG nd 16) (pss_cons (ps_if (PW.pt (pw_or (pt_not (pt_val (pe_callB call_isinstanceG (by rfl) NB.isinstance bb_isinstance (pa_cons (nv 16) (pa_cons (nt NB.tuple bb_tuple) pa_nil))))) (pw_or1 (pt_cmpR (op_neG hr) (pe_callB call_lenG (by rfl) NB.len bb_len (pa_cons (nv 16) pa_nil)) pe_int (nomark _))))) (pss_one (ps_ret pe_bl)) pss_nil)
  (pss_cons (ps_if (PW.pt (pw_or (pt_not (pt_val (pe_own O_whole hr rfl (pa_cons (pe_ix (ixG hu) (nv 16) pe_int (fun _ _ => rfl)) pa_nil)))) (pw_or1 (pt_not (pt_val (pe_own O_whole hr rfl (pa_cons (pe_ix (ixG hu) (nv 16) pe_int (fun _ _ => rfl)) pa_nil))))))) (pss_one (ps_ret pe_bl)) pss_nil)
  (pss_cons (ps_setComp nd 17 (tgs := ["_law_key"]) (fr := []) (pi_list (pe_own O_all_settled hr rfl (pa_cons (nv 1) (pa_cons (pe_slice slG (nv 2) po_none (po_some (pe_ix (ixG hu) (nv 16) pe_int (fun _ _ => rfl)))) pa_nil)))) (block_mk (tt := none) (fun _ _ _ _ => (pg_nameC 0)) (fun _ _ _ _ => True.intro) (fun _ _ _ _ => (pe_ix (ixK (K := K) hu) (nv 0) pe_int (fun _ _ => rfl)))))
  (pss_cons (ps_setG nd 18 (pe_callB call_maxG (by rfl) NB.max bb_max (pa_cons pe_int (pa_cons (pe_op op_subG (pe_ix (ixG hu) (nv 16) pe_int (fun _ _ => rfl)) pe_int) pa_nil))))
  (pss_cons (ps_setComp nd 19 (tgs := ["_law_key"]) (fr := []) (pi_list (pe_own O_all_settled hr rfl (pa_cons (nv 1) (pa_cons (pe_slice slG (nv 2) po_none (po_some (nv 18))) pa_nil)))) (block_mk (tt := none) (fun _ _ _ _ => (pg_nameC 0)) (fun _ _ _ _ => True.intro) (fun _ _ _ _ => (pe_ix (ixK (K := K) hu) (nv 0) pe_int (fun _ _ => rfl)))))
  (pss_one (ps_if (PW.pt (pw_or (pt_cmpR (op_notInG hr) (pe_ix (ixG hu) (nv 16) pe_int (fun _ _ => rfl)) (nv 17) (by with_unfolding_all rfl)) (pw_or1 (pt_cmpR (op_inG hr) (pe_ix (ixG hu) (nv 16) pe_int (fun _ _ => rfl)) (nv 19) (by with_unfolding_all rfl))))) (pss_one (ps_ret pe_bl)) pss_nil))))))))
  (pss_one (ps_ret (pe_own O_so hr rfl (pa_cons (nv 12) (pa_cons (pe_callB call_sortedG (by rfl) NB.sorted bb_sorted (pa_cons (nv 12) pa_nil)) pa_nil))))))))))))))))))), ?_⟩
    -- count
    refine ⟨by show 8 ≤ sizeLine; decide, fun q0 n0 => ?_⟩
    have S0 := hS.keep (.of_same (same_upd (o := .lst [.int 1, .int 2, .int 3, .int 4, .int 5, .int 6, .int 3, .int 40]) n0))
    obtain ⟨c, hc, e1⟩ := menu (is := [1, 2, 3, 4, 5, 6, 3, 40]) (ns.getD 0 0 * 48271 % 1009 % 8) (Int.emod_nonneg _ (by decide)) (Int.emod_lt_of_pos _ (by decide))
    refine ⟨a, ns, 0, rfl, S0.sq, by decide, c48 _, by decide, by decide, _, .lst (SqL.of upd_same) e1, ?_⟩
    have c1 : 1 ≤ c := by simp at hc; omega
    clear e1 hc
    generalize upd H q0 _ = H0 at S0
    refine ⟨Nat.zero_le _, fun L nL m nm => ?_⟩
    have sA : Same H0 (upd (upd H0 L (.lst [])) m (.dT [])) := (same_upd nL).trans (same_upd nm)
    have B0 : LW K a L m ns (upd (upd H0 L (.lst [])) m (.dT [])) [] [] c [] := ⟨S0.keep (.of_same sA), same_upd nm _ _ upd_same, .nil, upd_same, (fun _ h => nomatch h), (fun _ h => nomatch h)⟩
    clear sA nL nm S0
    generalize upd (upd H0 L (.lst [])) m (.dT []) = H2 at B0
    refine ⟨ns.length, .inl ⟨_, .inl B0.scr.sq, by simp⟩, ?_⟩
    have hm : (if ((ns.length : Nat) : Int) < 150 then ((ns.length : Nat) : Int) else 150) = (ns.length : Int) := by omega
    refine ⟨_, _, rfl, by omega, ?_⟩
    rw [hm]
    refine for_range (n := ((ns.length : Int) - 1).toNat) (fun i σ H => ∃ us ws kt o4 o5 o6 o7 o8 o9, σ = [some (.ref a), some (.int c), some (.ref L), some (.ref m), o4, o5, o6, o7, o8, o9, none, none, none, none, none, none, none, none, none, none] ∧
      LW K a L m ns H us ws c kt ∧ kt.length ≤ i ∧ ws.length ≤ i) ⟨_, _, _, _, _, _, _, _, _, rfl, B0, Nat.le_refl _, Nat.le_refl _⟩ ?_ ?_
    · rintro i σ H3 hi ⟨us, ws, kt, o4, o5, o6, o7, o8, o9, rfl, B, hkt, hws⟩
      have hi' : 1 + i < ns.length := by omega
      have hc := at_cell (lo := 1) hi'
      generalize ns.getD (1 + i) 0 = x at hc
      refine ⟨_, .lst B.scr.sq hc, ?_⟩
      refine ⟨mok60, by decide, _, ten60, by rw [len61]; decide, by decide, ?_⟩
      -- number
      refine ⟨by show 6 ≤ sizeLine; decide, fun q1 n1 => ?_⟩
      have B1 := B.same (same_upd (o := .lst [.int 0, .int 1, .int 9, .int 10, .int 1000000000000, .int (x % 10 ^ 60)]) n1)
      obtain ⟨nb, _, e1⟩ := menu (is := [0, 1, 9, 10, 1000000000000, x % 10 ^ 60]) (x * 48271 % 1013 % 6) (Int.emod_nonneg _ (by decide)) (Int.emod_lt_of_pos _ (by decide))
      refine ⟨c48 _, by decide, by decide, _, .lst (SqL.of upd_same) e1, ?_⟩
      generalize upd H3 q1 _ = H4 at B1
      -- place
      refine ⟨by show 7 ≤ sizeLine; decide, fun q2 n2 => ?_⟩
      have B2 := B1.same (same_upd (o := .lst [.int 0, .int 1, .int 7, .int 0, .int 1, .int 7, .int (x % 10 ^ 60)]) n2)
      obtain ⟨pl, _, e2⟩ := menu (is := [0, 1, 7, 0, 1, 7, x % 10 ^ 60]) (x * 48271 % 1019 % 7) (Int.emod_nonneg _ (by decide)) (Int.emod_lt_of_pos _ (by decide))
      refine ⟨c48 _, by decide, by decide, _, .lst (SqL.of upd_same) e2, ?_⟩
      generalize upd H4 q2 _ = H5 at B2
      -- saying
      refine ⟨m, rfl, .inr ⟨_, .inl B2.nt⟩, by show 2 ≤ sizeLine; decide, fun t1 nt1 => ?_⟩
      have B3 := B2.same (same_upd (o := .tup [.int nb, .int pl]) nt1)
      have h3 : upd H5 t1 (.tup [.int nb, .int pl]) t1 = some (.tup ([Sum.inl nb, Sum.inl pl].map kV)) := upd_same
      generalize upd H5 t1 (.tup [.int nb, .int pl]) = H6 at B3 h3
      obtain ⟨ch, _, e3⟩ := atI_lt ("ab" : Str).cps.toList (x * 48271 % 1021 % 2) (Int.emod_nonneg _ (by decide)) (by rw [two_list]; exact Int.emod_lt_of_pos _ (by decide))
      refine ⟨c48 _, by decide, by decide, _, .str two_len e3, ?_⟩
      refine ⟨_, DGet.t B3.nt h3, ?_⟩
      obtain ⟨sy, es⟩ := valV_str B3.st [Sum.inl nb, Sum.inl pl] ⟨#[ch]⟩
      rw [es]
      refine ⟨by show 2 ≤ sizeLine; decide, fun t2 nt2 => ?_⟩
      have B4 := B3.same (same_upd (o := .tup [.int nb, .int pl]) nt2)
      have h4 : upd H6 t2 (.tup [.int nb, .int pl]) t2 = some (.tup ([Sum.inl nb, Sum.inl pl].map kV)) := upd_same
      generalize upd H6 t2 (.tup [.int nb, .int pl]) = H7 at B4 h4
      refine ⟨m, _, rfl, DPut.t B4.nt h4 (small1000 (by omega)), ?_⟩
      have B5 := B4.dT [Sum.inl nb, Sum.inl pl] sy
      have hk5 := length_putK kt [Sum.inl nb, Sum.inl pl] (.str sy)
      generalize putK kt [Sum.inl nb, Sum.inl pl] (.str sy) = kt5 at B5 hk5
      generalize upd H7 m (.dT kt5) = H8 at B5
      -- one more
      refine ⟨.inl ⟨rfl, _, SqL.of B5.at_⟩, c48 _, by decide, by omega, by show 4 ≤ sizeLine; decide, fun t3 nt3 => ?_⟩
      have B6 := B5.same (same_upd (o := .tup (wrow (nb, (x + (1 + (i : Int))) * 48271 % 1031 % c, pl, sy))) nt3)
      have h6 : upd H8 t3 (.tup (wrow (nb, (x + (1 + (i : Int))) * 48271 % 1031 % c, pl, sy))) t3 = some (.tup (wrow (nb, (x + (1 + (i : Int))) * 48271 % 1031 % c, pl, sy))) := upd_same
      have lus : us.length ≤ i := by have := Paired.length B6.rows; rw [List.length_map] at this; omega
      refine ⟨_, _, _, rfl, rfl, B6.at_, small1000 (by omega), ?_⟩
      exact ⟨_, _, kt5, _, _, _, _, _, _, rfl, B6.add h6 ⟨Int.emod_nonneg _ (by omega), Int.emod_lt_of_pos _ (by omega)⟩, by omega, by rw [List.length_append]; simp; omega⟩
    rintro σ H3 ⟨us, ws, kt, o4, o5, o6, o7, o8, o9, rfl, B, hkt, hws⟩
    have lw : ws.length < 64 := by omega
    clear hkt hws hm
    -- handed
    refine ⟨L, us, rfl, .lst (SqL.of B.at_), fun h nh => ?_⟩
    have s1 := same_upd (o := .lst us) nh
    have WL : WrA (upd H3 h (.lst us)) L us ws c := ⟨s1 _ _ B.at_, rows_same B.rows s1, lw, B.in_, by omega⟩
    have WH : WrA (upd H3 h (.lst us)) h us ws c := ⟨upd_same, rows_same B.rows s1, lw, B.in_, by omega⟩
    clear B s1 nh
    generalize upd H3 h (.lst us) = H4 at WL WH
    -- found, first
    refine ⟨c, h, us, ws, rfl, WH, fun rF uF ks H5 nrF hF pk ok RF s5 => ?_⟩
    refine ⟨c, h, us, ws, rfl, WH.keep s5, fun rG uG fs H6 nrG hG pf of_ RG s6 => ?_⟩
    have WL := (WL.keep s5).keep s6
    have WH := (WH.keep s5).keep s6
    have hF := s6 _ _ hF
    have RF := rows_same RF s6
    clear s5 s6 nrF nrG
    refine ⟨_, true, .lst hF, kt_list_list K, _, rfl, iteNT ?_⟩
    refine ⟨_, true, .lst hG, kt_list_list K, _, rfl, iteNT ?_⟩
    refine ⟨_, .lst (n := 0) (fun _ => true) (SqL.of WH.at_) (SqL.of WL.at_) rfl (Nat.zero_le _) (fun j x y h1 h2 => ?_), _, rfl, ?_⟩
    · rw [h1] at h2; cases h2
      obtain ⟨t, _, rfl, _⟩ := WL.get h1
      exact .same
    rw [show ((List.range us.length).all fun _ => true) = true from List.all_eq_true.mpr fun _ _ => rfl]
    refine iteNT ?_
    -- keys
    refine ⟨c, L, us, ws, rfl, WL, fun rK uK H7 nrK hK RK s7 => ?_⟩
    have WL := WL.keep s7
    have hF := s7 _ _ hF
    have hG := s7 _ _ hG
    have RF := rows_same RF s7
    have RG := rows_same RG s7
    clear s7 nrK WH
    -- due
    refine ⟨Nat.zero_le _, fun rD nD => ?_⟩
    have sD := same_upd (o := .lst []) nD
    have hD : upd H7 rD (.lst []) rD = some (.lst []) := upd_same
    generalize upd H7 rD (.lst []) = H8 at sD hD
    have lK : uK.length = (alls c (ws.map kof) ws.length).length := by have := Paired.length RK; rwa [List.length_map] at this
    have lk : (alls c (ws.map kof) ws.length).length ≤ ws.length := alls_len c (ws.map kof) ws.length
    have po : 0 ≤ c := by omega
    generalize hA : alls c (ws.map kof) ws.length = A0 at pk RK lK lk
    refine ⟨rK, rfl, ⟨_, SqL.of (sD _ _ hK)⟩, fun D9 n9 => ?_⟩
    refine comp_list (xs := uK) (fun i ys H9 => _root_.Own.Rows H9 ys ((A0.take i).map fun k => (kK k).map kV) ∧ H9 D9 = some (.lst ys) ∧ Same H8 H9) ⟨.nil, upd_same, same_upd n9⟩ (fun i ys H9 _ ⟨_, _, s9⟩ => SqL.of (s9 _ _ (sD _ _ hK))) ?_ ?_
    · rintro i x ys H9 hx hi ⟨Ry, h9, s9⟩
      have hi' : i < A0.length := by omega
      obtain ⟨t, rfl, ht⟩ := rows_at RK hx (show _ = some ((kL A0[i]).map kV) by rw [List.getElem?_map, List.getElem?_eq_getElem hi']; rfl)
      have ht9 := s9 _ _ (sD _ _ ht)
      refine ⟨(Wk.refl _).set rfl, ?_⟩
      rw [tIfs_none, if_pos rfl]
      refine ⟨_, .tup (SqT.of ht9) (by rfl), _, .tup (SqT.of ht9) (by rfl), _, .tup (SqT.of ht9) (by rfl), by show 3 ≤ sizeLine; decide, fun p np => ?_⟩
      have sp := same_upd (o := .tup ((kK A0[i]).map kV)) np
      have ly : ys.length ≤ i := by have := Paired.length Ry; rw [List.length_map, List.length_take] at this; omega
      have pD : ∀ {b : Addr} {r : List V}, upd H9 p (.tup ((kK A0[i]).map kV)) b = some (.tup r) → b ≠ D9 := fun e => ne_of e (sp _ _ h9) (fun z => nomatch z)
      refine ⟨sp _ _ h9, small1000 (by omega), nextW hi ⟨?_, upd_same, fun b u e => ?_⟩⟩
      · rw [List.take_succ_eq_append_getElem hi', List.map_append]
        exact Paired.snoc (Paired.mapP Ry fun u r ⟨b, e, h⟩ => ⟨b, e, (upd_ne (pD (sp _ _ h))).trans (sp _ _ h)⟩) ⟨p, rfl, (upd_ne (pD upd_same)).trans upd_same⟩
      · rw [upd_ne (ne_of_none e n9)]; exact sp _ _ (s9 _ _ e)
    rintro ys H9 ⟨Ry, h9, s9⟩
    rw [lK, List.take_length] at Ry
    have ly : ys.length = A0.length := by have := Paired.length Ry; rwa [List.length_map] at this
    refine ⟨D9, rfl, .inr (.inl ⟨ys, A0.map kK, [true, false], SqL.of h9, by rw [List.map_map]; exact Ry, by omega, fun r hr => ?_, fun us2 rows2 R2 pu pr pw pS nS => ?_⟩)⟩
    · obtain ⟨x, _, rfl⟩ := List.mem_map.mp hr; rfl
    obtain ⟨ks2, rfl, pk2⟩ := coded dec_enc3 pr
    have ok2 : Ordd ks2 := by rw [List.pairwise_map] at pw; exact pw
    have ek : ks2 = ks := ord_one (pk2.trans pk.symm) ok2 ok
    subst ek
    have pSD : pS ≠ rD := fun z => by rw [z, s9 _ _ hD] at nS; cases nS
    have s10 := same_upd (o := .lst us2) nS
    have R2 := rows_same R2 s10
    have hS2 : upd H9 pS (.lst us2) pS = some (.lst us2) := upd_same
    have sE : Same H8 (upd H9 pS (.lst us2)) := s9.trans s10
    clear s9 s10 nS h9 Ry pu pr pw pk2 ok2
    generalize upd H9 pS (.lst us2) = H10 at R2 hS2 sE
    have l2 : us2.length = ks2.length := by have := Paired.length R2; rwa [List.length_map, List.length_map] at this
    have lk2 : ks2.length = A0.length := pk.length_eq
    refine ⟨pS, rfl, ⟨us2, SqL.of hS2⟩, ?_⟩
    refine for_list (xs := us2) (fun i σ H11 => ∃ ud o15, σ = [some (.ref a), some (.int c), some (.ref L), some (.ref m), o4, o5, o6, o7, o8, o9, some (.ref h), some (.ref rF), some (.ref rG), some (.ref rK), some (.ref rD), o15, none, none, none, none] ∧ _root_.Own.Rows H11 ud ((ddp ((ks2.take i).map prj)).map fun p => (pK p).map kV) ∧ H11 rD = some (.lst ud) ∧ ∀ b u, H10 b = some u → b ≠ rD → H11 b = some u) ⟨_, _, rfl, .nil, sE _ _ hD, fun b u e _ => e⟩ ?_ ?_ ?_
    · rintro i σ H11 _ ⟨_, _, _, _, _, kp⟩
      exact SqL.of (kp _ _ hS2 pSD)
    · rintro i x σ H11 hx ⟨ud, o15, rfl, Rd, hd, kp⟩
      have hi : i < ks2.length := by have := (List.getElem?_eq_some_iff.mp hx).1; omega
      obtain ⟨t, rfl, ht⟩ := rows_at R2 hx (show _ = some ((kK ks2[i]).map kV) by rw [List.map_map, List.getElem?_map, List.getElem?_eq_getElem hi]; rfl)
      have ht1 := kp _ _ ht (fun z => by rw [z, sE _ _ hD] at ht; cases ht)
      have et : (ks2.take (i + 1)).map prj = (ks2.take i).map prj ++ [prj ks2[i]] := by rw [List.take_succ_eq_append_getElem hi, List.map_append]; rfl
      refine ⟨_, .tup (SqT.of ht1) (by rfl), _, .tup (SqT.of ht1) (by rfl), by show 2 ≤ sizeLine; decide, fun p np => ?_⟩
      have sp := same_upd (o := .tup ((pK (prj ks2[i])).map kV)) np
      have hp1 : upd H11 p (.tup ((pK (prj ks2[i])).map kV)) p = some (.tup ((pK (prj ks2[i])).map kV)) := upd_same
      have Rd1 := rows_same Rd sp
      have Rd2 : _root_.Own.Rows (upd H11 p (.tup ((pK (prj ks2[i])).map kV))) ud (((ddp ((ks2.take i).map prj)).map pK).map fun r => r.map kV) := by rw [List.map_map]; exact Rd1
      have hd1 := sp _ _ hd
      have ht2 := sp _ _ ht1
      have lud : ud.length ≤ i := by
        have h1 := Paired.length Rd
        have h2 := ddp_len ((ks2.take i).map prj)
        rw [List.length_map] at h1; rw [List.length_map, List.length_take] at h2; omega
      refine ⟨_, in_keys Rd2 (SqL.of hd1) hp1 (bb := decide (prj ks2[i] ∈ ddp ((ks2.take i).map prj))) ?_, _, rfl, ?_⟩
      · rw [decide_eq_true_eq]
        exact ⟨fun h => List.mem_map_of_mem h, fun h => by obtain ⟨k', h1, h2⟩ := List.mem_map.mp h; rw [← pK_inj h2]; exact h1⟩
      by_cases h2 : prj ks2[i] ∈ ddp ((ks2.take i).map prj)
      · rw [decide_eq_true h2]
        refine iteNT ⟨ud, _, rfl, ?_, hd1, fun b u e hb => sp _ _ (kp _ _ e hb)⟩
        rw [et, ddp_snoc, if_pos h2]; exact Rd1
      · rw [decide_eq_false h2]
        refine iteT ?_
        refine ⟨.inl ⟨rfl, _, SqL.of hd1⟩, _, .tup (SqT.of ht2) (by rfl), _, .tup (SqT.of ht2) (by rfl), by show 2 ≤ sizeLine; decide, fun p2 np2 => ?_⟩
        have sq := same_upd (o := .tup ((pK (prj ks2[i])).map kV)) np2
        refine ⟨_, _, _, rfl, rfl, sq _ _ hd1, small1000 (by omega), ?_⟩
        have kp6 : ∀ b u, upd (upd H11 p (.tup ((pK (prj ks2[i])).map kV))) p2 (.tup ((pK (prj ks2[i])).map kV)) b = some u → (∀ xs, u ≠ .lst xs) → upd (upd (upd H11 p (.tup ((pK (prj ks2[i])).map kV))) p2 (.tup ((pK (prj ks2[i])).map kV))) rD (.lst (ud ++ [.ref p2])) b = some u := fun b u e h => (upd_ne (fun z => by subst z; have := (sq _ _ hd1).symm.trans e; cases this; exact h _ rfl)).trans e
        refine ⟨ud ++ [.ref p2], _, rfl, ?_, upd_same, fun b u e hb => ?_⟩
        · rw [et, ddp_snoc, if_neg h2, List.map_append]
          exact Paired.snoc (Paired.mapP Rd1 fun u r ⟨b, e, h⟩ => ⟨b, e, kp6 _ _ (sq _ _ h) (fun _ z => nomatch z)⟩) ⟨p2, rfl, kp6 _ _ upd_same (fun _ z => nomatch z)⟩
        · rw [upd_ne hb]; exact sq _ _ (sp _ _ (kp _ _ e hb))
    rintro σ H11 ⟨ud, o15, rfl, Rd, hd, kp⟩
    rw [l2, List.take_length] at Rd
    have s11 : Same H7 H11 := fun b u e => kp _ _ (sE _ _ (sD _ _ e)) (ne_of_none e nD)
    clear kp R2 hS2 sE pSD l2 sD hD n9 nD
    generalize hdu : ddp (ks2.map prj) = du at Rd RF
    have WL := WL.keep s11
    have hF := s11 _ _ hF
    have hG := s11 _ _ hG
    have RF := rows_same RF s11
    have RG := rows_same RG s11
    clear s11 RK hK
    have ldu : du.length ≤ 63 := by
      have := ddp_len (ks2.map prj)
      rw [hdu, List.length_map] at this; omega
    have lF : uF.length = du.length := by have := Paired.length RF; rwa [List.length_map] at this
    have lD : ud.length = du.length := by have := Paired.length Rd; rwa [List.length_map] at this
    -- each pair of found
    refine ⟨rF, rfl, ⟨uF, SqL.of hF⟩, ?_⟩
    refine for_list (xs := uF) (fun i σ H12 => ∃ o16, σ = [some (.ref a), some (.int c), some (.ref L), some (.ref m), o4, o5, o6, o7, o8, o9, some (.ref h), some (.ref rF), some (.ref rG), some (.ref rK), some (.ref rD), o15, o16, none, none, none] ∧ H12 = H11) ⟨_, rfl, rfl⟩ (fun i σ H12 _ ⟨_, _, e⟩ => by rw [e]; exact SqL.of hF) ?_ ?_
    · rintro i x σ H12 hx ⟨o16, rfl, rfl⟩
      have hi : i < du.length := by have := (List.getElem?_eq_some_iff.mp hx).1; omega
      obtain ⟨t, rfl, ht⟩ := rows_at RF hx (show _ = some ((pK du[i]).map kV) by rw [List.getElem?_map, List.getElem?_eq_getElem hi]; rfl)
      refine ⟨_, true, .tup ht, kt_tuple_tuple K, _, rfl, iteNT ?_⟩
      refine ⟨2, .inl ⟨_, .inr (SqT.of ht), rfl⟩, _, .scal rfl, _, rfl, iteNS rfl ?_⟩
      refine ⟨_, .tup (SqT.of ht) (by rfl), _, rfl, _, rfl, iteNT ?_⟩
      refine ⟨_, .tup (SqT.of ht) (by rfl), _, true, .str _, kt_str_str K, _, rfl, iteNT ?_⟩
      exact ⟨_, rfl, rfl⟩
    rintro σ H12 ⟨o16, rfl, rfl⟩
    -- found and due
    have RF' : _root_.Own.Rows H12 uF ((du.map pK).map fun r => r.map kV) := by rw [List.map_map]; exact RF
    have Rd' : _root_.Own.Rows H12 ud ((du.map pK).map fun r => r.map kV) := by rw [List.map_map]; exact Rd
    have lp : ∀ r ∈ du.map pK, r.length ≤ 1000 := fun r hr => by obtain ⟨p, _, rfl⟩ := List.mem_map.mp hr; show 2 ≤ 1000; decide
    refine ⟨_, _, _, rfl, deep_rows hF RF' (by omega) lp, deep_rows hd Rd' (by omega) lp, fun H13 s13 => ⟨_, rfl, iteNT ?_⟩⟩
    clear RF' Rd' lp
    have WL := WL.keep s13
    have hG := s13 _ _ hG
    have hd := s13 _ _ hd
    have Rd := rows_same Rd s13
    have RG := rows_same RG s13
    clear s13 RF hF
    have lG : uG.length = fs.length := by have := Paired.length RG; rwa [List.length_map] at this
    -- the places of due
    refine ⟨uG.length, .inl ⟨_, .inl (SqL.of hG), rfl⟩, ?_⟩
    refine ⟨rD, rfl, ⟨_, SqL.of hd⟩, fun D14 n14 => ?_⟩
    refine comp_list (xs := ud) (fun i ys H14 => ys = (du.take i).map (fun p => V.int p.1) ∧ H14 D14 = some (.lst ys) ∧ Same H13 H14) ⟨rfl, upd_same, same_upd n14⟩ (fun i ys H14 _ ⟨_, _, s14⟩ => SqL.of (s14 _ _ hd)) ?_ ?_
    · rintro i x ys H14 hx hi ⟨rfl, h14, s14⟩
      have hi' : i < du.length := by omega
      obtain ⟨t, rfl, ht⟩ := rows_at Rd hx (show _ = some ((pK du[i]).map kV) by rw [List.getElem?_map, List.getElem?_eq_getElem hi']; rfl)
      refine ⟨(Wk.refl _).set rfl, ?_⟩
      rw [tIfs_none, if_pos rfl]
      refine ⟨_, .tup (SqT.of (s14 _ _ ht)) (by rfl), h14, small1000 (by rw [List.length_map, List.length_take]; omega), nextW hi ⟨?_, upd_same, fun b u e => ?_⟩⟩
      · rw [List.take_succ_eq_append_getElem hi', List.map_append]; rfl
      · rw [upd_ne (ne_of_none e n14)]; exact s14 _ _ e
    rintro ys H14 ⟨rfl, h14, s14⟩
    rw [lD, List.take_length] at h14
    refine ⟨D14, du.map (·.1), rfl, SqL.of (by rw [List.map_map]; exact h14), by rw [List.length_map]; omega, fun pS nS => ?_⟩
    have s15 := same_upd (o := .set (fun k => (PyProof.Rows.firstMet (fun i => (du.map (·.1)).getD i 0) (du.map (·.1)).length).any (· == k)) (PyProof.Rows.firstMet (fun i => (du.map (·.1)).getD i 0) (du.map (·.1)).length).length) nS
    have em : (PyProof.Rows.firstMet (fun i => (du.map (·.1)).getD i 0) (du.map (·.1)).length).length = fs.length := by
      rw [met_ddp, ← hdu]; exact many_first po pf (by rw [hA]; exact pk)
    refine ⟨pS, _, _, rfl, upd_same, by rw [em, pf.length_eq]; have := fss_len c ws; omega, _, .scal rfl, _, rfl, iteNS ?_ ?_⟩
    · rw [em, lG]
    have WL := (WL.keep s14).keep s15
    have hG := s15 _ _ (s14 _ _ hG)
    have RG := rows_same (rows_same RG s14) s15
    clear s14 h14 Rd hd em
    generalize upd H14 pS _ = H16 at WL hG RG
    -- each first
    refine ⟨rG, rfl, ⟨uG, SqL.of hG⟩, ?_⟩
    refine for_list (xs := uG) (fun i σ H17 => ∃ o16 o17 o18 o19, σ = [some (.ref a), some (.int c), some (.ref L), some (.ref m), o4, o5, o6, o7, o8, o9, some (.ref h), some (.ref rF), some (.ref rG), some (.ref rK), some (.ref rD), o15, o16, o17, o18, o19] ∧ Same H16 H17) ⟨_, _, _, _, rfl, Same.refl _⟩ (fun i σ H17 _ ⟨_, _, _, _, _, e⟩ => SqL.of (e _ _ hG)) ?_ ?_
    · rintro i x σ H17 hx ⟨o16, o17, o18, o19, rfl, s17⟩
      have hi : i < fs.length := by have := (List.getElem?_eq_some_iff.mp hx).1; omega
      obtain ⟨t, rfl, ht⟩ := rows_at RG hx (show _ = some [V.int fs[i].1, V.int (fs[i].2 : Int)] by rw [List.getElem?_map, List.getElem?_eq_getElem hi]; rfl)
      have ht := s17 _ _ ht
      have hm : fs[i] ∈ fss (fun k : K3 => k.1) c (ws.map kof) := pf.mem_iff.mp (List.getElem_mem hi)
      have WL := WL.keep s17
      generalize fs[i] = g at ht hm
      obtain ⟨p, tk⟩ := g
      obtain ⟨t1, t2, now⟩ := fss_now (fun k : K3 => k.1) c po (ws.map kof) hm
      have ahead := fss_ahead (fun k : K3 => k.1) c po (ws.map kof) hm
      rw [List.length_map] at t2
      refine ⟨_, true, .tup ht, kt_tuple_tuple K, _, rfl, iteNT ?_⟩
      refine ⟨2, .inl ⟨_, .inr (SqT.of ht), rfl⟩, _, .scal rfl, _, rfl, iteNS rfl ?_⟩
      refine ⟨_, .tup (SqT.of ht) (by rfl), _, rfl, _, rfl, iteNT ?_⟩
      refine ⟨_, .tup (SqT.of ht) (by rfl), _, rfl, _, rfl, iteNT ?_⟩
      -- now
      refine ⟨_, .tup (SqT.of ht) (by rfl), _, rfl, .inl ⟨us, SqL.of WL.at_, fun q1 n1 => ?_⟩⟩
      rw [cutV_take]
      have sq1 := same_upd (o := .lst (us.take tk)) n1
      have W1 := (WL.keep sq1).take tk (q := q1) upd_same
      refine ⟨c, q1, _, _, rfl, W1, fun rN uN H18 nN hN RN s18 => ?_⟩
      have s18 := sq1.trans s18
      have eN : alls c ((ws.take tk).map kof) (ws.take tk).length = alls c ((ws.map kof).take tk) tk := by rw [List.map_take, List.length_take, Nat.min_eq_left t2]
      rw [eN] at RN
      clear eN W1 nN sq1 n1
      have lN0 : (alls c ((ws.map kof).take tk) tk).length ≤ tk := alls_len _ _ _
      generalize alls c ((ws.map kof).take tk) tk = AN at RN now lN0
      have lN : uN.length = AN.length := by have := Paired.length RN; rwa [List.length_map] at this
      refine ⟨rN, rfl, ⟨_, SqL.of hN⟩, fun D19 n19 => ?_⟩
      refine comp_list (xs := uN) (fun i ys H19 => ys = (AN.take i).map (fun k => V.int k.1) ∧ H19 D19 = some (.lst ys) ∧ Same H18 H19) ⟨rfl, upd_same, same_upd n19⟩ (fun i ys H19 _ ⟨_, _, s19⟩ => SqL.of (s19 _ _ hN)) ?_ ?_
      · rintro i x ys H19 hx hi ⟨rfl, h19, s19⟩
        have hi' : i < AN.length := by omega
        obtain ⟨t, rfl, ht⟩ := rows_at RN hx (show _ = some ((kL AN[i]).map kV) by rw [List.getElem?_map, List.getElem?_eq_getElem hi']; rfl)
        refine ⟨(Wk.refl _).set rfl, ?_⟩
        rw [tIfs_none, if_pos rfl]
        refine ⟨_, .tup (SqT.of (s19 _ _ ht)) (by rfl), h19, small1000 (by rw [List.length_map, List.length_take]; omega), nextW hi ⟨?_, upd_same, fun b u e => ?_⟩⟩
        · rw [List.take_succ_eq_append_getElem hi', List.map_append]; rfl
        · rw [upd_ne (ne_of_none e n19)]; exact s19 _ _ e
      rintro ys H19 ⟨rfl, h19, s19⟩
      rw [lN, List.take_length] at h19
      have hN2 : H19 D19 = some (.lst ((AN.map (·.1)).map V.int)) := by rw [List.map_map]; exact h19
      have s19 := s18.trans s19
      have WL := WL.keep s19
      have ht := s19 _ _ ht
      have s17 := s17.trans s19
      clear h19 hN RN lN s18 s19
      -- less
      have el : (if (0 : Int) < (tk : Int) - 1 then (tk : Int) - 1 else 0) = ((tk - 1 : Nat) : Int) := by omega
      -- ahead
      refine ⟨.int (tk : Int), .tup (SqT.of ht) (by rfl), ((tk - 1 : Nat) : Int), congrArg V.int el, .inl ⟨us, SqL.of WL.at_, fun q2 n2 => ?_⟩⟩
      rw [cutV_take]
      have sq2 := same_upd (o := .lst (us.take (tk - 1))) n2
      have W2 := (WL.keep sq2).take (tk - 1) (q := q2) upd_same
      refine ⟨c, q2, _, _, rfl, W2, fun rM uM H20 nM hM RM s20 => ?_⟩
      have s20 := sq2.trans s20
      have eM : alls c ((ws.take (tk - 1)).map kof) (ws.take (tk - 1)).length = alls c ((ws.map kof).take (tk - 1)) (tk - 1) := by rw [List.map_take, List.length_take, Nat.min_eq_left (by omega)]
      rw [eM] at RM
      clear eM W2 nM sq2 n2
      have lM0 : (alls c ((ws.map kof).take (tk - 1)) (tk - 1)).length ≤ tk - 1 := alls_len _ _ _
      generalize alls c ((ws.map kof).take (tk - 1)) (tk - 1) = AM at RM ahead lM0
      have lM : uM.length = AM.length := by have := Paired.length RM; rwa [List.length_map] at this
      refine ⟨rM, rfl, ⟨_, SqL.of hM⟩, fun D21 n21 => ?_⟩
      refine comp_list (xs := uM) (fun i ys H21 => ys = (AM.take i).map (fun k => V.int k.1) ∧ H21 D21 = some (.lst ys) ∧ Same H20 H21) ⟨rfl, upd_same, same_upd n21⟩ (fun i ys H21 _ ⟨_, _, s21⟩ => SqL.of (s21 _ _ hM)) ?_ ?_
      · rintro i x ys H21 hx hi ⟨rfl, h21, s21⟩
        have hi' : i < AM.length := by omega
        obtain ⟨t, rfl, ht⟩ := rows_at RM hx (show _ = some ((kL AM[i]).map kV) by rw [List.getElem?_map, List.getElem?_eq_getElem hi']; rfl)
        refine ⟨(Wk.refl _).set rfl, ?_⟩
        rw [tIfs_none, if_pos rfl]
        refine ⟨_, .tup (SqT.of (s21 _ _ ht)) (by rfl), h21, small1000 (by rw [List.length_map, List.length_take]; omega), nextW hi ⟨?_, upd_same, fun b u e => ?_⟩⟩
        · rw [List.take_succ_eq_append_getElem hi', List.map_append]; rfl
        · rw [upd_ne (ne_of_none e n21)]; exact s21 _ _ e
      rintro ys H21 ⟨rfl, h21, s21⟩
      rw [lM, List.take_length] at h21
      have hM2 : H21 D21 = some (.lst ((AM.map (·.1)).map V.int)) := by rw [List.map_map]; exact h21
      have s21 := s20.trans s21
      have hN3 := s21 _ _ hN2
      have ht := s21 _ _ ht
      have s17 := s17.trans s21
      refine ⟨_, .tup (SqT.of ht) (by rfl), _, in_ints (SqL.of hN3) p, _, rfl, ?_⟩
      rw [decide_eq_true now]
      refine iteNT ?_
      refine ⟨_, .tup (SqT.of ht) (by rfl), _, in_ints (SqL.of hM2) p, _, rfl, ?_⟩
      rw [decide_eq_false ahead]
      refine iteF ?_
      exact ⟨_, _, _, _, rfl, s17⟩
    rintro σ H17 ⟨o16, o17, o18, o19, rfl, s17⟩
    have hG := s17 _ _ hG
    have RG := rows_same RG s17
    have lf : fs.length ≤ 63 := by rw [pf.length_eq]; have := fss_len c ws; omega
    refine ⟨rG, rfl, .inr (.inr (.inl ⟨uG, fs.map fun p => (p.1, [V.int (p.2 : Int)]), SqL.of hG, ?_, by omega, ?_, fun us3 rows3 R3 pu pr pw pS nS => ?_⟩))⟩
    · rw [List.map_map]; exact RG
    · rw [List.map_map]
      have : (fs.map (·.1)).Nodup := (pf.map _).nodup_iff.mpr (fss_nodup _ _ _)
      exact this
    have e3 : rows3 = fs.map fun p => (p.1, [V.int (p.2 : Int)]) := sorted_one (f := fun p : Int × List V => p.1) pr pw (by rw [List.pairwise_map]; exact of_)
    subst e3
    have sS := same_upd (o := .lst us3) nS
    have R3 := rows_same R3 sS
    have RG := rows_same RG sS
    have eR : ∀ {X : Hp} {u : List V}, _root_.Own.Rows X u (fs.map fun p => [V.int p.1, V.int (p.2 : Int)]) → _root_.Own.Rows X u ((fs.map fun p : Int × Nat => ([Sum.inl p.1, Sum.inl (p.2 : Int)] : List Key)).map fun r => r.map kV) := fun R => by rw [List.map_map]; exact R
    have lp : ∀ r ∈ fs.map (fun p : Int × Nat => ([Sum.inl p.1, Sum.inl (p.2 : Int)] : List Key)), r.length ≤ 1000 := fun r hr => by obtain ⟨p, _, rfl⟩ := List.mem_map.mp hr; show 2 ≤ 1000; decide
    rw [List.map_map] at R3
    refine ⟨_, _, _, rfl, deep_rows (sS _ _ hG) (eR RG) (by omega) lp, deep_rows upd_same (eR R3) (by have := pu.length_eq; omega) lp, fun HZ _ => k HZ⟩
end
end K03

set_option Elab.async false
set_option linter.all false
set_option maxRecDepth 100000
open PySem PySem.W PyProof.Rows L2
set_option maxRecDepth 100000 in
set_option maxHeartbeats 0 in
theorem PySem.Challenge.cw_scriberow_k03_what_is_settled_holds : PySem.Challenge.rw_scriberow_k03_what_is_settled.Holds := by
  w_on; o_law; k_head; (case hw => w_witness2)
  k_fill
  refine L2.walkF (l := PySem.Challenge.rw_scriberow_k03_what_is_settled) (k := 4) (st := K03.s_law) rfl rfl ⟨rfl, by decide, by decide⟩ rfl (fun w h Y => PySem.W.kIn_of Y) ?F
  case F =>
    intro w mg h KX G
    have NB : K03.NBs mg := ⟨mg_none_of (n := "len") KX G (by k_is), mg_none_of (n := "min") KX G (by k_is), mg_none_of (n := "max") KX G (by k_is), mg_none_of (n := "range") KX G (by k_is), mg_none_of (n := "int") KX G (by k_is), mg_none_of (n := "bool") KX G (by k_is), mg_none_of (n := "str") KX G (by k_is), mg_none_of (n := "list") KX G (by k_is), mg_none_of (n := "dict") KX G (by k_is), mg_none_of (n := "tuple") KX G (by k_is), mg_none_of (n := "set") KX G (by k_is), mg_none_of (n := "sorted") KX G (by k_is), mg_none_of (n := "isinstance") KX G (by k_is), mg_none_of (n := "enumerate") KX G (by k_is)⟩
    have D1 := defAt_mk (x := "is_most") (st := K03.s_is_most) (ps := ["count", "many"]) KX G (by k_is) (by k_is) (by k_is) (by k_is) (fun _ _ _ _ _ _ us hl => match us, hl with | [_, _], _ => rfl)
    have D2 := defAt_mk (x := "settlings") (st := K03.s_settlings) (ps := ["count", "writings"]) KX G (by k_is) (by k_is) (by k_is) (by k_is) (fun _ _ _ _ _ _ us hl => match us, hl with | [_, _], _ => rfl)
    have D3 := defAt_mk (x := "settled_in") (st := K03.s_settled_in) (ps := ["count", "writings"]) KX G (by k_is) (by k_is) (by k_is) (by k_is) (fun _ _ _ _ _ _ us hl => match us, hl with | [_, _], _ => rfl)
    have D4 := defAt_mk (x := "first_settled") (st := K03.s_first_settled) (ps := ["count", "writings"]) KX G (by k_is) (by k_is) (by k_is) (by k_is) (fun _ _ _ _ _ _ us hl => match us, hl with | [_, _], _ => rfl)
    have D5 := defAt_mk (x := "_law_so") (st := K03.s_so) (ps := ["_law_found", "_law_meant"]) KX G (by k_is) (by k_is) (by k_is) (by k_is) (fun _ _ _ _ _ _ us hl => match us, hl with | [_, _], _ => rfl)
    have D6 := defAt_mk (x := "_law_whole") (st := K03.s_whole) (ps := ["_law_found"]) KX G (by k_is) (by k_is) (by k_is) (by k_is) (fun _ _ _ _ _ _ us hl => match us, hl with | [_], _ => rfl)
    have D7 := defAt_mk (x := "_law_at") (st := K03.s_at) (ps := ["_law_script", "_law_k"]) KX G (by k_is) (by k_is) (by k_is) (by k_is) (fun _ _ _ _ _ _ us hl => match us, hl with | [_, _], _ => rfl)
    have D8 := defAt_mk (x := "_law_all_settled") (st := K03.s_all_settled) (ps := ["_law_count", "_law_writings"]) KX G (by k_is) (by k_is) (by k_is) (by k_is) (fun _ _ _ _ _ _ us hl => match us, hl with | [_, _], _ => rfl)
    have D9 := defAt_mk (x := "law") (st := K03.s_law) (ps := ["_law_script"]) KX G (by k_is) (by k_is) (by k_is) (by k_is) (fun _ _ _ _ _ _ us hl => match us, hl with | [_], _ => rfl)
    refine ⟨D9, fun base f fd F => ?_⟩
    exact K03.law_ok NB (K03.own_at NB D7) (K03.own_settled_in NB (K03.own_settlings NB (K03.own_is_most D1) D2) D3) (K03.own_first_settled NB (K03.own_settlings NB (K03.own_is_most D1) D2) D4) (K03.own_all_settled NB D8) (K03.own_so NB D5 3) (K03.own_whole NB D6) F
#print axioms PySem.Challenge.cw_scriberow_k03_what_is_settled_holds
