import PyProof.Rows.All
import Wide.All
import OpenK.AllK
import Wide.FinOn
import Lean
import PyProof.EqAt
import PyProof.EqKinds
import PyProof.TupleCall
import PyProof.NeKinds
import PySem.Challenge.RW_ringseat_k07_going
set_option Elab.async false
set_option linter.all false
set_option maxRecDepth 100000
/-! THE HAND LAYER, for ints, bools, texts, own classes, LISTS and tuples (index, slices, in, append, pop ..), calls, loops. Paste it whole ahead of your own text; what your proof does not reach may be deleted. -/
namespace L2
open PySem PySem.Spec PyProof.Rows

/-- a key: an int or a str -/
abbrev Key := Sum Int Str
def keyIs : Key → Value → Bool
  | .inl k, v => Value.isInt k v
  | .inr x, v => Value.isStrOf x v
def keyH (w : World) : Key → Int
  | .inl k => hashInt k
  | .inr x => hashStr w x
theorem keyIs_shape : ∀ {k : Key} {v : Value}, keyIs k v = true → (∃ i t, k = Sum.inl i ∧ v = Value.int i t) ∨ (∃ x t, k = Sum.inr x ∧ v = Value.str x t)
  | .inl i, v, h => by
    obtain ⟨t, e⟩ := Value.isInt_shape (k := i) (v := v) h
    exact .inl ⟨i, t, rfl, e⟩
  | .inr x, v, h => by
    obtain ⟨t, e⟩ := Value.isStrOf_shape (x := x) (v := v) h
    exact .inr ⟨x, t, rfl, e⟩
theorem keyIs_int (i : Int) (t : Tok) : keyIs (.inl i) (.int i t) = true := by simp [keyIs, Value.isInt]
theorem keyIs_str (x : Str) (t : Tok) : keyIs (.inr x) (.str x t) = true := by simp [keyIs, Value.isStrOf]
theorem key_ll (a b : Int) : decide ((Sum.inl a : Key) = Sum.inl b) = (a == b) := by
  by_cases e : a = b
  · subst e; simp
  · have h : ¬ (Sum.inl a : Key) = Sum.inl b := fun q => e (Sum.inl.inj q)
    rw [decide_eq_false h]
    exact (beq_eq_false_iff_ne.mpr e).symm
theorem key_rr (a b : Str) : decide ((Sum.inr a : Key) = Sum.inr b) = decide (a = b) := by
  by_cases e : a = b
  · subst e; simp
  · have h : ¬ (Sum.inr a : Key) = Sum.inr b := fun q => e (Sum.inr.inj q)
    rw [decide_eq_false h, decide_eq_false e]
theorem key_lr (a : Int) (b : Str) : decide ((Sum.inl a : Key) = Sum.inr b) = false := decide_eq_false (fun q => nomatch q)
theorem key_rl (a : Str) (b : Int) : decide ((Sum.inr a : Key) = Sum.inl b) = false := decide_eq_false (fun q => nomatch q)

def mixKind (prog : Program) (w : World) : PySem.KeyKind prog w Key where
  is := keyIs
  hash := keyH w
  inj := fun v a b ha hb => by
    rcases keyIs_shape ha with ⟨i, t, rfl, rfl⟩ | ⟨x, t, rfl, rfl⟩
    · rcases keyIs_shape hb with ⟨j, u, rfl, e⟩ | ⟨y, u, rfl, e⟩
      · injection e with e1 _; rw [e1]
      · exact nomatch e
    · rcases keyIs_shape hb with ⟨j, u, rfl, e⟩ | ⟨y, u, rfl, e⟩
      · exact nomatch e
      · injection e with e1 _; rw [e1]
  byValue := fun k v h => by
    rcases keyIs_shape h with ⟨i, t, rfl, rfl⟩ | ⟨x, t, rfl, rfl⟩ <;> rfl
  pyHash := fun hv h => by
    rcases keyIs_shape hv with ⟨i, t, rfl, rfl⟩ | ⟨x, t, rfl, rfl⟩
    · exact wpAny_pyHash_int h
    · exact wpAny_pyHash_str h
  eqBool := fun hu hv h => by
    rcases keyIs_shape hu with ⟨i, t, rfl, rfl⟩ | ⟨x, t, rfl, rfl⟩
    · rcases keyIs_shape hv with ⟨j, u, rfl, rfl⟩ | ⟨y, u, rfl, rfl⟩
      · rw [key_ll] at h; exact wpAny_eqBool_int h
      · rw [key_lr] at h; exact SeqAt.EqAt.int_str i t y u _ _ _ _ h
    · rcases keyIs_shape hv with ⟨j, u, rfl, rfl⟩ | ⟨y, u, rfl, rfl⟩
      · rw [key_rl] at h; exact SeqAt.EqAt.str_int x t j u _ _ _ _ h
      · rw [key_rr] at h; exact wpAny_eqBool_str h
  «strs» := fun k x t v h => by
    rcases keyIs_shape h with ⟨i, u, rfl, e⟩ | ⟨y, u, rfl, e⟩
    · exact nomatch e
    · injection e with e1 _
      subst e1
      cases v <;> rfl

theorem mixKind_int (prog : Program) (w : World) (i : Int) (t : Tok) : (mixKind prog w).is (.inl i) (.int i t) = true := keyIs_int i t
theorem mixKind_str (prog : Program) (w : World) (x : Str) (t : Tok) : (mixKind prog w).is (.inr x) (.str x t) = true := keyIs_str x t
end L2

namespace L2
open PySem PySem.Spec PyProof.Rows

/-- a value, without the heap -/
inductive V where
  | non | bl (b : Bool) | int (i : Int) | str (x : Str) | byt (b : Array UInt8) | flt (b : UInt64) | ref (a : Addr) | ty (n : String)
  deriving DecidableEq

def RelV : V → Value → Prop
  | .non, u => u = Value.none
  | .bl b, u => u = Value.bool b
  | .int i, u => ∃ t, u = Value.int i t
  | .str x, u => ∃ t, u = Value.str x t
  | .byt b, u => ∃ t, u = Value.bytes b t
  | .flt b, u => ∃ t, u = Value.float b t
  | .ref a, u => u = Value.ref a
  | .ty n, u => u = Value.type n

abbrev Vals : List V → List Value → Prop := Paired RelV
theorem Vals.length {xs : List V} {us : List Value} (r : Vals xs us) : xs.length = us.length := Paired.length r
theorem Vals.get : ∀ {xs : List V} {us : List Value} {i : Nat} {x : V}, Vals xs us → xs[i]? = some x → ∃ u, us[i]? = some u ∧ RelV x u
  | _, _, _, _, .nil, e => by simp at e
  | _, _, 0, _, .cons r _, e => by simp at e; subst e; exact ⟨_, rfl, r⟩
  | _, _, i + 1, x, .cons _ t, e => by
    obtain ⟨u, h1, h2⟩ := Vals.get (i := i) (x := x) t (by simpa using e)
    exact ⟨u, by simpa using h1, h2⟩
theorem Vals.set {x : V} {u : Value} (r : RelV x u) : ∀ {xs : List V} {us : List Value} (i : Nat), Vals xs us → Vals (xs.set i x) (us.set i u)
  | _, _, _, .nil => .nil
  | _, _, 0, .cons _ t => .cons r t
  | _, _, i + 1, .cons q t => .cons q (Vals.set r i t)
theorem Vals.append : ∀ {xs ys : List V} {us ws : List Value}, Vals xs us → Vals ys ws → Vals (xs ++ ys) (us ++ ws)
  | _, _, _, _, .nil, s => s
  | _, _, _, _, .cons r t, s => .cons r (Vals.append t s)
theorem Vals.take : ∀ {xs : List V} {us : List Value} (n : Nat), Vals xs us → Vals (xs.take n) (us.take n)
  | _, _, 0, _ => .nil
  | _, _, _ + 1, .nil => .nil
  | _, _, n + 1, .cons r t => .cons r (Vals.take n t)
theorem Vals.drop : ∀ {xs : List V} {us : List Value} (n : Nat), Vals xs us → Vals (xs.drop n) (us.drop n)
  | _, _, 0, r => r
  | _, _, _ + 1, .nil => .nil
  | _, _, n + 1, .cons _ t => Vals.drop n t
def RelO : Option V → Option Value → Prop
  | some v, some u => RelV v u
  | none, none => True
  | _, _ => False
def KV {κ : Type} : List (κ × V) → List (κ × Value) → Prop := Paired fun (p : κ × V) (q : κ × Value) => p.1 = q.1 ∧ RelV p.2 q.2

/-- a key of a dict (00_mix): an int or a text -/
def kV : Key → V
  | .inl i => .int i
  | .inr x => .str x

/-- what stands at a tracked address -/
inductive HO where
  /-- a list -/
  | lst (xs : List V)
  /-- a tuple (never changes) -/
  | tup (xs : List V)
  /-- a dict whose keys are ints and texts; one whose keys are tuples of ints and texts (the empty one is both) -/
  | dK (kvs : List (Key × V)) | dT (kvs : List (List Key × V))
  /-- a set of ints: its members, its size -/
  | set (S : Int → Bool) (n : Nat)
  /-- an instance of the class at C, its dict at dx, its attributes -/
  | ins (C dx : Addr) (fs : List (Str × V))
  /-- the dict of the instance at x -/
  | own (x : Addr)
  /-- the dict of an exception -/
  | xd (fs : List (Str × V))
  /-- a bound method, f of x -/
  | met (f x : Addr)
  /-- a range object lo, lo + 1, .. below hi -/
  | rng (lo hi : Int)
  /-- a thing that is known to the object (the script; a dict while a loop walks it): read, never written while it is so -/
  | frz (o : Obj) (u : HO)
  /-- a code object's table -/
  | tbl (ps : Array Value)
  /-- any other thing, by what is true of its one object (a def of one's own: SetO a S n := HO.ext fun h => ..) -/
  | ext (φ : Heap → Prop)

abbrev Hp := Addr → Option HO
def upd (H : Hp) (a : Addr) (o : HO) : Hp := fun b => if b = a then some o else H b
theorem upd_same {H : Hp} {a : Addr} {o : HO} : upd H a o a = some o := by unfold upd; rw [if_pos rfl]
theorem upd_ne {H : Hp} {a b : Addr} {o : HO} (h : b ≠ a) : upd H a o b = H b := by unfold upd; rw [if_neg h]
theorem upd_upd {H : Hp} {a : Addr} {o u : HO} : upd (upd H a o) a u = upd H a u := by
  funext b; unfold upd; split <;> rfl
/-- two objects of different content stand apart -/
theorem ne_of {H : Hp} {a b : Addr} {o u : HO} (h : H a = some o) (h' : H b = some u) (d : o ≠ u) : a ≠ b := by
  intro e; subst e; rw [h] at h'; exact d (Option.some.inj h')
theorem ne_of_none {H : Hp} {a b : Addr} {o : HO} (h : H a = some o) (h' : H b = none) : a ≠ b := by
  intro e; subst e; rw [h] at h'; cases h'

section
variable (P : Program) (w : World)
def ObjOk (H : Hp) (h : Heap) (a : Addr) : HO → Prop
  | .lst xs => xs.length ≤ sizeLine ∧ ∃ (its : List Value) (n : Nat), Vals xs its ∧ h.get? a = some { cls := .type "list", data := .seq its.toArray n }
  | .tup xs => xs.length ≤ sizeLine ∧ ∃ its : List Value, Vals xs its ∧ IsTup h a its.toArray
  | .dK kvs => kvs.length ≤ sizeLine ∧ (a == sysModules) = false ∧ ∃ vs, KV kvs vs ∧ h.DictOf (mixKind P w) a vs
  | .dT kvs => kvs.length ≤ sizeLine ∧ (a == sysModules) = false ∧ ∃ xs : List (List Key × Addr × Value),
      Paired (fun (p : List Key × V) (q : List Key × Addr × Value) => p.1 = q.1 ∧ H q.2.1 = some (.tup (p.1.map kV)) ∧ RelV p.2 q.2.2) kvs xs ∧
      ∃ o es ep, h.get? a = some o ∧ o.ExactDict ∧ o.data = .dict es ep ∧ es.toList = xs.map (entryOfKey (tupleKind (mixKind P w))) ∧ (xs.map (·.1)).Nodup
  | .set S n => h.SetOf (intKind P w) a S n
  | .ins C dx fs => H dx = some (.own a) ∧ fs.length ≤ 1000 ∧ dx ≠ a ∧ h.get? a = some (PySem.W.instObj C dx) ∧
      ∃ mA, h.Ns1 dx mA ∧ (∀ f, RelO (fs.lookup f) (mA f)) ∧ PySem.Within mA (fs.map (·.1))
  | .own _ => ∃ o, h.get? a = some o
  | .xd fs => ∃ mA, h.Ns1 a mA ∧ ∀ f, RelO (fs.lookup f) (mA f)
  | .rng lo hi => ∃ t u v, h.get? a = some { cls := .type "range", data := .fields #[.int lo t, .int hi u, .int 1 v] }
  | .frz o u => h.get? a = some o ∧ ObjOk H h a u
  | .tbl ps => h.get? a = some { cls := .none, data := .fields ps }
  | .met f x => h.get? a = some (PySem.W.methodObj (.ref f) (.ref x))
  | .ext φ => φ h ∧ (∃ o, h.get? a = some o) ∧ ∀ h1 h2 : Heap, φ h1 → (∀ o, h1.get? a = some o → h2.get? a = some o) → φ h2
/-- the abstract heap is held -/
def HOk (H : Hp) (h : Heap) : Prop := ∀ a o, H a = some o → ObjOk P w H h a o
end

section
variable {P : Program} {w : World} {H H' : Hp} {h h' : Heap} {a : Addr} {o : HO}
theorem ObjOk.lt (x : ObjOk P w H h a o) : a < h.objs.size := by
  cases o with
  | lst xs => obtain ⟨_, _, _, _, e⟩ := x; exact Heap.lt_size e
  | tup xs => obtain ⟨_, _, _, p⟩ := x; exact p.lt
  | dK kvs => obtain ⟨_, _, _, _, o, _, _, e, _⟩ := x; exact Heap.lt_size e
  | dT kvs => obtain ⟨_, _, _, _, o, _, _, e, _⟩ := x; exact Heap.lt_size e
  | set S n => obtain ⟨o, _, _, _, e, _⟩ := x; exact Heap.lt_size e
  | ins C dx fs => obtain ⟨_, _, _, e, _⟩ := x; exact Heap.lt_size e
  | own y => obtain ⟨_, e⟩ := x; exact Heap.lt_size e
  | xd fs => obtain ⟨_, ⟨_, _, _, e, _⟩, _⟩ := x; exact Heap.lt_size e
  | rng lo hi => obtain ⟨_, _, _, e⟩ := x; exact Heap.lt_size e
  | frz ob u => obtain ⟨e, _⟩ := x; exact Heap.lt_size e
  | tbl ps => exact Heap.lt_size (show h.get? a = some _ from x)
  | met f y => exact Heap.lt_size (show h.get? a = some _ from x)
  | ext φ => obtain ⟨_, ⟨_, e⟩, _⟩ := x; exact Heap.lt_size e
theorem Paired.mapP {α β : Type} {F G : α → β → Prop} : ∀ {l₁ : List α} {l₂ : List β}, Paired F l₁ l₂ → (∀ a b, F a b → G a b) → Paired G l₁ l₂
  | _, _, .nil, _ => .nil
  | _, _, .cons r t, f => .cons (f _ _ r) (Paired.mapP t f)
/-- what an object's description leans on: its own object, its own dict, the tuples -/
theorem ObjOk.stay (x : ObjOk P w H h a o) (k : ∀ b u, (b = a ∨ H b = some (.own a)) → h.get? b = some u → h'.get? b = some u)
    (ho : ∀ b, H b = some (.own a) → H' b = some (.own a)) (ht : ∀ b xs, H b = some (.tup xs) → H' b = some (.tup xs)) : ObjOk P w H' h' a o := by
  induction o with
  | lst xs => obtain ⟨z, its, n, r, e⟩ := x; exact ⟨z, its, n, r, k _ _ (.inl rfl) e⟩
  | tup xs => obtain ⟨z, its, r, ob, e, c⟩ := x; exact ⟨z, its, r, ob, k _ _ (.inl rfl) e, c⟩
  | dK kvs => obtain ⟨z, y, vs, r, ob, es, ep, e, c⟩ := x; exact ⟨z, y, vs, r, ob, es, ep, k _ _ (.inl rfl) e, c⟩
  | dT kvs =>
    obtain ⟨z, y, xs, r, ob, es, ep, e, c⟩ := x
    exact ⟨z, y, xs, Paired.mapP r fun p q z => ⟨z.1, ht _ _ z.2.1, z.2.2⟩, ob, es, ep, k _ _ (.inl rfl) e, c⟩
  | set S n => obtain ⟨ob, es, ep, t, e, c⟩ := x; exact ⟨ob, es, ep, t, k _ _ (.inl rfl) e, c⟩
  | ins C dx fs =>
    obtain ⟨d, z, ne, e, mA, ⟨od, es, ep, e2, c⟩, r⟩ := x
    exact ⟨ho _ d, z, ne, k _ _ (.inl rfl) e, mA, ⟨od, es, ep, k _ _ (.inr d) e2, c⟩, r⟩
  | own y => obtain ⟨ob, e⟩ := x; exact ⟨ob, k _ _ (.inl rfl) e⟩
  | xd fs => obtain ⟨mA, ⟨od, es, ep, e, c⟩, r⟩ := x; exact ⟨mA, ⟨od, es, ep, k _ _ (.inl rfl) e, c⟩, r⟩
  | rng lo hi => obtain ⟨t, u, v, e⟩ := x; exact ⟨t, u, v, k _ _ (.inl rfl) e⟩
  | frz ob u ih => obtain ⟨e, q⟩ := x; exact ⟨k _ _ (.inl rfl) e, ih q⟩
  | tbl ps =>
    have e : h.get? a = some { cls := .none, data := .fields ps } := x
    show h'.get? a = some { cls := .none, data := .fields ps }
    exact k a _ (.inl rfl) e
  | met f y =>
    have e : h.get? a = some (PySem.W.methodObj (.ref f) (.ref y)) := x
    show h'.get? a = some (PySem.W.methodObj (.ref f) (.ref y))
    exact k a _ (.inl rfl) e
  | ext φ => obtain ⟨p, ⟨o, e⟩, st⟩ := x; exact ⟨st _ _ p fun o q => k _ _ (.inl rfl) q, ⟨o, k _ _ (.inl rfl) e⟩, st⟩
theorem HOk.lt (x : HOk P w H h) (e : H a = some o) : a < h.objs.size := (x a o e).lt
theorem HOk.fresh (x : HOk P w H h) (e : h.objs.size ≤ a) : H a = none := by
  cases q : H a with
  | none => rfl
  | some u => exact absurd (Nat.lt_of_lt_of_le (x.lt q) e) (Nat.lt_irrefl _)
/-- every object of the heap is kept -/
theorem HOk.kept (x : HOk P w H h) (k : ∀ b u, h.get? b = some u → h'.get? b = some u) : HOk P w H h' := fun a o e =>
  (x a o e).stay (fun b u _ q => k b u q) (fun _ q => q) fun _ _ q => q
/-- a new object is laid and tracked -/
theorem HOk.laid (x : HOk P w H h) (k : ∀ b u, h.get? b = some u → h'.get? b = some u) (hp : h.objs.size ≤ a) (new : ObjOk P w (upd H a o) h' a o) : HOk P w (upd H a o) h' := fun b u e => by
  have hn := x.fresh hp
  by_cases hb : b = a
  · subst hb; rw [upd_same] at e; cases e; exact new
  · rw [upd_ne hb] at e
    exact (x b u e).stay (fun c v _ q => k c v q) (fun c q => by rw [upd_ne (ne_of_none q hn)]; exact q) fun c xs q => by rw [upd_ne (ne_of_none q hn)]; exact q
end

/-- what may be read as u: it is u, or a known u -/
def Rd (H : Hp) (a : Addr) (u : HO) : Prop := H a = some u ∨ ∃ o, H a = some (.frz o u)
theorem Rd.ok {P : Program} {w : World} {H : Hp} {h : Heap} {a : Addr} {u : HO} (r : Rd H a u) (x : HOk P w H h) : ObjOk P w H h a u := by
  rcases r with r | ⟨o, r⟩
  · exact x a u r
  · obtain ⟨_, q⟩ := x a _ r
    exact q
/-- what may be written -/
def Mut : Option HO → Prop
  | some (.lst _) => True
  | some (.dK _) => True
  | some (.dT _) => True
  | some (.set _ _) => True
  | some (.ins _ _ _) => True
  | some (.ext _) => True
  | _ => False
section
variable {P : Program} {w : World} {H : Hp} {h h' : Heap} {x e : Addr} {o' : HO}
/-- the object at e is changed: x itself, or the dict of the instance x -/
theorem HOk.write (ok : HOk P w H h) (mu : Mut (H x)) (he : e = x ∨ H e = some (.own x)) (k : ∀ b u, b ≠ e → h.get? b = some u → h'.get? b = some u) (heo : ∃ u, h'.get? e = some u)
    (new : ObjOk P w (upd H x o') h' x o') : HOk P w (upd H x o') h' := fun b u q => by
  have nown : ∀ c y, H c = some (.own y) → c ≠ x := fun c y r z => by subst z; rw [r] at mu; exact mu
  have ntup : ∀ c xs, H c = some (.tup xs) → c ≠ x := fun c xs r z => by subst z; rw [r] at mu; exact mu
  by_cases hb : b = x
  · subst hb; rw [upd_same] at q; cases q; exact new
  · rw [upd_ne hb] at q
    by_cases hbe : b = e
    · have q' : H b = some (.own x) := by
        rcases he with z | z
        · exact absurd (hbe.trans z) hb
        · rw [hbe]; exact z
      rw [q] at q'; cases q'
      obtain ⟨v, hv⟩ := heo
      exact ⟨v, by rw [hbe]; exact hv⟩
    · refine (ok b u q).stay (fun c v hc r => k c v ?_ r) (fun c r => by rw [upd_ne (nown c b r)]; exact r) fun c xs r => by rw [upd_ne (ntup c xs r)]; exact r
      rcases hc with rfl | hc
      · exact hbe
      · rintro rfl
        rcases he with z | z
        · exact nown c b hc z
        · rw [hc] at z; cases z; exact hb rfl
end

/-! ### kept unless tracked; of the frames at fs (the callers') the slots may change (an exception that passes writes there); of the records at ex (iterators) nothing is said -/
structure Un (fs ex : List Addr) (H H' : Hp) (h h' : Heap) : Prop where
  keep : ∀ b o, h.get? b = some o → H b = none → b ∉ fs → b ∉ ex → h'.get? b = some o
  slot : ∀ b o, h.get? b = some o → H b = none → b ∈ fs → b ∉ ex → ∃ sl, h'.get? b = some { o with slots := sl }
  free : ∀ b o, h.get? b = some o → H b = none → b ∉ ex → H' b = none
  there : ∀ b o, h.get? b = some o → b ∉ ex → ∃ o', h'.get? b = some o'
  tups : ∀ b xs, H b = some (.tup xs) → H' b = some (.tup xs)
  frzs : ∀ b o u, H b = some (.frz o u) → H' b = some (.frz o u)
  tbls : ∀ b ps, H b = some (.tbl ps) → ∃ more, H' b = some (.tbl (ps ++ more))
section
variable {fs fs' ex ex' : List Addr} {H H1 H2 : Hp} {h h1 h2 h' : Heap} {a x e : Addr} {o : HO}
theorem Un.any (u : Un fs ex H H1 h h1) {b : Addr} {ob : Obj} (q : h.get? b = some ob) (n : H b = none) (hx : b ∉ ex) : ∃ sl, h1.get? b = some { ob with slots := sl } := by
  by_cases hb : b ∈ fs
  · exact u.slot b ob q n hb hx
  · exact ⟨ob.slots, u.keep b ob q n hb hx⟩
theorem Un.kept (k : ∀ b u, h.get? b = some u → h'.get? b = some u) : Un fs ex H H h h' :=
  ⟨fun b ob q _ _ _ => k b ob q, fun b ob q _ _ _ => ⟨ob.slots, k b ob q⟩, fun _ _ _ n _ => n, fun b ob q _ => ⟨ob, k b ob q⟩, fun _ _ q => q, fun _ _ _ q => q, fun _ ps q => ⟨#[], by rw [q]; simp⟩⟩
theorem Un.refl : Un fs ex H H h h := Un.kept fun _ _ q => q
theorem Un.laid (k : ∀ b u, h.get? b = some u → h'.get? b = some u) (hp : h.objs.size ≤ a) (hn : H a = none) : Un fs ex H (upd H a o) h h' where
  keep := fun b u q _ _ _ => k b u q
  slot := fun b u q _ _ _ => ⟨u.slots, k b u q⟩
  free := fun b u q n _ => by rw [upd_ne (Nat.ne_of_lt (Nat.lt_of_lt_of_le (Heap.lt_size q) hp))]; exact n
  there := fun b u q _ => ⟨u, k b u q⟩
  tups := fun b xs q => by rw [upd_ne (ne_of_none q hn)]; exact q
  frzs := fun b u xs q => by rw [upd_ne (ne_of_none q hn)]; exact q
  tbls := fun b ps q => ⟨#[], by rw [upd_ne (ne_of_none q hn), q]; simp⟩
theorem Un.write (mu : Mut (H x)) (he : e = x ∨ H e = some (.own x)) (k : ∀ b u, b ≠ e → h.get? b = some u → h'.get? b = some u) (heo : ∃ u, h'.get? e = some u) : Un fs ex H (upd H x o) h h' := by
  have hx : ∀ b, H b = none → b ≠ x := fun b n z => by subst z; rw [n] at mu; exact mu
  have hb : ∀ b, H b = none → b ≠ e := fun b n z => by
    subst z
    rcases he with r | r
    · exact hx b n r
    · rw [n] at r; cases r
  have hm : ∀ b u, H b = some u → ¬ Mut (some u) → b ≠ x := fun b u q nm z => by subst z; rw [q] at mu; exact nm mu
  refine ⟨fun b u q n _ _ => k b u (hb b n) q, fun b u q n _ _ => ⟨u.slots, k b u (hb b n) q⟩, fun b u q n _ => by rw [upd_ne (hx b n)]; exact n, fun b u q _ => ?_,
    fun b xs q => by rw [upd_ne (hm b _ q fun z => z)]; exact q, fun b u xs q => by rw [upd_ne (hm b _ q fun z => z)]; exact q, fun b ps q => ⟨#[], by rw [upd_ne (hm b _ q fun z => z), q]; simp⟩⟩
  by_cases hbe : b = e
  · subst hbe; exact heo
  · exact ⟨u, k b u hbe q⟩
end

/-! ### the heap without what is tracked -/
def trk (h : Heap) (H : Hp) : List Addr := (List.range h.objs.size).filter fun a => (H a).isSome
def hidT (h : Heap) (H : Hp) : Heap := PySem.W.hideAll h (trk h H)
theorem hidT_size (h : Heap) (H : Hp) : (hidT h H).objs.size = h.objs.size := PySem.W.hideAll_size _ _
theorem hidT_get {h : Heap} {H : Hp} {b : Addr} {o : Obj} (e : h.get? b = some o) (n : H b = none) : (hidT h H).get? b = some o :=
  PySem.W.hideAll_get _ e fun hm => by
    have q : (H b).isSome = true := (List.mem_filter.mp hm).2
    rw [n] at q; simp at q
theorem of_hidT {h : Heap} {H : Hp} {b : Addr} {o : Obj} (e : (hidT h H).get? b = some o) : h.get? b = some o ∧ H b = none := by
  have e' : h.get? b = some o := PySem.W.of_hideAll (trk h H) e
  refine ⟨e', ?_⟩
  cases q : H b with
  | none => rfl
  | some x =>
    have hm : b ∈ trk h H := List.mem_filter.mpr ⟨List.mem_range.mpr (Heap.lt_size e'), by simp [q]⟩
    have z : (hidT h H).get? b = none := PySem.W.hideAll_none (trk h H) hm
    rw [z] at e; cases e

/-! ### OpenK's ledger, filled with every new object but one -/
def allNews (g h : Heap) (L : Addr) : List (Addr × Obj) := (List.range h.objs.size).filterMap fun a => if a = L ∨ (g.get? a).isSome = true then none else (h.get? a).map fun o => (a, o)
def rest (g h : Heap) (L d : Addr) : List (Addr × Obj) := (allNews g h L).filter fun p => decide (p.1 ≠ d)
end L2

namespace L2
open PySem PySem.Spec PyProof.Rows

/-- the module's facts, over the base: the heap at the law's entry without what is tracked there -/
structure Mod (K : PySem.W.Frag) (mg : Str → Option Value) (base : Heap) : Prop where
  kin : K.In base
  glob : base.Ns mainGlobals mg
  blt : ∃ mb, base.Ns builtinsNs mb ∧ ∀ x : Str, x ≠ "__name__" → mb x = bootBuiltins x
  nolimit : base.NoLimit

/-- the context: a def's body (or a comprehension's block) running. base: fixed through the whole law; s₀, H₀: the entry; outer: the frames whose slots others may change (a def's callers); stack: all frames that run;
   ex: iterators that were made ahead of the entry and are walked here (a comprehension's); fn: the names whose cells were made at the entry (a def: all; a comprehension's block: its own); calm: not within an except suite; pn: pins that every state bears; xe: what is wanted of an exception that leaves the code -/
structure Cx where
  prog : Program
  w : World
  K : PySem.W.Frag
  mg : Str → Option Value
  base : Heap
  A : Around
  N : List Str
  s₀ : Shared
  H₀ : Hp
  env : Env
  outer : List Env
  stack : List Env
  ex : List Addr
  fn : Str → Bool
  calm : Bool
  pn : List (Addr × Obj)
  xe : Value → Shared → Prop
/-- the callers' frames -/
def frs (l : List Env) : List Addr := l.filterMap (·.frame)
abbrev Cx.fs (X : Cx) : List Addr := frs X.outer

def Vis (sc : Scope) (x : Str) : Prop := sc.names.lookup x = some .local ∨ sc.names.lookup x = some .cell ∨ sc.names.lookup x = some .free
def Loc (sc : Scope) (x : Str) : Prop := sc.names.lookup x = some .local ∨ sc.names.lookup x = some .cell
def Look (env : Env) (h : Heap) (m : Str → Option Value) (x : Str) (u : Value) : Prop :=
  (env.kindOf x = some .local ∧ m x = some u) ∨ ((env.kindOf x = some .cell ∨ env.kindOf x = some .free) ∧ ∃ c, env.cells.lookup x = some c ∧ h.IsCell c (some u))

structure Cx.Ok (X : Cx) : Prop where
  mod : Mod X.K X.mg X.base
  kind : X.env.scope.kind = .function
  glob : X.env.globals = mainGlobals
  blt : X.env.builtins = builtinsNs
  above : X.s₀.heap.objs.size ≤ X.env.locals
  inj : ∀ x y c, X.env.cells.lookup x = some c → X.env.cells.lookup y = some c → x = y
  has : ∀ x, (X.env.kindOf x = some .cell ∨ X.env.kindOf x = some .free) → ∃ c, X.env.cells.lookup x = some c
  cab : ∀ x c, X.fn x = true → X.env.cells.lookup x = some c → X.s₀.heap.objs.size ≤ c
  hd : X.calm = true → X.A.handled = none
  frames : X.A.frames = some X.stack
  stk : X.stack = X.outer ∨ (X.stack = X.env :: X.outer ∧ X.env.frame = some X.env.locals)
  exf : ∀ b ∈ X.ex, b ≠ X.env.locals ∧ ∀ x c, X.env.cells.lookup x = some c → c ≠ b
  bs : ∀ b o, X.base.get? b = some o → X.s₀.heap.get? b = some o ∧ X.H₀ b = none
  bsz : X.base.objs.size ≤ X.s₀.heap.objs.size
  noex : ∀ b o, X.base.get? b = some o → b ∉ X.ex
  exfs : ∀ b ∈ X.ex, b ∉ X.fs
  funs : X.s₀.heap.FunFrames X.base X.outer
  frf : ∀ b ∈ X.fs, X.H₀ b = none

structure Inv (X : Cx) (pins : List (Addr × Obj)) (σ : List (Option V)) (H : Hp) (s : Shared) : Prop where
  ok : X.Ok
  os : s.os = X.s₀.os
  bare : AllBare s.gens
  base : Un X.fs X.ex X.H₀ H X.s₀.heap s.heap
  loc : ∃ m, s.heap.Ns X.env.locals m ∧ ∀ (i : Nat) (x : Str) (v : V), X.N[i]? = some x → σ[i]? = some (some v) → Vis X.env.scope x → ∃ u, RelV v u ∧ Look X.env s.heap m x u
  cell : ∀ x c, X.env.cells.lookup x = some c → ∃ v, s.heap.IsCell c v
  free : H X.env.locals = none
  freeC : ∀ x c, X.env.cells.lookup x = some c → H c = none
  pin : ∀ p ∈ X.pn ++ pins, s.heap.get? p.1 = some p.2 ∧ H p.1 = none ∧ p.1 ≠ X.env.locals ∧ p.1 ∉ X.fs ∧ ∀ v, p.2.data ≠ .cell v
  hok : HOk X.prog X.w H s.heap
  len : σ.length = X.N.length

section
variable {X : Cx} {pins : List (Addr × Obj)} {σ : List (Option V)} {H H' : Hp} {s : Shared} {h' : Heap}

theorem Cx.Ok.nofr (ok : X.Ok) {b : Addr} {o : Obj} (e : X.base.get? b = some o) : b ∉ X.fs := fun hb => by
  have := (ok.funs.mem hb).1
  rw [e] at this; cases this
theorem Inv.bs (I : Inv X pins σ H s) : ∀ b o, X.base.get? b = some o → s.heap.get? b = some o ∧ H b = none := fun b o e =>
  ⟨I.base.keep b o (I.ok.bs b o e).1 (I.ok.bs b o e).2 (I.ok.nofr e) (I.ok.noex b o e), I.base.free b o (I.ok.bs b o e).1 (I.ok.bs b o e).2 (I.ok.noex b o e)⟩
theorem Inv.bk (I : Inv X pins σ H s) : ∀ b o, X.base.get? b = some o → s.heap.get? b = some o := fun b o e => (I.bs b o e).1
theorem Inv.mod (I : Inv X pins σ H s) : Mod X.K X.mg X.base := I.ok.mod
theorem Inv.kIn (I : Inv X pins σ H s) : X.K.In s.heap := I.ok.mod.kin.keeps I.bk
theorem Inv.lt (I : Inv X pins σ H s) : X.env.locals < s.heap.objs.size := let ⟨_, hn, _⟩ := I.loc; hn.lt
theorem Inv.sz (I : Inv X pins σ H s) : X.s₀.heap.objs.size ≤ s.heap.objs.size := Nat.le_trans I.ok.above (Nat.le_of_lt I.lt)
theorem Inv.nofs (I : Inv X pins σ H s) {a : Addr} (h : s.heap.objs.size ≤ a) : a ∉ X.fs := fun hb => by
  obtain ⟨_, o, ho, _⟩ := I.ok.funs.mem hb
  exact absurd (Nat.lt_of_lt_of_le (Heap.lt_size ho) (Nat.le_trans I.sz h)) (Nat.lt_irrefl _)
theorem Inv.cne (I : Inv X pins σ H s) : ∀ x c, X.env.cells.lookup x = some c → c ≠ X.env.locals := fun x c e z => by
  obtain ⟨v, o, ho, hd⟩ := I.cell x c e
  obtain ⟨m, ⟨o', es, ep, ho', hd', _⟩, _⟩ := I.loc
  rw [z, ho'] at ho; cases ho; rw [hd'] at hd; cases hd
theorem Inv.funs (I : Inv X pins σ H s) : s.heap.FunFrames X.base X.outer := by
  have all : ∀ (l : List Env), (∀ b ∈ frs l, b ∈ X.fs) → X.s₀.heap.FunFrames X.base l → s.heap.FunFrames X.base l := by
    intro l
    induction l with
    | nil => intro _ _; trivial
    | cons env r ih =>
      intro hs hl
      obtain ⟨hk, ⟨L, o, hf, hn, ho, hd⟩, hr⟩ := hl
      have hL : L ∈ X.fs := hs L (by unfold frs; rw [List.filterMap_cons, hf]; exact List.mem_cons_self)
      obtain ⟨sl, e⟩ := I.base.slot L o ho (I.ok.frf L hL) hL fun z => I.ok.exfs L z hL
      exact ⟨hk, ⟨L, _, hf, hn, e, hd⟩, ih (fun b hb => hs b (by unfold frs; rw [List.filterMap_cons, hf]; exact List.mem_cons_of_mem _ hb)) hr⟩
  exact all X.outer (fun _ hb => hb) I.ok.funs

/-- the frames that run, for a call -/
theorem Inv.stack (I : Inv X pins σ H s) : s.heap.FunFrames X.base X.stack := by
  rcases I.ok.stk with e | ⟨e, hf⟩
  · rw [e]; exact I.funs
  · rw [e]
    obtain ⟨m, hn, _⟩ := I.loc
    refine .cons (by rw [I.ok.kind]; decide) hf hn ?_ I.funs
    exact Heap.get?_none_of_le (Nat.le_trans I.ok.bsz I.ok.above)
theorem Inv.stkSub (I : Inv X pins σ H s) : ∀ b ∈ frs X.stack, b ∈ X.env.locals :: X.fs := fun b hb => by
  rcases I.ok.stk with e | ⟨e, hf⟩
  · rw [e] at hb; exact List.mem_cons_of_mem _ hb
  · rw [e] at hb
    unfold frs at hb
    rw [List.filterMap_cons, hf] at hb
    exact hb
theorem Inv.stkFree (I : Inv X pins σ H s) : ∀ b ∈ frs X.stack, H b = none := fun b hb => by
  rcases List.mem_cons.mp (I.stkSub b hb) with e | hb
  · rw [e]; exact I.free
  · obtain ⟨_, o, ho, _⟩ := I.ok.funs.mem hb
    exact I.base.free b o ho (I.ok.frf b hb) fun z => I.ok.exfs b z hb

/-- THE STEP: the untracked objects but the frame and the records at ch are kept (the callers' frames up to slots), the frame's map is kept, the new abstract heap is held -/
theorem Inv.step {g' : Array GenState} {t' : Nat} {d' : Drawn} {ch : List Addr} (I : Inv X pins σ H s)
    (hch : ∀ b ∈ ch, (b ∈ X.ex ∨ X.s₀.heap.objs.size ≤ b) ∧ b ≠ X.env.locals ∧ (∀ x c, X.env.cells.lookup x = some c → c ≠ b) ∧ ∀ p ∈ X.pn ++ pins, p.1 ≠ b)
    (keep : ∀ b o, b ≠ X.env.locals → b ∉ X.fs → b ∉ ch → s.heap.get? b = some o → H b = none → h'.get? b = some o)
    (slot : ∀ b o, b ≠ X.env.locals → b ∈ X.fs → b ∉ ch → s.heap.get? b = some o → H b = none → ∃ sl, h'.get? b = some { o with slots := sl }) (free : ∀ b o, b ∉ ch → s.heap.get? b = some o → H b = none → H' b = none)
    (there : ∀ b o, b ∉ ch → s.heap.get? b = some o → ∃ o', h'.get? b = some o')
    (tups : ∀ b xs, H b = some (.tup xs) → H' b = some (.tup xs)) (frzs : ∀ b o u, H b = some (.frz o u) → H' b = some (.frz o u)) (tbls : ∀ b ps, H b = some (.tbl ps) → ∃ more, H' b = some (.tbl (ps ++ more)))
    (ns : ∀ m, s.heap.Ns X.env.locals m → h'.Ns X.env.locals m) (hok : HOk X.prog X.w H' h') (hg : AllBare g') :
    Inv X pins σ H' { s with heap := h', gens := g', drawn := d', toks := t' } := by
  have neL : ∀ b o, X.s₀.heap.get? b = some o → b ≠ X.env.locals := fun b o e => Nat.ne_of_lt (Nat.lt_of_lt_of_le (Heap.lt_size e) I.ok.above)
  have neC : ∀ b o, X.s₀.heap.get? b = some o → b ∉ X.ex → b ∉ ch := fun b o e hx hb => by
    rcases (hch b hb).1 with z | z
    · exact hx z
    · exact absurd (Nat.lt_of_lt_of_le (Heap.lt_size e) z) (Nat.lt_irrefl _)
  have cellK : ∀ x c, X.env.cells.lookup x = some c → ∀ v, s.heap.IsCell c v → h'.IsCell c v := fun x c e v ⟨o, ho, hd⟩ => by
    have nch : c ∉ ch := fun z => (hch c z).2.2.1 x c e rfl
    by_cases hc : c ∈ X.fs
    · obtain ⟨sl, q⟩ := slot c o (I.cne x c e) hc nch ho (I.freeC x c e)
      exact ⟨_, q, hd⟩
    · exact ⟨o, keep c o (I.cne x c e) hc nch ho (I.freeC x c e), hd⟩
  refine ⟨I.ok, I.os, hg, ⟨fun b o e n hb hx => ?_, fun b o e n hb hx => ?_, fun b o e n hx => ?_, fun b o e hx => ?_, fun b xs e => tups b xs (I.base.tups b xs e), fun b o xs e => frzs b o xs (I.base.frzs b o xs e), fun b ps e => ?_⟩, ?_, fun x c e => ?_, ?_, fun x c e => ?_, fun p hp => ?_, hok, I.len⟩
  · exact keep b o (neL b o e) hb (neC b o e hx) (I.base.keep b o e n hb hx) (I.base.free b o e n hx)
  · obtain ⟨sl, e1⟩ := I.base.slot b o e n hb hx
    obtain ⟨sl', e2⟩ := slot b _ (neL b o e) hb (neC b o e hx) e1 (I.base.free b o e n hx)
    exact ⟨sl', e2⟩
  · obtain ⟨o', e1⟩ := I.base.there b o e hx
    exact free b o' (neC b o e hx) e1 (I.base.free b o e n hx)
  · obtain ⟨o', e1⟩ := I.base.there b o e hx
    exact there b o' (neC b o e hx) e1
  · obtain ⟨m1, e1⟩ := I.base.tbls b ps e
    obtain ⟨m2, e2⟩ := tbls b _ e1
    exact ⟨m1 ++ m2, by rw [e2, Array.append_assoc]⟩
  · obtain ⟨m, hn, hl⟩ := I.loc
    refine ⟨m, ns m hn, fun i x v e1 e2 e3 => ?_⟩
    obtain ⟨u, r, l⟩ := hl i x v e1 e2 e3
    refine ⟨u, r, ?_⟩
    rcases l with l | ⟨k, c, e, z⟩
    · exact .inl l
    · exact .inr ⟨k, c, e, cellK x c e _ z⟩
  · obtain ⟨v, z⟩ := I.cell x c e
    exact ⟨v, cellK x c e v z⟩
  · obtain ⟨m, ⟨o, _, _, ho, _⟩, _⟩ := I.loc
    exact free _ o (fun z => (hch _ z).2.1 rfl) ho I.free
  · obtain ⟨v, o, ho, hd⟩ := I.cell x c e
    exact free c o (fun z => (hch c z).2.2.1 x c e rfl) ho (I.freeC x c e)
  · obtain ⟨e, n, ne, nf, d⟩ := I.pin p hp
    have nch : p.1 ∉ ch := fun z => (hch p.1 z).2.2.2 p hp rfl
    exact ⟨keep p.1 p.2 ne nf nch e n, free p.1 p.2 nch e n, ne, nf, d⟩
/-- .. where the frame's own object is kept too -/
theorem Inv.un {t' : Nat} (I : Inv X pins σ H s) (u : Un X.fs [] H H' s.heap h') (hok : HOk X.prog X.w H' h') : Inv X pins σ H' { s with heap := h', toks := t' } := by
  obtain ⟨m, ⟨o, es, ep, ho, r⟩, _⟩ := id I.loc
  obtain ⟨sl, hL⟩ := u.any ho I.free (by simp)
  exact I.step (g' := s.gens) (d' := s.drawn) (ch := []) (fun _ z => nomatch z) (fun b o _ hb _ e n => u.keep b o e n hb (by simp)) (fun b o _ hb _ e n => u.slot b o e n hb (by simp)) (fun b o _ e n => u.free b o e n (by simp)) (fun b o _ e => u.there b o e (by simp)) u.tups u.frzs u.tbls (fun m' hm => by
    obtain ⟨o', es', ep', ho', r'⟩ := hm
    rw [ho] at ho'; cases ho'
    exact ⟨_, es', ep', hL, r'⟩) hok I.bare
/-- behind a call (or a comprehension's block): the slots of this frame may have changed too, the records at ch may have turned -/
theorem Inv.call {g' : Array GenState} {t' : Nat} {d' : Drawn} {ch : List Addr} (I : Inv X pins σ H s) (u : Un (frs X.stack) ch H H' s.heap h') (hok : HOk X.prog X.w H' h') (hg : AllBare g')
    (hch : ∀ b ∈ ch, (b ∈ X.ex ∨ X.s₀.heap.objs.size ≤ b) ∧ b ≠ X.env.locals ∧ (∀ x c, X.env.cells.lookup x = some c → c ≠ b) ∧ ∀ p ∈ X.pn ++ pins, p.1 ≠ b) :
    Inv X pins σ H' { s with heap := h', gens := g', drawn := d', toks := t' } := by
  obtain ⟨m, ⟨o, es, ep, ho, r⟩, _⟩ := id I.loc
  obtain ⟨sl, hL⟩ := u.any ho I.free fun z => (hch _ z).2.1 rfl
  exact I.step (ch := ch) hch (fun b o hL hb hc e n => u.keep b o e n (fun z => (List.mem_cons.mp (I.stkSub b z)).elim hL hb) hc) (fun b o _ _ hc e n => u.any e n hc) (fun b o hc e n => u.free b o e n hc) (fun b o hc e => u.there b o e hc) u.tups u.frzs u.tbls (fun m' hm => by
    obtain ⟨o', es', ep', ho', r'⟩ := hm
    rw [ho] at ho'; cases ho'
    exact ⟨_, es', ep', hL, r'⟩) hok hg
/-- an untracked record of ours (an iterator) has turned -/
theorem Inv.turned {t' : Nat} {it : Addr} (I : Inv X pins σ H s) (k : ∀ b o, b ≠ it → s.heap.get? b = some o → h'.get? b = some o) (hn : H it = none) (hL : it ≠ X.env.locals)
    (h1 : it ∈ X.ex ∨ X.s₀.heap.objs.size ≤ it) (h2 : ∀ x c, X.env.cells.lookup x = some c → c ≠ it) (h3 : ∀ p ∈ X.pn ++ pins, p.1 ≠ it) : Inv X pins σ H { s with heap := h', toks := t' } := by
  have nit : ∀ b u, H b = some u → b ≠ it := fun b u e z => by rw [z, hn] at e; cases e
  refine I.step (g' := s.gens) (d' := s.drawn) (ch := [it]) (fun b hb => ?_) (fun b o _ _ hc e _ => k b o (fun z => hc (by simp [z])) e) (fun b o _ _ hc e _ => ⟨o.slots, k b o (fun z => hc (by simp [z])) e⟩) (fun _ _ _ _ n => n)
    (fun b o hc e => ⟨o, k b o (fun z => hc (by simp [z])) e⟩) (fun _ _ e => e) (fun _ _ _ e => e) (fun b ps e => ⟨#[], by rw [e]; simp⟩) (fun m hm => ?_) (fun b u e => ?_) I.bare
  · have e : b = it := by simpa using hb
    subst e
    exact ⟨h1, hL, h2, h3⟩
  · obtain ⟨o, es, ep, ho, r⟩ := hm
    exact ⟨o, es, ep, k _ o (Ne.symm hL) ho, r⟩
  · refine (I.hok b u e).stay (fun c v hc q => k c v ?_ q) (fun _ q => q) fun _ _ q => q
    rcases hc with z | z
    · rw [z]; exact nit b u e
    · exact nit c _ z
theorem Inv.tok (I : Inv X pins σ H s) (t : Nat) : Inv X pins σ H { s with toks := t } := I.un (h' := s.heap) (t' := t) Un.refl I.hok
/-- all objects kept -/
theorem Inv.kept {t' : Nat} (I : Inv X pins σ H s) (k : ∀ b u, s.heap.get? b = some u → h'.get? b = some u) : Inv X pins σ H { s with heap := h', toks := t' } := I.un (Un.kept k) (I.hok.kept k)
/-- a new object laid and tracked -/
theorem Inv.laid {a : Addr} {o : HO} {t' : Nat} (I : Inv X pins σ H s) (k : ∀ b u, s.heap.get? b = some u → h'.get? b = some u) (hp : s.heap.objs.size ≤ a) (new : ObjOk X.prog X.w (upd H a o) h' a o) :
    Inv X pins σ (upd H a o) { s with heap := h', toks := t' } := I.un (Un.laid k hp (I.hok.fresh hp)) (I.hok.laid k hp new)
/-- an object written -/
theorem Inv.write {x e : Addr} {o : HO} {t' : Nat} (I : Inv X pins σ H s) (mu : Mut (H x)) (he : e = x ∨ H e = some (.own x)) (k : ∀ b u, b ≠ e → s.heap.get? b = some u → h'.get? b = some u) (heo : ∃ u, h'.get? e = some u)
    (new : ObjOk X.prog X.w (upd H x o) h' x o) : Inv X pins σ (upd H x o) { s with heap := h', toks := t' } := I.un (Un.write mu he k heo) (I.hok.write mu he k heo new)
theorem Inv.pins_of {pins' : List (Addr × Obj)} (I : Inv X pins σ H s) (h : ∀ p ∈ pins', s.heap.get? p.1 = some p.2 ∧ H p.1 = none ∧ p.1 ≠ X.env.locals ∧ p.1 ∉ X.fs ∧ ∀ v, p.2.data ≠ .cell v) : Inv X pins' σ H s :=
  ⟨I.ok, I.os, I.bare, I.base, I.loc, I.cell, I.free, I.freeC, fun p hp => (List.mem_append.mp hp).elim (fun z => I.pin p (List.mem_append_left _ z)) (h p), I.hok, I.len⟩

theorem nodup_ix {N : List Str} (hN : N.Nodup) {i j : Nat} {x : Str} (a : N[i]? = some x) (b : N[j]? = some x) : i = j := by
  obtain ⟨h1, e1⟩ := List.getElem?_eq_some_iff.mp a
  obtain ⟨h2, e2⟩ := List.getElem?_eq_some_iff.mp b
  exact (List.getElem_inj hN).mp (e1.trans e2.symm)

/-- a name is stored; what changed -/
theorem store_ok2 {M : Model} {A : Around} {E : Value → Shared → Prop} {i : Nat} {x : Str} {v : V} {u : Value} {Q : Unit → Shared → Prop} (I : Inv X pins σ H s) (hN : X.N.Nodup) (hi : X.N[i]? = some x) (hx : Loc X.env.scope x) (r : RelV v u)
    (h : ∀ s', Inv X pins (σ.set i (some v)) H s' → (∃ a, Heap.SameBut a s.heap s'.heap ∧ (a = X.env.locals ∨ X.env.cells.lookup x = some a)) → Q () s') (hf : X.fn x = true ∨ X.env.scope.names.lookup x = some .local := by first | exact .inl rfl | exact .inr rfl | assumption) : wpAny M A (storeName X.env x u) Q E s := by
  obtain ⟨m, hn, hl⟩ := id I.loc
  have hcls : (X.env.scope.kind == .class || (X.env.scope.kind == .module && X.env.locals != X.env.globals)) = false := by rw [I.ok.kind]; rfl
  have hiσ : i < σ.length := by rw [I.len]; exact (List.getElem?_eq_some_iff.mp hi).1
  have cne := I.cne
  have tracked : ∀ {a : Addr} {h' : Heap}, (∃ o, s.heap.get? a = some o ∧ H a = none) → Heap.SameBut a s.heap h' → HOk X.prog X.w H h' := fun {a h'} ha hs b ob e => by
    obtain ⟨_, _, hfree⟩ := ha
    refine (I.hok b ob e).stay (fun c w' hc q => (hs.2 c ?_).trans q) (fun _ q => q) fun _ _ q => q
    rintro rfl
    rcases hc with rfl | hc
    · rw [hfree] at e; cases e
    · rw [hfree] at hc; cases hc
  rcases hx with hk | hk
  · refine wpAny_storeName_local hk hn (fun h' hn' hs => ?_) hcls
    obtain ⟨oL, _, _, hoL, _⟩ := id hn
    refine h _ ⟨I.ok, I.os, I.bare, ⟨fun b o e n hb hx => ?_, fun b o e n hb hx => ?_, I.base.free, fun b o e hx => ?_, I.base.tups, I.base.frzs, I.base.tbls⟩, ⟨_, hn', fun j y v' e1 e2 e3 => ?_⟩, fun y c e => ?_, I.free, I.freeC, fun p hp => ?_, tracked ⟨oL, hoL, I.free⟩ hs, by simpa using I.len⟩ ⟨_, hs, .inl rfl⟩
    · exact (hs.2 b (Nat.ne_of_lt (Nat.lt_of_lt_of_le (Heap.lt_size e) I.ok.above))).trans (I.base.keep b o e n hb hx)
    · obtain ⟨sl, e1⟩ := I.base.slot b o e n hb hx
      exact ⟨sl, (hs.2 b (Nat.ne_of_lt (Nat.lt_of_lt_of_le (Heap.lt_size e) I.ok.above))).trans e1⟩
    · obtain ⟨o', e1⟩ := I.base.there b o e hx
      exact ⟨o', (hs.2 b (Nat.ne_of_lt (Nat.lt_of_lt_of_le (Heap.lt_size e) I.ok.above))).trans e1⟩
    · by_cases hj : j = i
      · subst hj
        rw [hi] at e1; cases e1
        rw [List.getElem?_set_self hiσ] at e2
        cases e2
        exact ⟨u, r, .inl ⟨hk, by simp⟩⟩
      · rw [List.getElem?_set_ne (Ne.symm hj)] at e2
        obtain ⟨u', r', q⟩ := hl j y v' e1 e2 e3
        refine ⟨u', r', ?_⟩
        rcases q with ⟨k, e⟩ | ⟨k, c, e, z⟩
        · refine .inl ⟨k, ?_⟩
          have : y ≠ x := fun e => hj (nodup_ix hN e1 (e ▸ hi))
          simp [this, e]
        · exact .inr ⟨k, c, e, z.sameBut hs (cne y c e)⟩
    · obtain ⟨w', z⟩ := I.cell y c e
      exact ⟨w', z.sameBut hs (cne y c e)⟩
    · obtain ⟨e, n, ne, nf, d⟩ := I.pin p hp
      exact ⟨(hs.2 p.1 ne).trans e, n, ne, nf, d⟩
  · have hfn : X.fn x = true := by
      rcases hf with z | z
      · exact z
      · rw [z] at hk; cases hk
    obtain ⟨c, hc⟩ := I.ok.has x (.inl hk)
    obtain ⟨w', z⟩ := I.cell x c hc
    refine wpAny_storeName_cell I.ok.kind hk hc z (fun h' hc' hs => ?_)
    obtain ⟨oc, hoc, hocd⟩ := id z
    refine h { s with heap := h' } ⟨I.ok, I.os, I.bare, ⟨fun b o e n hb hx => ?_, fun b o e n hb hx => ?_, I.base.free, fun b o e hx => ?_, I.base.tups, I.base.frzs, I.base.tbls⟩, ⟨m, hn.sameBut hs (Ne.symm (cne x c hc)), fun j y v' e1 e2 e3 => ?_⟩, fun y c' e => ?_, I.free, I.freeC, fun p hp => ?_, tracked ⟨oc, hoc, I.freeC x c hc⟩ hs, by simpa using I.len⟩ ⟨c, hs, .inr hc⟩
    · exact (hs.2 b (Nat.ne_of_lt (Nat.lt_of_lt_of_le (Heap.lt_size e) (I.ok.cab x c hfn hc)))).trans (I.base.keep b o e n hb hx)
    · obtain ⟨sl, e1⟩ := I.base.slot b o e n hb hx
      exact ⟨sl, (hs.2 b (Nat.ne_of_lt (Nat.lt_of_lt_of_le (Heap.lt_size e) (I.ok.cab x c hfn hc)))).trans e1⟩
    · obtain ⟨o', e1⟩ := I.base.there b o e hx
      exact ⟨o', (hs.2 b (Nat.ne_of_lt (Nat.lt_of_lt_of_le (Heap.lt_size e) (I.ok.cab x c hfn hc)))).trans e1⟩
    · by_cases hj : j = i
      · subst hj
        rw [hi] at e1; cases e1
        rw [List.getElem?_set_self hiσ] at e2
        cases e2
        exact ⟨u, r, .inr ⟨.inl hk, c, hc, hc'⟩⟩
      · rw [List.getElem?_set_ne (Ne.symm hj)] at e2
        obtain ⟨u', r', q⟩ := hl j y v' e1 e2 e3
        refine ⟨u', r', ?_⟩
        rcases q with q | ⟨k, c', e, z'⟩
        · exact .inl q
        · refine .inr ⟨k, c', e, z'.sameBut hs ?_⟩
          rintro rfl
          exact hj (nodup_ix hN e1 (I.ok.inj _ _ _ e hc ▸ hi))
    · by_cases hcc : c' = c
      · subst hcc; exact ⟨_, hc'⟩
      · obtain ⟨w2, z2⟩ := I.cell y c' e
        exact ⟨w2, z2.sameBut hs hcc⟩
    · obtain ⟨e, n, ne, nf, d⟩ := I.pin p hp
      refine ⟨(hs.2 p.1 ?_).trans e, n, ne, nf, d⟩
      intro q
      rw [q, hoc] at e
      have q' : oc = p.2 := Option.some.inj e
      exact d w' (by rw [← q']; exact hocd)
theorem store_ok {M : Model} {A : Around} {E : Value → Shared → Prop} {i : Nat} {x : Str} {v : V} {u : Value} {Q : Unit → Shared → Prop} (I : Inv X pins σ H s) (hN : X.N.Nodup) (hi : X.N[i]? = some x) (hx : Loc X.env.scope x) (r : RelV v u)
    (h : ∀ s', Inv X pins (σ.set i (some v)) H s' → Q () s') (hf : X.fn x = true ∨ X.env.scope.names.lookup x = some .local := by first | exact .inl rfl | exact .inr rfl | assumption) : wpAny M A (storeName X.env x u) Q E s :=
  store_ok2 I hN hi hx r (fun s' I' _ => h s' I') hf
/-- behind a call or a block, the state as it is -/
theorem Inv.call' {s' : Shared} {ch : List Addr} (I : Inv X pins σ H s) (ho : s'.os = s.os) (u : Un (frs X.stack) ch H H' s.heap s'.heap) (hok : HOk X.prog X.w H' s'.heap) (hg : AllBare s'.gens)
    (hch : ∀ b ∈ ch, (b ∈ X.ex ∨ X.s₀.heap.objs.size ≤ b) ∧ b ≠ X.env.locals ∧ (∀ x c, X.env.cells.lookup x = some c → c ≠ b) ∧ ∀ p ∈ X.pn ++ pins, p.1 ≠ b) : Inv X pins σ H' s' := by
  obtain ⟨h', g', d', t', o'⟩ := s'
  have e : o' = s.os := ho
  subst e
  exact I.call (g' := g') (t' := t') (d' := d') u hok hg hch
end

/-! ### the judgements -/
/-- an exception: its class, its own dict's address (where it has one), the abstract heap behind it -/
abbrev XK := Value → Option Addr → Hp → Prop
abbrev St := List (Option V)
abbrev VK := V → Hp → Prop
/-- an expression's reading; a test's; an argument list's -/
abbrev TE := St → Hp → VK → Prop
abbrev TT := St → Hp → (Bool → Hp → Prop) → Prop
abbrev TA := St → Hp → (List V → Hp → Prop) → Prop
/-- what is wanted behind a statement -/
structure Ends where
  nx : St → Hp → Prop
  rt : VK
  bk : St → Hp → Prop := fun _ _ => False
  ct : St → Hp → Prop := fun _ _ => False
abbrev TS := Ends → St → Hp → Prop

def EP (X : Cx) (pins : List (Addr × Obj)) (σ : St) (Q : VK) (u : Value) (s' : Shared) : Prop := ∃ v H', Inv X pins σ H' s' ∧ RelV v u ∧ Q v H'
def TP (X : Cx) (pins : List (Addr × Obj)) (σ : St) (Q : Bool → Hp → Prop) (b : Bool) (s' : Shared) : Prop := ∃ H', Inv X pins σ H' s' ∧ Q b H'
def AP (X : Cx) (pins : List (Addr × Obj)) (σ : St) (Q : List V → Hp → Prop) (us : List Value) (s' : Shared) : Prop := ∃ vs H', Inv X pins σ H' s' ∧ Vals vs us ∧ Q vs H'
def SP (X : Cx) (pins : List (Addr × Obj)) (D : Ends) (f : Flow) (s' : Shared) : Prop :=
  match f with
  | .next => ∃ σ' H', Inv X pins σ' H' s' ∧ D.nx σ' H'
  | .brk => ∃ σ' H', Inv X pins σ' H' s' ∧ D.bk σ' H'
  | .cont => ∃ σ' H', Inv X pins σ' H' s' ∧ D.ct σ' H'
  | .ret u => ∃ v σ' H', Inv X pins σ' H' s' ∧ RelV v u ∧ D.rt v H'

def PE (X : Cx) (e : Expr) (t : TE) : Prop :=
  ∀ (pins : List (Addr × Obj)) (s : Shared) (σ : St) (H : Hp) (Q : VK), Inv X pins σ H s → t σ H Q → wpAny (model X.prog X.w) X.A (eval e X.env) (EP X pins σ Q) X.xe s
def PT (X : Cx) (e : Expr) (t : TT) : Prop :=
  ∀ (pins : List (Addr × Obj)) (s : Shared) (σ : St) (H : Hp) (Q : Bool → Hp → Prop), Inv X pins σ H s → t σ H Q → wpAny (model X.prog X.w) X.A (isTrue e X.env (eval e X.env)) (TP X pins σ Q) X.xe s
/-- a test whatever its 'whole' is (and, or) -/
def PW (X : Cx) (e : Expr) (t : TT) : Prop :=
  ∀ (whole : Sem Value) (pins : List (Addr × Obj)) (s : Shared) (σ : St) (H : Hp) (Q : Bool → Hp → Prop), Inv X pins σ H s → t σ H Q → wpAny (model X.prog X.w) X.A (isTrue e X.env whole) (TP X pins σ Q) X.xe s
theorem PW.pt {X : Cx} {e : Expr} {t : TT} (h : PW X e t) : PT X e t := h _
/-- an argument list (no star), from the left -/
def PA (X : Cx) (es : List Expr) (t : TA) : Prop :=
  ∀ (pos : Pos) (pins : List (Addr × Obj)) (s : Shared) (σ : St) (H : Hp) (Q : List V → Hp → Prop), Inv X pins σ H s → t σ H Q → wpAny (model X.prog X.w) X.A (spliced (backTo pos (starEach es X.env))) (AP X pins σ Q) X.xe s
def PS (X : Cx) (st : Stmt) (t : TS) : Prop :=
  ∀ (pins : List (Addr × Obj)) (s : Shared) (σ : St) (H : Hp) (D : Ends), Inv X pins σ H s → t D σ H → wpAny (model X.prog X.w) X.A (exec st X.env) (SP X pins D) X.xe s
def PSs (X : Cx) (st : List Stmt) (t : TS) : Prop :=
  ∀ (pins : List (Addr × Obj)) (s : Shared) (σ : St) (H : Hp) (D : Ends), Inv X pins σ H s → t D σ H → wpAny (model X.prog X.w) X.A (execs st X.env) (SP X pins D) X.xe s
/-- weaken the end -/
theorem thn {α : Type} {t : Sem α} {Q Q' : α → Shared → Prop} {M : Model} {A : Around} {E : Value → Shared → Prop} {s : Shared} (h : wpAny M A t Q E s) (hQ : ∀ a s, Q a s → Q' a s) : wpAny M A t Q' E s := wpAny_mono h hQ fun _ _ x => x
end L2

namespace L2
open PySem PySem.Spec PyProof.Rows
section
variable {X : Cx}

/-! ### names and constants -/
def tVar (i : Nat) : TE := fun σ H Q => ∃ v, σ[i]? = some (some v) ∧ Q v H
def tC (v : V) : TE := fun _ H Q => Q v H
theorem pe_var {i : Nat} {x : Str} {pos : Pos} (hN : X.N[i]? = some x) (hv : Vis X.env.scope x) (hd : (x == ("__debug__" : Str)) = false := by decide) (hcd : (x == ("__classdict__" : Str)) = false := by decide) : PE X (.Name x pos) (tVar i) := by
  intro pins s σ H Q I h
  obtain ⟨v, e, h⟩ := h
  obtain ⟨m, hn, hl⟩ := I.loc
  obtain ⟨u, r, l⟩ := hl i x v hN e hv
  have fin : EP X pins σ Q u s := ⟨v, H, I, r, h⟩
  rcases l with ⟨hk, hm⟩ | ⟨hk, c, hc, hcell⟩
  · exact wpAny_Name (wpAny_loadName_local I.ok.kind hk hn hm fin) hd
  · rcases hk with hk | hk
    · exact wpAny_Name (wpAny_loadName_cell I.ok.kind hk hc hcell fin) hd
    · exact wpAny_Name (wpAny_loadName_free I.ok.kind hk hc hcell fin hcd) hd
theorem pe_int {i j pos} : PE X (.Constant (.int i) j pos) (tC (.int i)) := fun _ _ _ H _ I h => wpAny_Constant_int ⟨.int i, H, I.tok _, ⟨_, rfl⟩, h⟩
theorem pe_bl {b j pos} : PE X (.Constant (.bool b) j pos) (tC (.bl b)) := fun _ _ _ H _ I h => Constant_bool ⟨.bl b, H, I, rfl, h⟩
theorem pe_non {j pos} : PE X (.Constant .none j pos) (tC .non) := fun _ _ _ H _ I h => Constant_none ⟨.non, H, I, rfl, h⟩
theorem pe_str {x j pos} : PE X (.Constant (.str x) j pos) (tC (.str x)) := fun _ _ _ H _ I h => Calls.Constant_str ⟨.str x, H, I.tok _, ⟨_, rfl⟩, h⟩

/-- a global name of the def -/
def Gl (X : Cx) (x : Str) : Prop := X.env.kindOf x = some .globalImplicit
theorem ld_glob {E : Value → Shared → Prop} {pins : List (Addr × Obj)} {s : Shared} {σ : St} {H : Hp} {x : Str} {u : Value} {pos : Pos} {Q : Value → Shared → Prop} (I : Inv X pins σ H s) (hg : Gl X x) (hm : X.mg x = some u) (h : Q u s)
    (hd : (x == ("__debug__" : Str)) = false := by decide) : wpAny (model X.prog X.w) X.A (eval (.Name x pos) X.env) Q E s :=
  Calls.Name_function_global I.ok.kind hg (Calls.loadGlobal_global (by rw [I.ok.glob]; exact I.mod.glob.keeps I.bk) hm h) hd
theorem ld_blt {E : Value → Shared → Prop} {pins : List (Addr × Obj)} {s : Shared} {σ : St} {H : Hp} {x : Str} {u : Value} {pos : Pos} {Q : Value → Shared → Prop} (I : Inv X pins σ H s) (hg : Gl X x) (hm : X.mg x = none) (hv : bootBuiltins x = some u) (h : Q u s)
    (hn : x ≠ "__name__" := by decide) (hd : (x == ("__debug__" : Str)) = false := by decide) : wpAny (model X.prog X.w) X.A (eval (.Name x pos) X.env) Q E s := by
  obtain ⟨mb, h1, h2⟩ := I.mod.blt
  exact Calls.Name_function_global I.ok.kind hg (Calls.loadGlobal_builtin (by rw [I.ok.glob]; exact I.mod.glob.keeps I.bk) hm (by rw [I.ok.blt]; exact h1.keeps I.bk) ((h2 x hn).trans hv) h) hd
/-- a module's constant, a class, a function, as a value -/
theorem pe_glob {x : Str} {v : V} {u : Value} {pos : Pos} (hg : Gl X x) (hm : X.mg x = some u) (r : RelV v u) (hd : (x == ("__debug__" : Str)) = false := by decide) : PE X (.Name x pos) (tC v) :=
  fun _ _ _ H _ I h => ld_glob I hg hm ⟨v, H, I, r, h⟩ hd
theorem pe_bltn {x : Str} {v : V} {u : Value} {pos : Pos} (hg : Gl X x) (hm : X.mg x = none) (hv : bootBuiltins x = some u) (r : RelV v u) (hn : x ≠ "__name__" := by decide) (hd : (x == ("__debug__" : Str)) = false := by decide) : PE X (.Name x pos) (tC v) :=
  fun _ _ _ H _ I h => ld_blt I hg hm hv ⟨v, H, I, r, h⟩ hn hd

/-! ### arithmetic -/
/-- two ints -/
def t2I (ta tb : TE) (k : Int → Int → Hp → Prop) : St → Hp → Prop := fun σ H => ta σ H fun x H1 => tb σ H1 fun y H2 => ∃ i j, x = .int i ∧ y = .int j ∧ k i j H2
def tAdd (ta tb : TE) : TE := fun σ H Q => t2I ta tb (fun i j H2 => Q (.int (i + j)) H2) σ H
def tSub (ta tb : TE) : TE := fun σ H Q => t2I ta tb (fun i j H2 => Q (.int (i - j)) H2) σ H
/-- the left factor below 2^64 -/
def tMul (ta tb : TE) : TE := fun σ H Q => t2I ta tb (fun i j H2 => (-(2 ^ 64) < i ∧ i < 2 ^ 64) ∧ Q (.int (i * j)) H2) σ H
variable {a b : Expr} {ta tb : TE} {pos : Pos}
/-! ### comparisons -/
def PC (X : Cx) (op : CmpOp) (a b : Expr) (t : TE) : Prop :=
  ∀ (pins : List (Addr × Obj)) (s : Shared) (σ : St) (H : Hp) (Q : VK), Inv X pins σ H s → t σ H Q →
    wpAny (model X.prog X.w) X.A (eval a X.env) (fun v s₁ => wpAny (model X.prog X.w) X.A (eval b X.env) (fun u s₂ => wpAny (model X.prog X.w) X.A (compareOp op v u) (EP X pins σ Q) X.xe s₂) X.xe s₁) X.xe s
def tCmp (p : Int → Int → Bool) (ta tb : TE) : TE := fun σ H Q => t2I ta tb (fun i j H2 => Q (.bl (p i j)) H2) σ H
abbrev tLt : TE → TE → TE := tCmp fun i j => decide (i < j)
abbrev tLe : TE → TE → TE := tCmp fun i j => decide (i ≤ j)
abbrev tGt : TE → TE → TE := tCmp fun i j => decide (j < i)
abbrev tGe : TE → TE → TE := tCmp fun i j => decide (j ≤ i)
abbrev tEqI : TE → TE → TE := tCmp fun i j => decide (i = j)
abbrev tNeI : TE → TE → TE := tCmp fun i j => !decide (i = j)
/-- is None -/
def tIsN (ta : TE) : TE := fun σ H Q => ta σ H fun x H1 => Q (.bl (decide (x = .non))) H1
def tNotN (ta : TE) : TE := fun σ H Q => ta σ H fun x H1 => Q (.bl (!decide (x = .non))) H1
/-- a comparison as a value, as a test -/
def tB (t : TE) : TT := fun σ H Q => t σ H fun x H1 => ∃ c, x = .bl c ∧ Q c H1
/-- an expression whose value is a bool, as a test -/
theorem pt_val {e : Expr} {t : TE} (h : PE X e t) (he : ∀ whole, isTrue e X.env whole = (do let v ← whole; standAt e.pos; holding [v] (truthy v)) := by intro _; rfl) : PT X e (tB t) := by
  intro pins s σ H Q I hw
  refine isTrue_plain (thn (h pins s σ H _ I hw) fun v s1 ⟨x, H1, I1, r1, q1⟩ => ?_) (he _)
  obtain ⟨d, rfl, q⟩ := q1
  cases r1
  exact wpAny_truthy_bool ⟨H1, I1, q⟩

/-! ### and, or, not -/
variable {tA tB' : TT} {rest : List Expr}
def tAnd (t u : TT) : TT := fun σ H Q => t σ H fun c H1 => if c = true then u σ H1 Q else Q false H1
def tOr (t u : TT) : TT := fun σ H Q => t σ H fun c H1 => if c = true then Q true H1 else u σ H1 Q
def tNot (t : TT) : TT := fun σ H Q => t σ H fun c H1 => Q (!c) H1
theorem pw_and1 (ha : PT X a tA) : PW X (.BoolOp .And [a] pos) tA := by
  intro wh pins s σ H Q I h
  refine isTrue_and (thn (ha pins s σ H Q I h) fun c s1 e => ?_)
  cases c with
  | true => exact isTrue_and_nil e
  | false => exact e
theorem pw_or1 (ha : PT X a tA) : PW X (.BoolOp .Or [a] pos) tA := by
  intro wh pins s σ H Q I h
  refine isTrue_or (thn (ha pins s σ H Q I h) fun c s1 e => ?_)
  cases c with
  | false => exact isTrue_or_nil e
  | true => exact e
theorem pw_and (ha : PT X a tA) (hb : PW X (.BoolOp .And (b :: rest) pos) tB') : PW X (.BoolOp .And (a :: b :: rest) pos) (tAnd tA tB') := by
  intro wh pins s σ H Q I h
  refine isTrue_and (thn (ha pins s σ H _ I h) fun c s1 ⟨H1, I1, q1⟩ => ?_)
  cases c with
  | true => exact hb wh pins s1 σ H1 Q I1 q1
  | false => exact ⟨H1, I1, q1⟩
theorem pw_or (ha : PT X a tA) (hb : PW X (.BoolOp .Or (b :: rest) pos) tB') : PW X (.BoolOp .Or (a :: b :: rest) pos) (tOr tA tB') := by
  intro wh pins s σ H Q I h
  refine isTrue_or (thn (ha pins s σ H _ I h) fun c s1 ⟨H1, I1, q1⟩ => ?_)
  cases c with
  | true => exact ⟨H1, I1, q1⟩
  | false => exact hb wh pins s1 σ H1 Q I1 q1
theorem pt_not (ha : PT X a tA) : PT X (.UnaryOp .Not a pos) (tNot tA) := by
  intro pins s σ H Q I h
  exact isTrue_not (ha pins s σ H (fun c H1 => Q (!c) H1) I h)
/-- .. as values (bools) -/
def tAndV (ta tb : TE) : TE := fun σ H Q => ta σ H fun x H1 => ∃ c, x = .bl c ∧ if c = true then tb σ H1 Q else Q (.bl false) H1
def tOrV (ta tb : TE) : TE := fun σ H Q => ta σ H fun x H1 => ∃ c, x = .bl c ∧ if c = true then Q (.bl true) H1 else tb σ H1 Q
def tNotV (ta : TE) : TE := fun σ H Q => ta σ H fun x H1 => ∃ c, x = .bl c ∧ Q (.bl (!c)) H1
theorem pe_one {op} {t : TE} (h : PE X a t) : PE X (.BoolOp op [a] pos) t := fun pins s σ H Q I hw => BoolOp_one (h pins s σ H Q I hw)
theorem pe_and (ha : PE X a ta) (hb : PE X (.BoolOp .And (b :: rest) pos) tb) : PE X (.BoolOp .And (a :: b :: rest) pos) (tAndV ta tb) := by
  intro pins s σ H Q I h
  refine BoolOp_and (thn (ha pins s σ H _ I h) fun v s1 ⟨x, H1, I1, r1, q1⟩ => ?_)
  obtain ⟨c, rfl, q1⟩ := q1
  cases r1
  refine wpAny_truthy_bool ?_
  cases c with
  | true => exact hb pins s1 σ H1 Q I1 q1
  | false => exact ⟨.bl false, H1, I1, rfl, q1⟩
theorem pe_or (ha : PE X a ta) (hb : PE X (.BoolOp .Or (b :: rest) pos) tb) : PE X (.BoolOp .Or (a :: b :: rest) pos) (tOrV ta tb) := by
  intro pins s σ H Q I h
  refine BoolOp_or (thn (ha pins s σ H _ I h) fun v s1 ⟨x, H1, I1, r1, q1⟩ => ?_)
  obtain ⟨c, rfl, q1⟩ := q1
  cases r1
  refine wpAny_truthy_bool ?_
  cases c with
  | false => exact hb pins s1 σ H1 Q I1 q1
  | true => exact ⟨.bl true, H1, I1, rfl, q1⟩
theorem pe_not (ha : PE X a ta) : PE X (.UnaryOp .Not a pos) (tNotV ta) := by
  intro pins s σ H Q I h
  refine UnaryOp_ (thn (ha pins s σ H _ I h) fun v s1 ⟨x, H1, I1, r1, q1⟩ => ?_)
  obtain ⟨c, rfl, q1⟩ := q1
  cases r1
  exact not_of (wpAny_truthy_bool ⟨.bl (!c), H1, I1, rfl, q1⟩)
/-- a if t else b -/
def tIf (t : TT) (ta tb : TE) : TE := fun σ H Q => t σ H fun c H1 => if c = true then ta σ H1 Q else tb σ H1 Q
theorem pe_ifExp {c : Expr} (hc : PT X c tA) (ha : PE X a ta) (hb : PE X b tb) : PE X (.IfExp c a b pos) (tIf tA ta tb) := by
  intro pins s σ H Q I h
  refine wpAny_IfExp (thn (hc pins s σ H _ I h) fun d s1 ⟨H1, I1, q1⟩ => ?_)
  cases d with
  | true => exact ha pins s1 σ H1 Q I1 q1
  | false => exact hb pins s1 σ H1 Q I1 q1
end
end L2

namespace L2
open PySem PySem.Spec PyProof.Rows

/-! ### a list, a tuple that is read: tracked, frozen, or an object of the module -/
def SqL (K : PySem.W.Frag) (H : Hp) (a : Addr) (xs : List V) : Prop :=
  Rd H a (.lst xs) ∨
    ∃ (o : Obj) (its : Array Value) (n : Nat), K.lookup a = some o ∧ o.cls = .type "list" ∧ o.dict = none ∧ o.data = .seq its n ∧ its.size ≤ sizeLine ∧ Vals xs its.toList
def SqT (K : PySem.W.Frag) (H : Hp) (a : Addr) (xs : List V) : Prop :=
  Rd H a (.tup xs) ∨
    ∃ (o : Obj) (its : Array Value) (n : Nat), K.lookup a = some o ∧ o.cls = .type "tuple" ∧ o.data = .seq its n ∧ its.size ≤ sizeLine ∧ Vals xs its.toList
def absV : Value → Option V
  | .none => some .non
  | .bool b => some (.bl b)
  | .int i _ => some (.int i)
  | .str x _ => some (.str x)
  | .bytes b _ => some (.byt b)
  | .float b _ => some (.flt b)
  | .ref a => some (.ref a)
  | .type n => some (.ty n)
  | _ => none
theorem RelV.abs {x : V} {u : Value} (r : RelV x u) : absV u = some x := by
  cases x with
  | non => cases r; rfl
  | bl _ => cases r; rfl
  | int _ => obtain ⟨t, rfl⟩ := r; rfl
  | str _ => obtain ⟨t, rfl⟩ := r; rfl
  | byt _ => obtain ⟨t, rfl⟩ := r; rfl
  | flt _ => obtain ⟨t, rfl⟩ := r; rfl
  | ref _ => cases r; rfl
  | ty _ => cases r; rfl
theorem RelV.inj {x y : V} {u : Value} (r : RelV x u) (q : RelV y u) : x = y := Option.some.inj (r.abs.symm.trans q.abs)
theorem Vals.inj : ∀ {xs ys : List V} {us : List Value}, Vals xs us → Vals ys us → xs = ys
  | _, _, _, .nil, .nil => rfl
  | _, _, _, .cons r t, .cons r' t' => by rw [r.inj r', Vals.inj t t']
section
variable {X : Cx} {pins : List (Addr × Obj)} {σ : St} {H : Hp} {s : Shared} {a : Addr} {xs ys : List V}
theorem SqL.of {K : PySem.W.Frag} (h : H a = some (.lst xs)) : SqL K H a xs := .inl (.inl h)
theorem SqT.of {K : PySem.W.Frag} (h : H a = some (.tup xs)) : SqT K H a xs := .inl (.inl h)
theorem Inv.list (I : Inv X pins σ H s) (h : SqL X.K H a xs) : ∃ its : List Value, Vals xs its ∧ PlainL s.heap a its.toArray ∧ xs.length ≤ sizeLine := by
  rcases h with h | ⟨o, its, n, hk, hc, hd, hs, hz, r⟩
  · obtain ⟨z, its, n, r, e⟩ := h.ok I.hok
    exact ⟨its, r, ⟨_, n, e, rfl, rfl, rfl⟩, z⟩
  · refine ⟨its.toList, r, ⟨o, n, I.kIn a o hk, hc, hd, by simpa using hs⟩, ?_⟩
    have e := r.length
    simp only [Array.length_toList] at e
    omega
theorem Inv.tuple (I : Inv X pins σ H s) (h : SqT X.K H a xs) : ∃ its : List Value, Vals xs its ∧ IsTup s.heap a its.toArray ∧ xs.length ≤ sizeLine := by
  rcases h with h | ⟨o, its, n, hk, hc, hs, hz, r⟩
  · obtain ⟨z, its, r, p⟩ := h.ok I.hok
    exact ⟨its, r, p, z⟩
  · refine ⟨its.toList, r, ⟨o, I.kIn a o hk, hc, n, by simpa using hs⟩, ?_⟩
    have e := r.length
    simp only [Array.length_toList] at e
    omega
theorem Inv.list_inj (I : Inv X pins σ H s) (h : SqL X.K H a xs) (h' : SqL X.K H a ys) : xs = ys := by
  obtain ⟨its, r, ⟨o, n, e, _, _, d⟩, _⟩ := I.list h
  obtain ⟨its', r', ⟨o', n', e', _, _, d'⟩, _⟩ := I.list h'
  rw [e] at e'; cases e'
  rw [d] at d'
  injection d' with d1 _
  have : its = its' := by simpa using congrArg Array.toList d1
  subst this
  exact r.inj r'
end

/-! ### another wish about exceptions -/
abbrev Cx.wish (X : Cx) (E : Value → Shared → Prop) : Cx := { X with xe := E }
/-- no exception leaves -/
abbrev Cx.nox (X : Cx) : Cx := X.wish fun _ _ => False
theorem Cx.Ok.wish {X : Cx} (ok : X.Ok) (E : Value → Shared → Prop) : (X.wish E).Ok :=
  ⟨ok.mod, ok.kind, ok.glob, ok.blt, ok.above, ok.inj, ok.has, ok.cab, ok.hd, ok.frames, ok.stk, ok.exf, ok.bs, ok.bsz, ok.noex, ok.exfs, ok.funs, ok.frf⟩
theorem Cx.Ok.unwish {X : Cx} {E : Value → Shared → Prop} (ok : (X.wish E).Ok) : X.Ok :=
  ⟨ok.mod, ok.kind, ok.glob, ok.blt, ok.above, ok.inj, ok.has, ok.cab, ok.hd, ok.frames, ok.stk, ok.exf, ok.bs, ok.bsz, ok.noex, ok.exfs, ok.funs, ok.frf⟩
section
variable {X : Cx} {pins : List (Addr × Obj)} {σ : St} {H : Hp} {s : Shared} {E : Value → Shared → Prop}
theorem Inv.wish (I : Inv X pins σ H s) (E : Value → Shared → Prop) : Inv (X.wish E) pins σ H s := ⟨I.ok.wish E, I.os, I.bare, I.base, I.loc, I.cell, I.free, I.freeC, I.pin, I.hok, I.len⟩
theorem Inv.unwish (I : Inv (X.wish E) pins σ H s) : Inv X pins σ H s := ⟨I.ok.unwish, I.os, I.bare, I.base, I.loc, I.cell, I.free, I.freeC, I.pin, I.hok, I.len⟩
theorem SP.unwish {D : Ends} {f : Flow} {s' : Shared} (h : SP (X.wish E) pins D f s') : SP X pins D f s' := by
  cases f with
  | next => obtain ⟨σ', H', I, q⟩ := h; exact ⟨σ', H', I.unwish, q⟩
  | brk => obtain ⟨σ', H', I, q⟩ := h; exact ⟨σ', H', I.unwish, q⟩
  | cont => obtain ⟨σ', H', I, q⟩ := h; exact ⟨σ', H', I.unwish, q⟩
  | ret u => obtain ⟨v, σ', H', I, r, q⟩ := h; exact ⟨v, σ', H', I.unwish, r, q⟩
theorem PSs.nox {st : List Stmt} {t : TS} (h : PSs X.nox st t) : PSs X st t := fun pins s σ H D I hw =>
  wpAny_mono (h pins s σ H D (I.wish _) hw) (fun _ _ q => q.unwish) fun _ _ z => False.elim z
end

/-! ### blocks and small statements -/
section
variable {X : Cx} {st : Stmt} {rest : List Stmt} {t u : TS} {e : Expr} {te : TE} {pos : Pos}
def tNext : TS := fun D σ H => D.nx σ H
def tSeq (t u : TS) : TS := fun D σ H => t { D with nx := u D } σ H
theorem pss_nil : PSs X [] tNext := fun _ _ σ H _ I h => wpAny_execs_nil ⟨σ, H, I, h⟩
theorem pss_cons (h1 : PS X st t) (h2 : PSs X rest u) : PSs X (st :: rest) (tSeq t u) := by
  intro pins s σ H D I h
  refine wpAny_execs_cons (thn (h1 pins s σ H { D with nx := u D } I h) fun f s1 q => ?_)
  cases f with
  | next =>
    obtain ⟨σ', H', I', q⟩ := q
    exact h2 pins s1 σ' H' D I' q
  | ret v => exact q
  | brk => exact q
  | cont => exact q
theorem pss_one (h1 : PS X st t) : PSs X [st] t := by
  intro pins s σ H D I h
  refine wpAny_execs_cons (thn (h1 pins s σ H D I h) fun f s1 q => ?_)
  cases f with
  | next => exact wpAny_execs_nil q
  | ret v => exact q
  | brk => exact q
  | cont => exact q
def tBreak : TS := fun D σ H => D.bk σ H
def tCont : TS := fun D σ H => D.ct σ H
/-- in a def's body nothing is shown -/
theorem Inv.quiet {pins : List (Addr × Obj)} {σ : St} {H : Hp} {s : Shared} (I : Inv X pins σ H s) : interactive X.env = false := by simp [interactive, I.ok.kind]
/-- an expression whose value is dropped -/
def tDrop (te : TE) : TS := fun D σ H => te σ H fun _ H1 => D.nx σ H1
theorem ps_expr (he : PE X e te) (hs : swapsWith e none pos.line X.env = pure false := by rfl) : PS X (.Expr e pos) (tDrop te) := by
  intro pins s σ H D I h
  exact wpAny_Expr_any (thn (he pins s σ H _ I h) fun v s1 ⟨x, H1, I1, r1, q1⟩ => ⟨σ, H1, I1, q1⟩) I.quiet hs
def tRet (te : TE) : TS := fun D σ H => te σ H D.rt
theorem ps_ret (he : PE X e te) : PS X (.Return (some e) pos) (tRet te) := by
  intro pins s σ H D I h
  exact wpAny_Return_some (thn (he pins s σ H _ I h) fun v s1 ⟨x, H1, I1, r1, q1⟩ => ⟨x, σ, H1, I1, r1, q1⟩)
def tRetN : TS := fun D _ H => D.rt .non H
def tIfS (c : TT) (t u : TS) : TS := fun D σ H => c σ H fun b H1 => if b = true then t D σ H1 else u D σ H1
theorem ps_if {c : Expr} {a b : List Stmt} {tc : TT} (hc : PT X c tc) (ha : PSs X a t) (hb : PSs X b u) : PS X (.If c a b pos) (tIfS tc t u) := by
  intro pins s σ H D I h
  refine wpAny_If (thn (hc pins s σ H _ I h) fun d s1 ⟨H1, I1, q1⟩ => ?_)
  cases d with
  | true => exact ha pins s1 σ H1 D I1 q1
  | false => exact hb pins s1 σ H1 D I1 q1
/-- code that the proof never comes to -/
def tNever : TS := fun _ _ _ => False
end

/-! ### targets -/
abbrev TG := V → St → Hp → (St → Hp → Prop) → Prop
abbrev TGs := List V → St → Hp → (St → Hp → Prop) → Prop
def PG (X : Cx) (target : Expr) (t : TG) : Prop :=
  ∀ (pins : List (Addr × Obj)) (s : Shared) (σ : St) (H : Hp) (v : V) (u : Value) (Q : St → Hp → Prop), Inv X pins σ H s → RelV v u → t v σ H Q →
    wpAny (model X.prog X.w) X.A (assign target X.env u) (fun _ s' => ∃ σ' H', Inv X pins σ' H' s' ∧ Q σ' H') X.xe s
/-- several targets, one after another -/
def PGs (X : Cx) (ts : List Expr) (t : TGs) : Prop :=
  ∀ (pins : List (Addr × Obj)) (s : Shared) (σ : St) (H : Hp) (vs : List V) (us : List Value) (Q : St → Hp → Prop), Inv X pins σ H s → Vals vs us → t vs σ H Q →
    wpAny (model X.prog X.w) X.A (assignInOrder ((assignEach ts X.env).map (·.2)) us) (fun _ s' => ∃ σ' H', Inv X pins σ' H' s' ∧ Q σ' H') X.xe s
/-- o[i] = v, by values -/
abbrev TSet := V → V → V → Hp → (Hp → Prop) → Prop
def PSet (X : Cx) (t : TSet) : Prop :=
  ∀ (pins : List (Addr × Obj)) (s : Shared) (σ : St) (H : Hp) (o i v : V) (ov iv u : Value) (Q : Hp → Prop), Inv X pins σ H s → RelV o ov → RelV i iv → RelV v u → t o i v H Q →
    wpAny (model X.prog X.w) X.A (setItem ov iv u) (fun _ s' => ∃ H', Inv X pins σ H' s' ∧ Q H') X.xe s
/-- a op= b, by values -/
abbrev TIp := V → V → Hp → VK → Prop
def PIp (X : Cx) (op : Operator) (t : TIp) : Prop :=
  ∀ (pins : List (Addr × Obj)) (s : Shared) (σ : St) (H : Hp) (x y : V) (v u : Value) (Q : VK), Inv X pins σ H s → RelV x v → RelV y u → t x y H Q →
    wpAny (model X.prog X.w) X.A (inplaceOp op v u) (EP X pins σ Q) X.xe s
section
variable {X : Cx} {pos : Pos}
def gName (i : Nat) : TG := fun v σ H Q => Q (σ.set i (some v)) H
theorem pg_name {i : Nat} {x : Str} (hN : X.N.Nodup) (hi : X.N[i]? = some x) (hx : Loc X.env.scope x) (hf : X.fn x = true ∨ X.env.scope.names.lookup x = some .local := by first | exact .inl rfl | exact .inr rfl | assumption) : PG X (.Name x pos) (gName i) := by
  intro pins s σ H v u Q I r h
  exact wpAny_assign_Name (store_ok I hN hi hx r (fun s' I' => ⟨_, H, I', h⟩) hf)
def gNil : TGs := fun vs σ H Q => vs = [] ∧ Q σ H
def gCons (t : TG) (u : TGs) : TGs := fun vs σ H Q => ∃ v r, vs = v :: r ∧ t v σ H fun σ' H' => u r σ' H' Q
theorem pgs_nil : PGs X [] gNil := by
  intro pins s σ H vs us Q I r h
  obtain ⟨e, h⟩ := h
  subst e
  cases r
  exact assignInOrder_nil ⟨σ, H, I, h⟩
theorem pgs_cons {e : Expr} {es : List Expr} {t : TG} {u : TGs} (h1 : PG X e t) (h2 : PGs X es u)
    (hs : (assignEach (e :: es) X.env).map (·.2) = assign e X.env :: (assignEach es X.env).map (·.2) := by rfl) : PGs X (e :: es) (gCons t u) := by
  intro pins s σ H vs us Q I r h
  obtain ⟨v, vr, e1, h⟩ := h
  subst e1
  cases r with
  | cons r rr =>
    rw [hs]
    refine assignInOrder_cons (thn (h1 pins s σ H _ _ _ I r h) fun _ s1 ⟨σ1, H1, I1, q1⟩ => ?_)
    exact h2 pins s1 σ1 H1 _ _ Q I1 rr q1
/-- (a, b, ..) = a tuple of that length -/
def gTup (K : PySem.W.Frag) (n : Nat) (t : TGs) : TG := fun v σ H Q => ∃ a xs, v = .ref a ∧ SqT K H a xs ∧ xs.length = n ∧ t xs σ H Q
theorem pg_tup {es : List Expr} {k : Nat} {t : TGs} {n : Nat} (hc : X.calm = true) (h : PGs X es t)
    (hn : (assignEach es X.env).length = n := by rfl) (hst : (assignEach es X.env).findIdx? (·.1) = none := by rfl) : PG X (.Tuple es k pos) (gTup X.K n t) := by
  intro pins s σ H v u Q I r hw
  obtain ⟨a, xs, e1, hq, hl, hw⟩ := hw
  subst e1
  cases r
  obtain ⟨its, rv, ht, hz⟩ := I.tuple hq
  refine assign_Tuple_tuple (I.ok.hd hc) ht (by simp [hn, ← hl, rv.length]) hst fun h' hx => ?_
  have I1 : Inv X pins σ H { s with heap := h' } := I.kept (t' := s.toks) fun b o e => hx b o (Nat.ne_of_lt (Heap.lt_size e)) e
  exact h pins _ σ H xs _ Q I1 (by simpa using rv) hw
/-- o[i] = .. -/
def gSub (to ti : TE) (t : TSet) : TG := fun v σ H Q => to σ H fun o H1 => ti σ H1 fun i H2 => t o i v H2 fun H3 => Q σ H3
theorem pg_sub {o i : Expr} {to ti : TE} {t : TSet} (ho : PE X o to) (hi : PE X i ti) (hs : PSet X t)
    (ha : ∀ v, assign (.Subscript o i pos) X.env v = (do
      let ov ← holding [v] (eval o X.env)
      let iv ← holding [v, ov] (eval i X.env)
      standAt pos
      holding [v, ov, iv] (setItem ov iv v)
      release [v, ov, iv] []) := by intro _; rfl) : PG X (.Subscript o i pos) (gSub to ti t) := by
  intro pins s σ H v u Q I r h
  rw [ha]
  refine wpAny_bind (wpAny_holding (thn (ho pins s σ H _ I h) fun ov s1 ⟨x, H1, I1, r1, q1⟩ => ?_))
  refine wpAny_bind (wpAny_holding (thn (hi pins s1 σ H1 _ I1 q1) fun iv s2 ⟨y, H2, I2, r2, q2⟩ => ?_))
  refine wpAny_bind (wpAny_standAt (wpAny_bind (wpAny_holding (thn (hs pins s2 σ H2 x y v ov iv u _ I2 r1 r2 r q2) fun _ s3 ⟨H3, I3, q3⟩ => ?_))))
  exact wpAny_release ⟨σ, H3, I3, q3⟩
/-- target = value -/
def tAsg (te : TE) (g : TG) : TS := fun D σ H => te σ H fun x H1 => g x σ H1 D.nx
theorem ps_asg {tg e : Expr} {te : TE} {g : TG} (he : PE X e te) (hg : PG X tg g) (hs : swapsWithSole [tg] e pos.line X.env = pure false := by rfl) (hw : swappedStores [tg] e X.env = pure none := by rfl)
    (h1 : (assignEach [tg] X.env).map (·.2) = [assign tg X.env] := by rfl) : PS X (.Assign [tg] e pos) (tAsg te g) := by
  intro pins s σ H D I h
  refine wpAny_Assign_stores (thn (he pins s σ H _ I h) fun v s1 ⟨x, H1, I1, r1, q1⟩ => ?_) hs hw
  rw [h1]
  exact thn (hg pins s1 σ H1 x v _ I1 r1 q1) fun _ s2 q => q
/-- name = value -/
theorem ps_set {i : Nat} {x : Str} {e : Expr} {te : TE} {pos' : Pos} (hN : X.N.Nodup) (hi : X.N[i]? = some x) (hx : Loc X.env.scope x) (he : PE X e te) (hs : swapsWith e (some (.Name x pos')) pos.line X.env = pure false := by rfl) (hf : X.fn x = true ∨ X.env.scope.names.lookup x = some .local := by first | exact .inl rfl | exact .inr rfl | assumption) :
    PS X (.Assign [.Name x pos'] e pos) (tAsg te (gName i)) := by
  intro pins s σ H D I h
  refine wpAny_Assign_Name (thn (he pins s σ H _ I h) fun v s1 ⟨y, H1, I1, r1, q1⟩ => ?_) hs
  exact store_ok I1 hN hi hx r1 (fun s2 I2 => ⟨_, H1, I2, q1⟩) hf
/-- a, b = x, y with plain local names: stored from the right; the pair itself is not tracked (the opening rows as in PyProof/Rows/TupAssign.lean:23) -/
def tPar (i j : Nat) (ta : TA) : TS := fun D σ H => ta σ H fun vs H1 => ∃ v w, vs = [v, w] ∧ D.nx ((σ.set i (some v)).set j (some w)) H1
/-- name op= e -/
def tAug (i : Nat) (te : TE) (ti : TIp) : TS := fun D σ H => ∃ x, σ[i]? = some (some x) ∧ te σ H fun y H1 => ti x y H1 fun z H2 => D.nx (σ.set i (some z)) H2
theorem ps_aug {i : Nat} {x : Str} {e : Expr} {te : TE} {op : Operator} {ti : TIp} {pos' : Pos} (hN : X.N.Nodup) (hi : X.N[i]? = some x) (hx : Loc X.env.scope x) (he : PE X e te) (ho : PIp X op ti) (hf : X.fn x = true ∨ X.env.scope.names.lookup x = some .local := by first | exact .inl rfl | exact .inr rfl | assumption) :
    PS X (.AugAssign (.Name x pos') op e pos) (tAug i te ti) := by
  intro pins s σ H D I h
  obtain ⟨v, e1, h⟩ := h
  obtain ⟨m, hn, hl⟩ := I.loc
  have vis : Vis X.env.scope x := by rcases hx with k | k; exact .inl k; exact .inr (.inl k)
  obtain ⟨u, r, l⟩ := hl i x v hi e1 vis
  refine wpAny_AugAssign_Name ?_
  have go : wpAny (model X.prog X.w) X.A (eval e X.env) (fun w s₂ => wpAny (model X.prog X.w) X.A (inplaceOp op u w) (fun r s₃ => wpAny (model X.prog X.w) X.A (storeName X.env x r) (fun _ => SP X pins D .next) X.xe s₃) X.xe s₂) X.xe s := by
    refine thn (he pins s σ H _ I h) fun w s1 ⟨y, H1, I1, r1, q1⟩ => ?_
    refine thn (ho pins s1 σ H1 v y u w _ I1 r r1 q1) fun z s2 ⟨zv, H2, I2, r2, q2⟩ => ?_
    exact store_ok I2 hN hi hx r2 (fun s3 I3 => ⟨_, H2, I3, q2⟩) hf
  rcases l with ⟨hk, hm⟩ | ⟨hk, c, hc, hcell⟩
  · exact wpAny_loadName_local I.ok.kind hk hn hm go
  · rcases hk with hk | hk
    · exact wpAny_loadName_cell I.ok.kind hk hc hcell go
    · rcases hx with k | k
      · have : X.env.scope.names.lookup x = some .free := hk
        rw [k] at this; cases this
      · have : X.env.scope.names.lookup x = some .free := hk
        rw [k] at this; cases this
/-- o[i] op= e -/
def tAugS (to ti te : TE) (tget : V → V → Hp → VK → Prop) (tip : TIp) (tset : TSet) : TS := fun D σ H => to σ H fun o H1 => ti σ H1 fun i H2 => tget o i H2 fun x H3 => te σ H3 fun y H4 => tip x y H4 fun z H5 => tset o i z H5 fun H6 => D.nx σ H6
/-- o[i], by values -/
def PGet (X : Cx) (t : V → V → Hp → VK → Prop) : Prop :=
  ∀ (pins : List (Addr × Obj)) (s : Shared) (σ : St) (H : Hp) (o i : V) (ov iv : Value) (Q : VK), Inv X pins σ H s → RelV o ov → RelV i iv → t o i H Q →
    wpAny (model X.prog X.w) X.A (getItem ov iv) (EP X pins σ Q) X.xe s
/-- ints -/
def ipI (f : Int → Int → Int) : TIp := fun x y H Q => ∃ i j, x = .int i ∧ y = .int j ∧ Q (.int (f i j)) H
theorem ip_add : PIp X .Add (ipI fun i j => i + j) := by
  intro pins s σ H x y v u Q I r1 r2 h
  obtain ⟨i, j, e1, e2, q⟩ := h
  subst e1; subst e2
  obtain ⟨t, rfl⟩ := r1
  obtain ⟨t', rfl⟩ := r2
  exact iadd_int ⟨.int _, H, I.tok _, ⟨_, rfl⟩, q⟩
end

/-! ### while -/
section
variable {X : Cx} {pos : Pos}
/-- the invariant W with its measure -/
def tWhile (c : TT) (tb : TS) : TS := fun D σ H => ∃ W : Nat → St → Hp → Prop, (∃ m, W m σ H) ∧ ∀ m σ H, W m σ H →
  c σ H fun b H1 => if b = true then ∃ N : St → Hp → Prop, (∀ σ' H', N σ' H' → ∃ m', m' < m ∧ W m' σ' H') ∧ tb { D with nx := N, ct := N, bk := D.nx } σ H1 else D.nx σ H1
theorem ps_while {c : Expr} {body : List Stmt} {tc : TT} {tb : TS} (hp : PassesOwn (model X.prog X.w) X.A X.env X.xe) (hc : PT X c tc) (hb : PSs X body tb) : PS X (.While c body [] pos) (tWhile tc tb) := by
  intro pins s σ H D I h
  obtain ⟨W, ⟨m0, w0⟩, turn⟩ := h
  refine wpAny_While (codeAny_whileLoop (fun n s' => ∃ σ' H', Inv X pins σ' H' s' ∧ W n σ' H') ?_ m0 ⟨σ, H, I, w0⟩)
  rintro n s1 ⟨σ1, H1, I1, w1⟩
  refine wpAny_passesOwn hp (thn (hc pins s1 σ1 H1 _ I1 (turn n σ1 H1 w1)) fun b s2 ⟨H2, I2, q2⟩ => ?_)
  cases b with
  | true =>
    obtain ⟨N, hN, q2⟩ := q2
    rw [if_pos rfl]
    refine wpAny_passesOwn hp (thn (hb pins s2 σ1 H2 _ I2 q2) fun f s3 q3 => ?_)
    cases f with
    | next =>
      obtain ⟨σ3, H3, I3, n3⟩ := q3
      obtain ⟨m', hm, w3⟩ := hN σ3 H3 n3
      exact ⟨m', hm, σ3, H3, I3, w3⟩
    | cont =>
      obtain ⟨σ3, H3, I3, n3⟩ := q3
      obtain ⟨m', hm, w3⟩ := hN σ3 H3 n3
      exact ⟨m', hm, σ3, H3, I3, w3⟩
    | brk => exact q3
    | ret v => exact q3
  | false =>
    rw [if_neg Bool.false_ne_true]
    exact wpAny_execs_nil ⟨σ1, H2, I2, q2⟩
end

/-! ### what a loop or a comprehension walks -/
/-- at turn i: it yields x (the heap may grow), or it stops -/
structure It where
  go : Nat → Hp → Prop
  yld : Nat → Hp → V → Hp → Prop
  stop : Nat → Hp → Prop
/-- the iterator's own objects may turn: they are not the frame's, not pinned, younger than the entry (or a comprehension's own) -/
def FpOk (X : Cx) (pins : List (Addr × Obj)) (H : Hp) (b : Addr) : Prop :=
  H b = none ∧ b ≠ X.env.locals ∧ b ∉ X.fs ∧ (b ∈ X.ex ∨ X.s₀.heap.objs.size ≤ b) ∧ (∀ x c, X.env.cells.lookup x = some c → c ≠ b) ∧ ∀ p ∈ X.pn ++ pins, p.1 ≠ b
theorem Inv.fpOk {X : Cx} {pins : List (Addr × Obj)} {σ : St} {H H' : Hp} {s : Shared} {b : Addr} (I : Inv X pins σ H s) (hb : s.heap.objs.size ≤ b) (hn : H' b = none) : FpOk X pins H' b := by
  refine ⟨hn, Nat.ne_of_gt (Nat.lt_of_lt_of_le I.lt hb), I.nofs hb, .inr (Nat.le_trans I.sz hb), fun x c e z => ?_, fun p hp z => ?_⟩
  · obtain ⟨v, q⟩ := I.cell x c e
    exact absurd (Nat.lt_of_lt_of_le q.lt (by rw [z]; exact hb)) (Nat.lt_irrefl _)
  · exact absurd (Nat.lt_of_lt_of_le (Heap.lt_size (I.pin p hp).1) (by rw [z]; exact hb)) (Nat.lt_irrefl _)
structure Turn (P : Program) (w : World) (K : PySem.W.Frag) (tg : Expr) (J : It) (fp : List Addr) (it : Addr) (tn : Nat → Heap → Prop) : Prop where
  mem : it ∈ fp
  obj : ∀ i h, tn i h → ∀ b ∈ fp, ∃ o, h.get? b = some o ∧ ∀ v, o.data ≠ .cell v
  keep : ∀ i h h', tn i h → (∀ b ∈ fp, ∀ o, h.get? b = some o → h'.get? b = some o) → tn i h'
  item : ∀ (X : Cx), X.prog = P → X.w = w → X.K = K → X.calm = true → ∀ (i : Nat) (pins : List (Addr × Obj)) (s : Shared) (σ : St) (H : Hp) (E : Value → Shared → Prop), Inv X pins σ H s → (∀ b ∈ fp, FpOk X pins H b) → tn i s.heap → J.go i H →
    wpAny (model P w) X.A (pyNext (.ref it)) (fun r s1 => ∃ u, r = some u ∧
      wpAny (model P w) X.A (letOwnedTupleGo tg (.ref it) u) (fun _ s2 => ∃ x H', Inv X pins σ H' s2 ∧ RelV x u ∧ J.yld i H x H' ∧ tn (i + 1) s2.heap ∧ ∀ b ∈ fp, H' b = none) E s1) E s
  done : ∀ (X : Cx), X.prog = P → X.w = w → X.K = K → X.calm = true → ∀ (i : Nat) (pins : List (Addr × Obj)) (s : Shared) (σ : St) (H : Hp) (E : Value → Shared → Prop), Inv X pins σ H s → (∀ b ∈ fp, FpOk X pins H b) → tn i s.heap → J.stop i H →
    wpAny (model P w) X.A (pyNext (.ref it)) (fun r s1 => r = none ∧ Inv X pins σ H s1) E s
  self : ∀ (A : Around) (i : Nat) (s : Shared) (Q : Value → Shared → Prop) (E : Value → Shared → Prop), tn i s.heap → Q (.ref it) s → wpAny (model P w) A (pyIter (.ref it)) Q E s
abbrev TI := St → Hp → (It → Hp → Prop) → Prop
/-- an iterator has come -/
def PIE (X : Cx) (pins : List (Addr × Obj)) (σ : St) (tg : Expr) (R : It → Hp → Prop) (itv : Value) (s2 : Shared) : Prop :=
  ∃ (it : Addr) (fp : List Addr) (tn : Nat → Heap → Prop) (J : It) (H' : Hp), itv = .ref it ∧ Inv X pins σ H' s2 ∧ Turn X.prog X.w X.K tg J fp it tn ∧ tn 0 s2.heap ∧ (∀ b ∈ fp, FpOk X pins H' b) ∧ R J H'
def PI (X : Cx) (tg iter : Expr) (wi : TI) : Prop :=
  ∀ (pins : List (Addr × Obj)) (s : Shared) (σ : St) (H : Hp) (R : It → Hp → Prop), Inv X pins σ H s → wi σ H R →
    wpAny (model X.prog X.w) X.A (eval iter X.env) (fun v s1 => wpAny (model X.prog X.w) X.A (pyIter v) (PIE X pins σ tg R) X.xe s1) X.xe s

/-- the step ahead of the store is nothing for an iterator that keeps no tuple -/
theorem go_of {M : Model} {A : Around} {E : Value → Shared → Prop} {s : Shared} {tg : Expr} {it : Addr} {u : Value} {o : Obj} {n : String} {vs : Array Value} {Q : Unit → Shared → Prop} (ho : s.heap.get? it = some o) (hc : o.cls = .type n) (hd : o.data = .fields vs)
    (hn : ["enumerate", "zip", "dict_itemiterator", "dict_reverseitemiterator", "odict_iterator", "itertools.zip_longest", "itertools.pairwise"].contains n = false) (hQ : Q () s) : wpAny M A (letOwnedTupleGo tg (.ref it) u) Q E s := by
  unfold letOwnedTupleGo
  cases tg <;> first
    | exact wpAny_pure hQ
    | (cases u <;> first
        | exact wpAny_pure hQ
        | (refine wpAny_bind (wpAny_load ho ?_)
           rw [hc, hd]
           show wpAny M A (if (["enumerate", "zip", "dict_itemiterator", "dict_reverseitemiterator", "odict_iterator", "itertools.zip_longest", "itertools.pairwise"].contains n && vs[0]? == some (rawInt _)) = true then _ else _) Q E s
           rw [if_neg (by intro h; rw [hn, Bool.false_and] at h; cases h)]
           exact wpAny_pure hQ))

/-- the list at a, as it stands at each turn (a loop may append to it) -/
def Itl (K : PySem.W.Frag) (a : Addr) : It :=
  ⟨fun i H => ∃ xs x, SqL K H a xs ∧ xs[i]? = some x, fun i H x H' => H' = H ∧ ∀ xs, SqL K H a xs → xs[i]? = some x, fun i H => ∃ xs, SqL K H a xs ∧ xs.length ≤ i⟩
def Itt (K : PySem.W.Frag) (a : Addr) : It :=
  ⟨fun i H => ∃ xs x, SqT K H a xs ∧ xs[i]? = some x, fun i H x H' => H' = H ∧ ∀ xs, SqT K H a xs → xs[i]? = some x, fun i H => ∃ xs, SqT K H a xs ∧ xs.length ≤ i⟩
/-- lo, lo + 1, .. (n of them) -/
def Itr (lo : Int) (n : Nat) : It := ⟨fun i _ => i < n, fun i H x H' => H' = H ∧ x = .int (lo + i), fun i _ => n ≤ i⟩
theorem turn_list {P : Program} {w : World} {K : PySem.W.Frag} {tg : Expr} (a it : Addr) : Turn P w K tg (Itl K a) [it] it (fun i h => h.IsListIter it a i) where
  mem := by simp
  obj := fun i h st b hb => by
    have e : b = it := by simpa using hb
    subst e
    obtain ⟨o, e, c, d⟩ := st
    exact ⟨o, e, fun v z => by rw [d] at z; cases z⟩
  keep := fun i h h' st k => st.at fun o e => k it (by simp) o e
  item := by
    intro X hP hw hK hc i pins s σ H E I hf st hg
    subst hP hw hK
    obtain ⟨xs, x, hq, hx⟩ := hg
    obtain ⟨its, rv, p, hz⟩ := I.list hq
    obtain ⟨u, hu, ru⟩ := rv.get hx
    obtain ⟨f0, f1, f2, f3, f4, f5⟩ := hf it (by simp)
    refine wpAny_pyNext_list_item st p.isList (x := u) (by simpa using hu) fun h' st' sb => ?_
    have I1 : Inv X pins σ H { s with heap := h' } := I.turned (t' := s.toks) (fun b o hb e => (sb.2 b hb).trans e) f0 f1 f3 f4 f5
    obtain ⟨o, e, c, d⟩ := id st'
    exact ⟨u, rfl, go_of (s := { s with heap := h' }) e c d (by decide) ⟨x, H, I1, ru, ⟨rfl, fun ys hy => by rw [I.list_inj hy hq]; exact hx⟩, st', fun b hb => (hf b hb).1⟩⟩
  done := by
    intro X hP hw hK hc i pins s σ H E I hf st hg
    subst hP hw hK
    obtain ⟨xs, hq, hx⟩ := hg
    obtain ⟨its, rv, p, hz⟩ := I.list hq
    obtain ⟨f0, f1, f2, f3, f4, f5⟩ := hf it (by simp)
    have hl := rv.length
    exact wpAny_pyNext_list_end (I.ok.hd hc) st p.isList (by simp; omega) fun h' eb => ⟨rfl, I.turned (t' := s.toks) (fun b o hb e => eb b o hb e) f0 f1 f3 f4 f5⟩
  self := fun _ _ _ _ _ st h => wpAny_pyIter_listiter st h
theorem turn_range {P : Program} {w : World} {K : PySem.W.Frag} {tg : Expr} (it : Addr) (lo : Int) (n : Nat) : Turn P w K tg (Itr lo n) [it] it (fun i h => IsRangeIter h it (lo + (i : Nat) * 1) ((n : Int) - (i : Nat)) 1) where
  mem := by simp
  obj := fun i h st b hb => by
    have e : b = it := by simpa using hb
    subst e
    exact ⟨_, st, fun v z => by
      have z' : Data.fields _ = Data.cell v := z
      cases z'⟩
  keep := fun i h h' st k => k it (by simp) _ st
  item := by
    intro X hP hw hK hc i pins s σ H E I hf st hg
    subst hP hw hK
    obtain ⟨f0, f1, f2, f3, f4, f5⟩ := hf it (by simp)
    have W := Walks.range (prog := X.prog) (w := X.w) (I.ok.hd hc) it lo 1 n
    refine W.item i s _ _ hg st fun v h' tk hv st' kk => ?_
    obtain ⟨t, rfl⟩ := hv
    have I1 : Inv X pins σ H { s with heap := h', toks := tk } := I.turned (fun b o hb e => kk b o (by simpa using hb) e) f0 f1 f3 f4 f5
    refine ⟨_, rfl, go_of (s := { s with heap := h', toks := tk }) (n := "range_iterator") st' rfl rfl (by decide) ⟨.int (lo + i), H, I1, ⟨t, ?_⟩, ⟨rfl, rfl⟩, st', fun b hb => (hf b hb).1⟩⟩
    rw [Int.mul_one]
  done := by
    intro X hP hw hK hc i pins s σ H E I hf st hg
    subst hP hw hK
    obtain ⟨f0, f1, f2, f3, f4, f5⟩ := hf it (by simp)
    exact wpAny_pyNext_range_end (I.ok.hd hc) st (by have : n ≤ i := hg; omega) fun h' eb => ⟨rfl, I.turned (t' := s.toks) (fun b o hb e => eb b o hb e) f0 f1 f3 f4 f5⟩
  self := fun _ _ _ _ _ st h => wpAny_pyIter_rangeiter st h
end L2

namespace L2
open PySem PySem.Spec PyProof.Rows
section
variable {X : Cx} {tg : Expr}
def iList (K : PySem.W.Frag) (tl : TE) : TI := fun σ H R => tl σ H fun x H1 => ∃ a, x = .ref a ∧ (∃ xs, SqL K H1 a xs) ∧ R (Itl K a) H1
def iTup (K : PySem.W.Frag) (tl : TE) : TI := fun σ H R => tl σ H fun x H1 => ∃ a, x = .ref a ∧ (∃ xs, SqT K H1 a xs) ∧ R (Itt K a) H1
theorem pi_list {l : Expr} {tl : TE} (hl : PE X l tl) : PI X tg l (iList X.K tl) := by
  intro pins s σ H R I h
  refine thn (hl pins s σ H _ I h) fun v s1 ⟨x, H1, I1, r1, q1⟩ => ?_
  obtain ⟨a, e, ⟨xs, hq⟩, q⟩ := q1
  subst e
  cases r1
  obtain ⟨its, rv, p, hz⟩ := I1.list hq
  refine wpAny_pyIter_list p.isList ?_
  refine ⟨s1.heap.objs.size, [s1.heap.objs.size], _, _, H1, rfl, I1.kept (t' := s1.toks) fun b o e => Heap.get?_push_of_some _ e, turn_list a _, ⟨_, Heap.get?_push_size _ rfl, rfl, rfl⟩, fun b hb => ?_, q⟩
  have e : b = s1.heap.objs.size := by simpa using hb
  subst e
  exact I1.fpOk (Nat.le_refl _) (I1.hok.fresh (Nat.le_refl _))
/-- a range object just made, walked -/
theorem range_it {pins : List (Addr × Obj)} {σ : St} {H : Hp} {s : Shared} {R : It → Hp → Prop} {E : Value → Shared → Prop} {lo hi : Int} {t u v : Tok} {tk : Nat} (I : Inv X pins σ H s) (h1 : -(2 ^ 62) ≤ lo) (h2 : lo < 2 ^ 62) (h3 : -(2 ^ 62) ≤ hi) (h4 : hi < 2 ^ 62)
    (q : R (Itr lo (hi - lo).toNat) H) : wpAny (model X.prog X.w) X.A (pyIter (.ref s.heap.objs.size)) (PIE X pins σ tg R) E { s with heap := s.heap.push { cls := .type "range", data := .fields #[.int lo t, .int hi u, .int 1 v] }, toks := tk } := by
  refine wpAny_pyIter_range (IsRange.new ..) (small_one h1 h2 h3 h4) ?_
  have I1 : Inv X pins σ H { s with heap := s.heap.push { cls := .type "range", data := .fields #[.int lo t, .int hi u, .int 1 v] }, toks := tk } := I.kept fun b o e => Heap.get?_push_of_some _ e
  refine ⟨(s.heap.push { cls := .type "range", data := .fields #[.int lo t, .int hi u, .int 1 v] }).objs.size, [(s.heap.push { cls := .type "range", data := .fields #[.int lo t, .int hi u, .int 1 v] }).objs.size], _, _, H, rfl,
    I1.kept (t' := tk) fun b o e => Heap.get?_push_of_some _ e, turn_range _ lo (hi - lo).toNat, ?_, fun b hb => ?_, q⟩
  · have e1 : lo + ((0 : Nat) : Int) * 1 = lo := by simp
    have e2 : (((hi - lo).toNat : Nat) : Int) - ((0 : Nat) : Int) = Builtin.Range.rangeSize lo hi 1 := by rw [rangeSize_one]; split <;> omega
    show IsRangeIter _ _ (lo + ((0 : Nat) : Int) * 1) ((((hi - lo).toNat : Nat) : Int) - ((0 : Nat) : Int)) 1
    rw [e1, e2]
    exact Heap.get?_push_size _ rfl
  · have e : b = (s.heap.push { cls := .type "range", data := .fields #[.int lo t, .int hi u, .int 1 v] }).objs.size := by simpa using hb
    subst e
    exact I1.fpOk (Nat.le_refl _) (I1.hok.fresh (Nat.le_refl _))
def iRng1 (ta : TA) : TI := fun σ H R => ta σ H fun vs H1 => ∃ j : Int, vs = [.int j] ∧ -(2 ^ 62) ≤ j ∧ j < 2 ^ 62 ∧ R (Itr 0 j.toNat) H1
def iRng2 (ta : TA) : TI := fun σ H R => ta σ H fun vs H1 => ∃ i j : Int, vs = [.int i, .int j] ∧ (-(2 ^ 62) ≤ i ∧ i < 2 ^ 62 ∧ -(2 ^ 62) ≤ j ∧ j < 2 ^ 62) ∧ R (Itr i (j - i).toNat) H1
theorem pi_range1 {a : Expr} {ta : TA} {p pos : Pos} (hg : Gl X "range") (hm : X.mg "range" = none) (ha : PA X [a] ta) (hs : starEach [a] X.env = [(false, eval a X.env)] := by rfl) : PI X tg (.Call (.Name "range" p) [a] [] pos) (iRng1 ta) := by
  intro pins s σ H R I h
  refine Call_ (ld_blt I hg hm boot_range (PyProof.Rows.callWith_type1 (thn (ha pos pins s σ H _ I h) fun us s1 ⟨vs, H1, I1, r1, q1⟩ => ?_) hs rfl))
  obtain ⟨j, e, q1, q2, q⟩ := q1
  subst e
  cases r1 with
  | cons r rr =>
    cases rr
    obtain ⟨t, rfl⟩ := r
    exact call_range_1 (range_it I1 (by omega) (by omega) q1 q2 (by simpa using q))
/-! ### for -/
/-- W: the invariant by the turn and a measure; N: what the body is to reach -/
def tFor (wi : TI) (g : TG) (tb : TS) : TS := fun D σ H => wi σ H fun J H1 => ∃ W : Nat → Nat → St → Hp → Prop, (∃ m, W 0 m σ H1) ∧ ∀ i m σ H, W i m σ H →
  (J.stop i H ∧ D.nx σ H) ∨ (J.go i H ∧ ∃ N : St → Hp → Prop, (∀ σ' H', N σ' H' → ∃ m', m' < m ∧ W (i + 1) m' σ' H') ∧ ∀ x H', J.yld i H x H' → g x σ H' fun σ2 H2 => tb { D with nx := N, ct := N, bk := D.nx } σ2 H2)
/-- the records at fp as they stand -/
def pinsAt (fp : List Addr) (h : Heap) : List (Addr × Obj) := fp.filterMap fun b => (h.get? b).map fun o => (b, o)
theorem mem_pinsAt {fp : List Addr} {h : Heap} {b : Addr} {o : Obj} (hb : b ∈ fp) (e : h.get? b = some o) : (b, o) ∈ pinsAt fp h := List.mem_filterMap.mpr ⟨b, hb, by rw [e]; rfl⟩
theorem of_pinsAt {fp : List Addr} {h : Heap} {p : Addr × Obj} (hp : p ∈ pinsAt fp h) : p.1 ∈ fp ∧ h.get? p.1 = some p.2 := by
  obtain ⟨b, hb, e⟩ := List.mem_filterMap.mp hp
  cases q : h.get? b with
  | none => rw [q] at e; cases e
  | some o =>
    rw [q] at e
    have e' : (b, o) = p := Option.some.inj e
    subst e'
    exact ⟨hb, q⟩
theorem Inv.pinned {pins : List (Addr × Obj)} {σ : St} {H : Hp} {s : Shared} {fp : List Addr} (I : Inv X pins σ H s) (hf : ∀ b ∈ fp, FpOk X pins H b) (ho : ∀ b ∈ fp, ∃ o, s.heap.get? b = some o ∧ ∀ v, o.data ≠ .cell v) : Inv X (pins ++ pinsAt fp s.heap) σ H s :=
  I.pins_of fun p hp => (List.mem_append.mp hp).elim (fun z => I.pin p (List.mem_append_right _ z)) fun z => by
    obtain ⟨hb, e⟩ := of_pinsAt z
    obtain ⟨f0, f1, f2, _⟩ := hf p.1 hb
    obtain ⟨o, e', d⟩ := ho p.1 hb
    rw [e] at e'; cases e'
    exact ⟨e, f0, f1, f2, d⟩
theorem Inv.unpinned {pins pl : List (Addr × Obj)} {σ : St} {H : Hp} {s : Shared} (I : Inv X (pins ++ pl) σ H s) : Inv X pins σ H s := I.pins_of fun p hp => I.pin p (List.mem_append_right _ (List.mem_append_left _ hp))
theorem ps_for {iter : Expr} {body : List Stmt} {wi : TI} {g : TG} {tb : TS} {pos : Pos} (hp : PassesOwn (model X.prog X.w) X.A X.env X.xe) (hc : X.calm = true) (hi : PI X tg iter wi) (hg : PG X tg g) (hb : PSs X body tb)
    (hs : ∀ x, foldedSetIterable iter X.env x = pure x := by intro _; rfl) : PS X (.For tg iter body [] pos) (tFor wi g tb) := by
  intro pins s σ H D I h
  refine wpAny_For (thn (hi pins s σ H _ I h) fun v s1 h1 => thn h1 fun itv s2 h2 => ?_) hs
  obtain ⟨it, fp, tn, J, H2, e, I2, T, st2, f2, W, ⟨m0, w0⟩, turn⟩ := h2
  subst e
  -- what stays true of the iterator's objects through the loop
  have stat : ∀ {H' : Hp}, (∀ b ∈ fp, H' b = none) → ∀ b ∈ fp, FpOk X pins H' b := fun hn b hb => ⟨hn b hb, (f2 b hb).2⟩
  refine codeAny_forLoop_any (fun n s' => ∃ i σ' H', Inv X pins σ' H' s' ∧ tn i s'.heap ∧ (∀ b ∈ fp, H' b = none) ∧ W i n σ' H') ?_ m0 ⟨0, σ, H2, I2, st2, fun b hb => (f2 b hb).1, w0⟩
  rintro n s3 ⟨i, σ3, H3, I3, st3, fr3, w3⟩
  rcases turn i n σ3 H3 w3 with ⟨stop, qn⟩ | ⟨go, N, hN, step⟩
  · refine wpAny_passesOwn hp (thn (T.done X rfl rfl rfl hc i pins s3 σ3 H3 X.xe I3 (stat fr3) st3 stop) fun r s4 ⟨hr, I4⟩ => ?_)
    subst hr
    exact wpAny_execs_nil ⟨σ3, H3, I4, qn⟩
  · refine wpAny_passesOwn hp (thn (T.item X rfl rfl rfl hc i pins s3 σ3 H3 X.xe I3 (stat fr3) st3 go) fun r s4 ⟨u, hr, h4⟩ => ?_)
    subst hr
    refine wpAny_passesOwn hp (thn h4 fun _ s5 ⟨x, H5, I5, r5, y5, st5, fr5⟩ => ?_)
    have I5' := I5.pinned (stat fr5) (T.obj _ _ st5)
    refine wpAny_passesOwn hp (thn (hg _ s5 σ3 H5 x u _ I5' r5 (step x H5 y5)) fun _ s6 ⟨σ6, H6, I6, q6⟩ => ?_)
    refine wpAny_passesOwn hp (thn (hb _ s6 σ6 H6 _ I6 q6) fun f s7 q7 => ?_)
    have again : ∀ {σ7 : St} {H7 : Hp}, Inv X (pins ++ pinsAt fp s5.heap) σ7 H7 s7 → N σ7 H7 → ∃ m, m < n ∧ ∃ i σ' H', Inv X pins σ' H' s7 ∧ tn i s7.heap ∧ (∀ b ∈ fp, H' b = none) ∧ W i m σ' H' := fun {σ7 H7} I7 n7 => by
      obtain ⟨m', hm, w7⟩ := hN σ7 H7 n7
      refine ⟨m', hm, i + 1, σ7, H7, I7.unpinned, T.keep _ _ _ st5 fun b hb o e => (I7.pin (b, o) (List.mem_append_right _ (List.mem_append_right _ (mem_pinsAt hb e)))).1, fun b hb => ?_, w7⟩
      obtain ⟨o, e, d⟩ := T.obj _ _ st5 b hb
      exact (I7.pin (b, o) (List.mem_append_right _ (List.mem_append_right _ (mem_pinsAt hb e)))).2.1
    cases f with
    | next => obtain ⟨σ7, H7, I7, n7⟩ := q7; exact again I7 n7
    | cont => obtain ⟨σ7, H7, I7, n7⟩ := q7; exact again I7 n7
    | brk => obtain ⟨σ7, H7, I7, q7⟩ := q7; exact ⟨σ7, H7, I7.unpinned, q7⟩
    | ret v => obtain ⟨x7, σ7, H7, I7, r7, q7⟩ := q7; exact ⟨x7, σ7, H7, I7.unpinned, r7, q7⟩
end

/-! ### the forms one uses -/
/-- over a list that the body leaves as it is -/
theorem for_list {K : PySem.W.Frag} {a : Addr} {xs : List V} {g : TG} {tb : TS} {D : Ends} {σ : St} {H : Hp} (Pv : Nat → St → Hp → Prop) (h0 : Pv 0 σ H) (hl : ∀ i σ H, i ≤ xs.length → Pv i σ H → SqL K H a xs)
    (hs : ∀ i x σ H, xs[i]? = some x → Pv i σ H → g x σ H fun σ2 H2 => tb { D with nx := Pv (i + 1), ct := Pv (i + 1), bk := D.nx } σ2 H2) (hd : ∀ σ H, Pv xs.length σ H → D.nx σ H) :
    ∃ W : Nat → Nat → St → Hp → Prop, (∃ m, W 0 m σ H) ∧ ∀ i m σ H, W i m σ H →
      ((Itl K a).stop i H ∧ D.nx σ H) ∨ ((Itl K a).go i H ∧ ∃ N : St → Hp → Prop, (∀ σ' H', N σ' H' → ∃ m', m' < m ∧ W (i + 1) m' σ' H') ∧ ∀ x H', (Itl K a).yld i H x H' → g x σ H' fun σ2 H2 => tb { D with nx := N, ct := N, bk := D.nx } σ2 H2) := by
  refine ⟨fun i m σ H => m = xs.length - i ∧ i ≤ xs.length ∧ Pv i σ H, ⟨xs.length, by simp, Nat.zero_le _, h0⟩, ?_⟩
  rintro i m σ H ⟨rfl, hi, p⟩
  have q := hl i σ H hi p
  by_cases hlt : i < xs.length
  · refine .inr ⟨⟨xs, xs[i], q, by simp [hlt]⟩, Pv (i + 1), fun σ' H' p' => ⟨xs.length - (i + 1), by omega, rfl, hlt, p'⟩, fun x H' y => ?_⟩
    obtain ⟨e, y⟩ := y
    subst e
    exact hs i x σ _ (y xs q) p
  · have e : i = xs.length := by omega
    subst e
    exact .inl ⟨⟨xs, q, Nat.le_refl _⟩, hd σ H p⟩
theorem for_range {lo : Int} {n : Nat} {g : TG} {tb : TS} {D : Ends} {σ : St} {H : Hp} (Pv : Nat → St → Hp → Prop) (h0 : Pv 0 σ H)
    (hs : ∀ i σ H, i < n → Pv i σ H → g (.int (lo + i)) σ H fun σ2 H2 => tb { D with nx := Pv (i + 1), ct := Pv (i + 1), bk := D.nx } σ2 H2) (hd : ∀ σ H, Pv n σ H → D.nx σ H) :
    ∃ W : Nat → Nat → St → Hp → Prop, (∃ m, W 0 m σ H) ∧ ∀ i m σ H, W i m σ H →
      ((Itr lo n).stop i H ∧ D.nx σ H) ∨ ((Itr lo n).go i H ∧ ∃ N : St → Hp → Prop, (∀ σ' H', N σ' H' → ∃ m', m' < m ∧ W (i + 1) m' σ' H') ∧ ∀ x H', (Itr lo n).yld i H x H' → g x σ H' fun σ2 H2 => tb { D with nx := N, ct := N, bk := D.nx } σ2 H2) := by
  refine ⟨fun i m σ H => m = n - i ∧ i ≤ n ∧ Pv i σ H, ⟨n, by simp, Nat.zero_le _, h0⟩, ?_⟩
  rintro i m σ H ⟨rfl, hi, p⟩
  by_cases hlt : i < n
  · refine .inr ⟨hlt, Pv (i + 1), fun σ' H' p' => ⟨n - (i + 1), by omega, rfl, hlt, p'⟩, fun x H' y => ?_⟩
    obtain ⟨e, y⟩ := y
    subst e y
    exact hs i σ _ hlt p
  · have e : i = n := by omega
    subst e
    exact .inl ⟨Nat.le_refl _, hd σ H p⟩
end L2

namespace L2
open PySem PySem.Spec PyProof.Rows

abbrev R2 := V → V → Hp → VK → Prop
/-- a two-place operation on values: f is binaryOp op, inplaceOp op or compareOp op -/
def OpR (X : Cx) (f : Value → Value → Sem Value) (r : R2) : Prop :=
  ∀ (pins : List (Addr × Obj)) (s : Shared) (σ : St) (H : Hp) (x y : V) (v u : Value) (Q : VK), Inv X pins σ H s → RelV x v → RelV y u → r x y H Q →
    wpAny (model X.prog X.w) X.A (f v u) (EP X pins σ Q) X.xe s
/-- a one-place operation -/
def UnR (X : Cx) (f : Value → Sem Value) (r : V → Hp → VK → Prop) : Prop :=
  ∀ (pins : List (Addr × Obj)) (s : Shared) (σ : St) (H : Hp) (x : V) (v : Value) (Q : VK), Inv X pins σ H s → RelV x v → r x H Q →
    wpAny (model X.prog X.w) X.A (f v) (EP X pins σ Q) X.xe s
/-- a call of a value that is known (a builtin, a type) with values -/
def CallR (X : Cx) (f : Value) (r : List V → Hp → VK → Prop) : Prop :=
  ∀ (pins : List (Addr × Obj)) (s : Shared) (σ : St) (H : Hp) (xs : List V) (us : List Value) (Q : VK), Inv X pins σ H s → Vals xs us → r xs H Q →
    wpAny (model X.prog X.w) X.A (call f us) (EP X pins σ Q) X.xe s
/-- a value's truth -/
def TruR (X : Cx) (r : V → Hp → (Bool → Hp → Prop) → Prop) : Prop :=
  ∀ (pins : List (Addr × Obj)) (s : Shared) (σ : St) (H : Hp) (x : V) (v : Value) (Q : Bool → Hp → Prop), Inv X pins σ H s → RelV x v → r x H Q →
    wpAny (model X.prog X.w) X.A (truthy v) (TP X pins σ Q) X.xe s

def tOp (r : R2) (ta tb : TE) : TE := fun σ H Q => ta σ H fun x H1 => tb σ H1 fun y H2 => r x y H2 Q
def tUn (r : V → Hp → VK → Prop) (ta : TE) : TE := fun σ H Q => ta σ H fun x H1 => r x H1 Q
/-- ints in, under C, and a value out -/
def rI (C : Int → Int → Prop) (g : Int → Int → V) : R2 := fun x y H Q => ∃ i j, x = .int i ∧ y = .int j ∧ C i j ∧ Q (g i j) H
def rI0 (g : Int → Int → V) : R2 := fun x y H Q => ∃ i j, x = .int i ∧ y = .int j ∧ Q (g i j) H
def rU (g : Int → V) : V → Hp → VK → Prop := fun x H Q => ∃ i, x = .int i ∧ Q (g i) H

section
variable {X : Cx} {a b c : Expr} {ta tb tc : TE} {pos : Pos}

theorem binT (ha : PE X a ta) (hb : PE X b tb) {pins : List (Addr × Obj)} {s : Shared} {σ : St} {H : Hp} {R : V → V → Hp → Prop} (I : Inv X pins σ H s)
    (h : ta σ H fun x H1 => tb σ H1 fun y H2 => R x y H2) {Q : Value → Shared → Prop} {f : Value → Value → Sem Value}
    (hf : ∀ v u s2 x y H2, Inv X pins σ H2 s2 → RelV x v → RelV y u → R x y H2 → wpAny (model X.prog X.w) X.A (f v u) Q X.xe s2) :
    wpAny (model X.prog X.w) X.A (eval a X.env) (fun v s₁ => wpAny (model X.prog X.w) X.A (eval b X.env) (fun u s₂ => wpAny (model X.prog X.w) X.A (f v u) Q X.xe s₂) X.xe s₁) X.xe s := by
  refine thn (ha pins s σ H _ I h) fun v s1 ⟨x, H1, I1, r1, q1⟩ => ?_
  refine thn (hb pins s1 σ H1 _ I1 q1) fun u s2 ⟨y, H2, I2, r2, q2⟩ => ?_
  exact hf v u s2 x y H2 I2 r1 r2 q2

theorem pe_op {op : Operator} {r : R2} (ho : OpR X (binaryOp op) r) (ha : PE X a ta) (hb : PE X b tb) : PE X (.BinOp a op b pos) (tOp r ta tb) := by
  intro pins s σ H Q I h
  exact wpAny_BinOp (binT ha hb I h fun v u s2 x y H2 I2 rx ry q => ho pins s2 σ H2 x y v u Q I2 rx ry q)
theorem pe_un {op : UnaryOp} {r : V → Hp → VK → Prop} (ho : UnR X (unaryOp op) r) (ha : PE X a ta) : PE X (.UnaryOp op a pos) (tUn r ta) := by
  intro pins s σ H Q I h
  exact UnaryOp_ (thn (ha pins s σ H _ I h) fun v s1 ⟨x, H1, I1, r1, q1⟩ => ho pins s1 σ H1 x v Q I1 r1 q1)
/-! ### ints -/
theorem opI {f : Value → Value → Sem Value} {C : Int → Int → Prop} {g : Int → Int → Int}
    (rule : ∀ (i j : Int) (t u : Tok) (s : Shared) (Q : Value → Shared → Prop) (E : Value → Shared → Prop), C i j → Q (.int (g i j) s.toks) { s with toks := s.toks + 1 } → wpAny (model X.prog X.w) X.A (f (.int i t) (.int j u)) Q E s) :
    OpR X f (rI C fun i j => .int (g i j)) := by
  intro pins s σ H x y v u Q I rx ry h
  obtain ⟨i, j, rfl, rfl, hc, q⟩ := h
  obtain ⟨t, rfl⟩ := rx
  obtain ⟨t', rfl⟩ := ry
  exact rule i j t t' s _ _ hc ⟨.int (g i j), H, I.tok _, ⟨_, rfl⟩, q⟩
theorem opI0 {f : Value → Value → Sem Value} {g : Int → Int → Int}
    (rule : ∀ (i j : Int) (t u : Tok) (s : Shared) (Q : Value → Shared → Prop) (E : Value → Shared → Prop), Q (.int (g i j) s.toks) { s with toks := s.toks + 1 } → wpAny (model X.prog X.w) X.A (f (.int i t) (.int j u)) Q E s) :
    OpR X f (rI0 fun i j => .int (g i j)) := by
  intro pins s σ H x y v u Q I rx ry h
  obtain ⟨i, j, rfl, rfl, q⟩ := h
  obtain ⟨t, rfl⟩ := rx
  obtain ⟨t', rfl⟩ := ry
  exact rule i j t t' s _ _ ⟨.int (g i j), H, I.tok _, ⟨_, rfl⟩, q⟩
theorem opB0 {f : Value → Value → Sem Value} {g : Int → Int → Bool}
    (rule : ∀ (i j : Int) (t u : Tok) (s : Shared) (Q : Value → Shared → Prop) (E : Value → Shared → Prop), Q (.bool (g i j)) s → wpAny (model X.prog X.w) X.A (f (.int i t) (.int j u)) Q E s) :
    OpR X f (rI0 fun i j => .bl (g i j)) := by
  intro pins s σ H x y v u Q I rx ry h
  obtain ⟨i, j, rfl, rfl, q⟩ := h
  obtain ⟨t, rfl⟩ := rx
  obtain ⟨t', rfl⟩ := ry
  exact rule i j t t' s _ _ ⟨.bl (g i j), H, I, rfl, q⟩

def CDiv (i j : Int) : Prop := 0 < j ∧ j < 1073741824
def CDivN (i j : Int) : Prop := j ≠ 0 ∧ j.natAbs < 1073741824
def CPow (i j : Int) : Prop := 0 ≤ j ∧ j ≤ 1000000 ∧ i.natAbs < 2 ^ 64
def CMul (i j : Int) : Prop := (-(2 ^ 64) < i ∧ i < 2 ^ 64) ∨ (-(2 ^ 64) < j ∧ j < 2 ^ 64)
theorem CMul.ok {i j : Int} (h : CMul i j) : IntMulOk i j := by
  rcases h with ⟨h1, h2⟩ | ⟨h1, h2⟩
  · exact .of_left (intBits_le_64 h1 h2)
  · exact .of_right (intBits_le_64 h1 h2)
theorem op_add : OpR X (binaryOp .Add) (rI0 fun i j => .int (i + j)) := opI0 fun _ _ _ _ _ _ _ q => add_int q
theorem op_sub : OpR X (binaryOp .Sub) (rI0 fun i j => .int (i - j)) := opI0 fun _ _ _ _ _ _ _ q => sub_int q
theorem op_mul : OpR X (binaryOp .Mult) (rI CMul fun i j => .int (i * j)) := opI fun _ _ _ _ _ _ _ hc q => mul_int q hc.ok
/-- // by a positive divisor -/
theorem op_fdiv : OpR X (binaryOp .FloorDiv) (rI CDiv fun i j => .int (i / j)) := opI fun i j _ _ _ _ _ hc q => by
  have h1 : (0 : Int) < j := hc.1
  have h2 : j < 1073741824 := hc.2
  exact floordiv_int (by omega) (by rw [Int.fdiv_eq_ediv_of_nonneg i (by omega)]; exact q) (.inl (PyProof.noPylong_small (by omega)))
/-- % by a positive divisor of any size -/
theorem op_mod : OpR X (binaryOp .Mod) (rI (fun _ j => 0 < j) fun i j => .int (i % j)) := opI fun i j _ _ _ _ _ hc q => by
  have h1 : (0 : Int) < j := hc
  exact mod_int' (by omega) (by rw [Int.fmod_eq_emod_of_nonneg i (by omega)]; exact q)
theorem op_pow : OpR X (binaryOp .Pow) (rI CPow fun i j => .int (i ^ j.toNat)) := opI fun _ _ _ _ _ _ _ hc q => pow_int_small hc.1 hc.2.1 hc.2.2 q
theorem unI {f : Value → Sem Value} {g : Int → Int}
    (rule : ∀ (i : Int) (t : Tok) (s : Shared) (Q : Value → Shared → Prop) (E : Value → Shared → Prop), Q (.int (g i) s.toks) { s with toks := s.toks + 1 } → wpAny (model X.prog X.w) X.A (f (.int i t)) Q E s) :
    UnR X f (rU fun i => .int (g i)) := by
  intro pins s σ H x v Q I rx h
  obtain ⟨i, rfl, q⟩ := h
  obtain ⟨t, rfl⟩ := rx
  exact rule i t s _ _ ⟨.int (g i), H, I.tok _, ⟨_, rfl⟩, q⟩
theorem un_neg : UnR X (unaryOp .USub) (rU fun i => .int (-i)) := unI fun _ _ _ _ _ q => neg_int q
/-! ### bools among ints: n += (a < b) -/
end

/-! ### comparisons -/
/-- the scalars that == tells apart as data does -/
def scal : V → V → Bool
  | .non, .non => true | .non, .int _ => true | .int _, .non => true | .non, .bl _ => true | .bl _, .non => true | .non, .str _ => true | .str _, .non => true
  | .int _, .int _ => true | .bl _, .bl _ => true | .str _, .str _ => true | .byt _, .byt _ => true
  | .int _, .str _ => true | .str _, .int _ => true | .bl _, .str _ => true | .str _, .bl _ => true
  | _, _ => false
def rEq : R2 := fun x y H Q => scal x y = true ∧ Q (.bl (decide (x = y))) H
def rNe : R2 := fun x y H Q => scal x y = true ∧ Q (.bl (!decide (x = y))) H

theorem dec_int {i j : Int} : decide (V.int i = V.int j) = (i == j) := by
  rw [Bool.eq_iff_iff]
  simp
theorem dec_bl {i j : Bool} : decide (V.bl i = V.bl j) = (i == j) := by
  rw [Bool.eq_iff_iff]
  simp
theorem dec_str {i j : Str} : decide (V.str i = V.str j) = (i == j) := by
  rw [Bool.eq_iff_iff]
  simp
theorem dec_byt {i j : Array UInt8} : decide (V.byt i = V.byt j) = (i.toList == j.toList) := by
  rw [Bool.eq_iff_iff]
  cases i
  cases j
  simp

section
variable {X : Cx} {a b c : Expr} {ta tb tc : TE} {pos : Pos}
theorem fin_bl {pins : List (Addr × Obj)} {σ : St} {H : Hp} {s : Shared} {Q : VK} {k k' : Bool} (I : Inv X pins σ H s) (q : Q (.bl k) H) (e : k = k') : EP X pins σ Q (.bool k') s := by
  subst e
  exact ⟨.bl k, H, I, rfl, q⟩
theorem op_eq : OpR X (compareOp .Eq) rEq := by
  intro pins s σ H x y v u Q I rx ry h
  obtain ⟨hs, q⟩ := h
  cases x with
  | non =>
    cases rx
    cases y with
    | non => cases ry; exact PySem.EqNone.eq_none_none (fin_bl I q (by simp))
    | bl j => cases ry; exact PySem.EqNone.eq_none_bool (fin_bl I q (by simp))
    | int j => obtain ⟨t', rfl⟩ := ry; exact PySem.EqNone.eq_none_int (fin_bl I q (by simp))
    | str j => obtain ⟨t', rfl⟩ := ry; exact PySem.EqNone.eq_none_str (fin_bl I q (by simp))
    | _ => exact absurd (show false = true from hs) Bool.false_ne_true
  | bl i =>
    cases rx
    cases y with
    | non => cases ry; exact PySem.EqNone.eq_bool_none (fin_bl I q (by simp))
    | bl j => cases ry; exact eq_bool (fin_bl I q dec_bl)
    | str j => obtain ⟨t', rfl⟩ := ry; exact PySem.EqMixed.eq_bool_str (fin_bl I q (by simp))
    | _ => exact absurd (show false = true from hs) Bool.false_ne_true
  | int i =>
    obtain ⟨t, rfl⟩ := rx
    cases y with
    | non => cases ry; exact PySem.EqNone.eq_int_none (fin_bl I q (by simp))
    | int j => obtain ⟨t', rfl⟩ := ry; exact eq_int (fin_bl I q dec_int)
    | str j => obtain ⟨t', rfl⟩ := ry; exact PySem.EqMixed.eq_int_str (fin_bl I q (by simp))
    | _ => exact absurd (show false = true from hs) Bool.false_ne_true
  | str i =>
    obtain ⟨t, rfl⟩ := rx
    cases y with
    | non => cases ry; exact PySem.EqNone.eq_str_none (fin_bl I q (by simp))
    | bl j => cases ry; exact PySem.EqMixed.eq_str_bool (fin_bl I q (by simp))
    | int j => obtain ⟨t', rfl⟩ := ry; exact PySem.EqMixed.eq_str_int (fin_bl I q (by simp))
    | str j => obtain ⟨t', rfl⟩ := ry; exact eq_str (fin_bl I q dec_str)
    | _ => exact absurd (show false = true from hs) Bool.false_ne_true
  | byt i =>
    obtain ⟨t, rfl⟩ := rx
    cases y with
    | byt j => obtain ⟨t', rfl⟩ := ry; exact PySem.W.eq_bytes (fin_bl I q dec_byt)
    | _ => exact absurd (show false = true from hs) Bool.false_ne_true
  | _ => cases y <;> exact absurd (show false = true from hs) Bool.false_ne_true
theorem op_ne : OpR X (compareOp .NotEq) rNe := by
  intro pins s σ H x y v u Q I rx ry h
  obtain ⟨hs, q⟩ := h
  cases x with
  | non =>
    cases rx
    cases y with
    | non => cases ry; exact PySem.EqNone.ne_none_none (fin_bl I q (by simp))
    | bl j => cases ry; exact PySem.EqNone.ne_none_bool (fin_bl I q (by simp))
    | int j => obtain ⟨t', rfl⟩ := ry; exact PySem.EqNone.ne_none_int (fin_bl I q (by simp))
    | str j => obtain ⟨t', rfl⟩ := ry; exact PySem.EqNone.ne_none_str (fin_bl I q (by simp))
    | _ => exact absurd (show false = true from hs) Bool.false_ne_true
  | bl i =>
    cases rx
    cases y with
    | non => cases ry; exact PySem.EqNone.ne_bool_none (fin_bl I q (by simp))
    | bl j => cases ry; exact ne_bool (fin_bl I q (congrArg not dec_bl))
    | str j => obtain ⟨t', rfl⟩ := ry; exact PySem.EqMixed.ne_bool_str (fin_bl I q (by simp))
    | _ => exact absurd (show false = true from hs) Bool.false_ne_true
  | int i =>
    obtain ⟨t, rfl⟩ := rx
    cases y with
    | non => cases ry; exact PySem.EqNone.ne_int_none (fin_bl I q (by simp))
    | int j => obtain ⟨t', rfl⟩ := ry; exact ne_int (fin_bl I q (congrArg not dec_int))
    | str j => obtain ⟨t', rfl⟩ := ry; exact PySem.EqMixed.ne_int_str (fin_bl I q (by simp))
    | _ => exact absurd (show false = true from hs) Bool.false_ne_true
  | str i =>
    obtain ⟨t, rfl⟩ := rx
    cases y with
    | non => cases ry; exact PySem.EqNone.ne_str_none (fin_bl I q (by simp))
    | bl j => cases ry; exact PySem.EqMixed.ne_str_bool (fin_bl I q (by simp))
    | int j => obtain ⟨t', rfl⟩ := ry; exact PySem.EqMixed.ne_str_int (fin_bl I q (by simp))
    | str j => obtain ⟨t', rfl⟩ := ry; exact ne_str (fin_bl I q (congrArg not dec_str))
    | _ => exact absurd (show false = true from hs) Bool.false_ne_true
  | byt i =>
    obtain ⟨t, rfl⟩ := rx
    cases y with
    | byt j => obtain ⟨t', rfl⟩ := ry; exact PySem.W.ne_bytes (fin_bl I q (congrArg not dec_byt))
    | _ => exact absurd (show false = true from hs) Bool.false_ne_true
  | _ => cases y <;> exact absurd (show false = true from hs) Bool.false_ne_true

theorem op_lt : OpR X (compareOp .Lt) (rI0 fun i j => .bl (decide (i < j))) := opB0 fun _ _ _ _ _ _ _ q => lt_int q
theorem op_le : OpR X (compareOp .LtE) (rI0 fun i j => .bl (decide (i ≤ j))) := opB0 fun _ _ _ _ _ _ _ q => le_int q
theorem op_gt : OpR X (compareOp .Gt) (rI0 fun i j => .bl (decide (j < i))) := opB0 fun _ _ _ _ _ _ _ q => gt_int q
theorem op_ge : OpR X (compareOp .GtE) (rI0 fun i j => .bl (decide (j ≤ i))) := opB0 fun _ _ _ _ _ _ _ q => ge_int q
/-- is None, is not None: the right side a value none -/
theorem op_isN : OpR X (compareOp .Is) (fun x y H Q => y = .non ∧ Q (.bl (decide (x = .non))) H) := by
  intro pins s σ H x y v u Q I rx ry h
  obtain ⟨rfl, q⟩ := h
  cases ry
  refine is_none_gen (fin_bl I q ?_)
  cases x <;> first
    | (cases rx; rfl)
    | (obtain ⟨t, rfl⟩ := rx; rfl)
theorem op_notN : OpR X (compareOp .IsNot) (fun x y H Q => y = .non ∧ Q (.bl (!decide (x = .non))) H) := by
  intro pins s σ H x y v u Q I rx ry h
  obtain ⟨rfl, q⟩ := h
  cases ry
  refine isnot_none_gen (fin_bl I q ?_)
  cases x <;> first
    | (cases rx; rfl)
    | (obtain ⟨t, rfl⟩ := rx; rfl)

/-- is, is not of two objects that are tracked lists or instances -/
def isObj : HO → Bool
  | .lst _ => true
  | .ins _ _ _ => true
  | _ => false
theorem nomark (b : Expr) {op : CmpOp} (h : op ≠ .In := by decide) (h2 : op ≠ .NotIn := by decide) : behindInMarks op b = false := by
  have e1 : (op == CmpOp.In) = false := by cases op <;> first | rfl | exact absurd rfl h
  have e2 : (op == CmpOp.NotIn) = false := by cases op <;> first | rfl | exact absurd rfl h2
  cases b <;> simp [behindInMarks, e1, e2]
/-- a comparison as a value; hm: nomark b, or (for in, not in) by with_unfolding_all rfl -/
theorem pe_cmpR {op : CmpOp} {r : R2} (ho : OpR X (compareOp op) r) (ha : PE X a ta) (hb : PE X b tb) (hm : behindInMarks op b = false) : PE X (.Compare a [op] [b] pos) (tOp r ta tb) := by
  intro pins s σ H Q I h
  exact wpAny_Compare1 (binT ha hb I h fun v u s2 x y H2 I2 rx ry q => ho pins s2 σ H2 x y v u Q I2 rx ry q) hm
/-- a reading of a value as a test -/
def tTest (t : TE) : TT := fun σ H Q => t σ H fun x H' => ∃ k, x = .bl k ∧ Q k H'
theorem pt_cmpR {op : CmpOp} {r : R2} (ho : OpR X (compareOp op) r) (ha : PE X a ta) (hb : PE X b tb) (hm : behindInMarks op b = false) : PT X (.Compare a [op] [b] pos) (tTest (tOp r ta tb)) := by
  intro pins s σ H Q I h
  refine wpAny_isTrue_Compare1 (thn (ha pins s σ H _ I h) fun v s1 ⟨x, H1, I1, r1, q1⟩ => thn (hb pins s1 σ H1 _ I1 q1) fun u s2 ⟨y, H2, I2, r2, q2⟩ =>
    thn (ho pins s2 σ H2 x y v u _ I2 r1 r2 q2) fun c s3 ⟨z, H3, I3, r3, k, e, q3⟩ => ?_) hm
  subst e
  cases r3
  exact wpAny_truthy_bool ⟨H3, I3, q3⟩
/-- a op1 b op2 c -/
def tChain (r r' : R2) (ta tb tc : TE) : TE := fun σ H Q => ta σ H fun x H1 => tb σ H1 fun y H2 => r x y H2 fun z H3 => ∃ k, z = .bl k ∧
  (if k = true then tc σ H3 fun w' H4 => r' y w' H4 Q else Q (.bl false) H3)
theorem pe_chain {op op' : CmpOp} {r r' : R2} (ho : OpR X (compareOp op) r) (ho' : OpR X (compareOp op') r') (ha : PE X a ta) (hb : PE X b tb) (hc : PE X c tc)
    (hm : lastMarks [op, op'] [b, c] = false := by with_unfolding_all rfl) : PE X (.Compare a [op, op'] [b, c] pos) (tChain r r' ta tb tc) := by
  intro pins s σ H Q I h
  refine Compare_chain (thn (ha pins s σ H _ I h) fun v s1 ⟨x, H1, I1, r1, q1⟩ => chain_link (thn (hb pins s1 σ H1 _ I1 q1) fun u s2 ⟨y, H2, I2, r2, q2⟩ =>
    thn (ho pins s2 σ H2 x y v u _ I2 r1 r2 q2) fun d s3 ⟨z, H3, I3, r3, k, e, q3⟩ => ?_)) hm
  subst e
  cases r3
  refine wpAny_truthy_bool ?_
  cases k with
  | false => exact ite_ff ⟨.bl false, H3, I3, rfl, q3⟩
  | true => exact ite_tt (chain_last (thn (hc pins s3 σ H3 _ I3 q3) fun w' s4 ⟨z', H4, I4, r4, q4⟩ => ho' pins s4 σ H4 y z' u w' Q I4 r2 r4 q4))
/-! ### truth -/
/-- a value's truth by the abstract heap -/
def TruV (K : PySem.W.Frag) (x : V) (H : Hp) (k : Bool) : Prop :=
  match x with
  | .non => k = false
  | .bl b => k = b
  | .int i => k = (i != 0)
  | .str y => y.length ≤ sizeLine ∧ k = ((y.length : Int) != 0)
  | .byt y => y.size ≤ sizeLine ∧ k = ((y.size : Int) != 0)
  | .ref p => (∃ xs, SqL K H p xs ∧ k = !xs.isEmpty) ∨ (∃ xs, SqT K H p xs ∧ k = !xs.isEmpty) ∨ ∃ kvs, H p = some (.dK kvs) ∧ k = !kvs.isEmpty
  | _ => False
theorem line63 : (sizeLine : Nat) < 2 ^ 63 := by rw [sizeLine_eq]; decide
/-! ### strs and bytes -/
def PlainIxT (b : Expr) : Prop := ∀ o i, subscripted b false o i = operate [o, i] (getItem o i)
/-! ### scalar builtins, by CallR -/
theorem vals1 {x : V} {us : List Value} (r : Vals [x] us) : ∃ u, us = [u] ∧ RelV x u := by
  cases r with
  | cons r1 r2 => cases r2; exact ⟨_, rfl, r1⟩
theorem vals2 {x y : V} {us : List Value} (r : Vals [x, y] us) : ∃ u w', us = [u, w'] ∧ RelV x u ∧ RelV y w' := by
  cases r with
  | cons r1 r2 =>
    cases r2 with
    | cons r3 r4 => cases r4; exact ⟨_, _, rfl, r1, r3⟩
/-- len of a str, a bytes, a list, a tuple -/
def LenV (K : PySem.W.Frag) (x : V) (H : Hp) (n : Nat) : Prop :=
  match x with
  | .str y => y.length ≤ sizeLine ∧ n = y.length
  | .byt y => y.size ≤ sizeLine ∧ n = y.size
  | .ref p => (∃ xs, SqL K H p xs ∧ n = xs.length) ∨ ∃ xs, SqT K H p xs ∧ n = xs.length
  | _ => False
end
end L2

namespace L2
open PySem PySem.Spec PyProof.Rows

/-! ### an instance, its attributes a map -/
structure ObjM (h : Heap) (x dx C : Addr) (mA : Str → Option Value) : Prop where
  obj : h.get? x = some (PySem.W.instObj C dx)
  ns : h.Ns1 dx mA
  ne : dx ≠ x

theorem lookIn_ns {h : Heap} {dx : Addr} {mA : Str → Option Value} (n : h.Ns1 dx mA) : ∃ od, h.get? dx = some od ∧ ∀ name, PySem.W.lookIn name od = some (mA name) := by
  obtain ⟨o, es, ep, ho, hd, hk, _, hm⟩ := n
  refine ⟨o, ho, fun name => ?_⟩
  have e := hm name
  unfold nsFind findBy at e
  rw [← Array.find?_toList] at e
  unfold PySem.W.lookIn
  rw [hd]
  dsimp only
  split
  · rename_i y q
    rw [q] at e
    exact congrArg some e
  · rename_i q
    rw [q] at e
    have a : es.toList.any (·.refKey) = false := by
      rw [List.any_eq_false]
      intro y hy
      obtain ⟨z, t, hkey⟩ := hk y (Array.mem_toList_iff.mp hy)
      simp [DictEntry.refKey, hkey]
    have a' : ¬ es.toList.any (·.refKey) = true := by rw [a]; exact Bool.false_ne_true
    rw [if_neg a']
    exact congrArg some e

theorem ObjM.look {h : Heap} {x dx C : Addr} {mA : Str → Option Value} (I : ObjM h x dx C mA) : ∃ od, PySem.W.InstAt h x (PySem.W.instObj C dx) C (some od) ∧ ∀ name, PySem.W.lookIn name od = some (mA name) :=
  let ⟨od, ho, hl⟩ := lookIn_ns I.ns
  ⟨od, ⟨I.obj, rfl, rfl, ho⟩, hl⟩

section
variable {prog : Program} {w : World} {A : Around} {E : Value → Shared → Prop} {s : Shared} {K : PySem.W.Frag} {x dx C f : Addr} {mA : Str → Option Value} {name : Str} {v : Value}

end

/-! ### the attributes as a list of pairs -/
def putF (f : Str) (v : V) : List (Str × V) → List (Str × V)
  | [] => [(f, v)]
  | (g, x) :: r => if g = f then (g, v) :: r else (g, x) :: putF f v r
section
variable {P : Program} {w : World} {H H' : Hp} {h h' : Heap} {a C dx : Addr} {fs fs' : List (Str × V)}
theorem ins_get (hok : HOk P w H h) (e : H a = some (.ins C dx fs)) : ∃ mA, ObjM h a dx C mA ∧ (∀ f, RelO (fs.lookup f) (mA f)) ∧ PySem.Within mA (fs.map (·.1)) ∧ fs.length ≤ 1000 ∧ H dx = some (.own a) := by
  obtain ⟨d, z, ne, ob, mA, n, r, q⟩ := (show ObjOk P w H h a (.ins C dx fs) from hok a _ e)
  exact ⟨mA, ⟨ob, n, ne⟩, r, q, z, d⟩
end

/-! ### what of the text a class must have -/
structure Cls (K : PySem.W.Frag) (C : Addr) : Prop where
  pg : PySem.W.plainGet K C Str.empty = true
  hd : PySem.W.hasDictIn K C = true
  po : PySem.W.plainOver K C = true
  sa : PySem.W.findIn K (.ref C) "__setattr__" = some (some (.builtin "object.__setattr__"))
theorem Cls.get {K : PySem.W.Frag} {C : Addr} (c : Cls K C) (f : Str) : PySem.W.plainGet K C f = true := c.pg
/-- no class of it has the name -/
def NoAttr (K : PySem.W.Frag) (C : Addr) (f : Str) : Prop := PySem.W.findIn K (.ref C) f = some none
/-- a constant of the class -/
structure Con (K : PySem.W.Frag) (C : Addr) (f : Str) (v : V) (u : Value) : Prop where
  at_ : PySem.W.findIn K (.ref C) f = some (some u)
  rel : RelV v u
  get : PySem.W.specialIn K u "__get__" = some none
  cp : PySem.W.copiedNames.contains f = false
/-- a method: a plain def of the class or of one above it -/
structure Meth (K : PySem.W.Frag) (C : Addr) (m : Str) (f : Addr) : Prop where
  at_ : PySem.W.findIn K (.ref C) m = some (some (.ref f))
  fn : PySem.W.isFn K (.ref f) = true
  kp : PySem.W.keepIn K (.ref f) = true

section
variable {X : Cx} {pins : List (Addr × Obj)} {σ : St} {H : Hp} {s : Shared} {a C dx : Addr} {fs : List (Str × V)} {f : Str} {v : V} {A : Around} {E : Value → Shared → Prop}

end

/-! ### readings and rules -/
/-- e.f, an attribute of the instance -/
def tFld (K : PySem.W.Frag) (ta : TE) (f : Str) : TE := fun σ H Q => ta σ H fun x H1 => ∃ a C dx fs v, x = .ref a ∧ H1 a = some (.ins C dx fs) ∧ Cls K C ∧ NoAttr K C f ∧ fs.lookup f = some v ∧ Q v H1
/-- e.f, a constant of the class -/
def tCon (K : PySem.W.Frag) (ta : TE) (f : Str) : TE := fun σ H Q => ta σ H fun x H1 => ∃ a C dx fs v u, x = .ref a ∧ H1 a = some (.ins C dx fs) ∧ Cls K C ∧ Con K C f v u ∧ fs.lookup f = none ∧ Q v H1
/-- e.f = value -/
def sFld (K : PySem.W.Frag) (ta tv : TE) (f : Str) : TS := fun D σ H => tv σ H fun y H1 => ta σ H1 fun x H2 => ∃ a C dx fs, x = .ref a ∧ H2 a = some (.ins C dx fs) ∧ Cls K C ∧ NoAttr K C f ∧ fs.length < 1000 ∧
  D.nx σ (upd H2 a (.ins C dx (putF f y fs)))
/-- an augmented operator on two values -/
def InOp (X : Cx) (op : Operator) (rd : V → V → Hp → VK → Prop) : Prop :=
  ∀ (pins : List (Addr × Obj)) (s : Shared) (σ : St) (H : Hp) (x y : V) (u v : Value) (Q : VK), Inv X pins σ H s → RelV x u → RelV y v → rd x y H Q → wpAny (model X.prog X.w) X.A (inplaceOp op u v) (EP X pins σ Q) X.xe s
/-- e.f op= value -/
def sFldAug (K : PySem.W.Frag) (ta tv : TE) (rd : V → V → Hp → VK → Prop) (f : Str) : TS := fun D σ H => ta σ H fun x H1 => ∃ a C dx fs v, x = .ref a ∧ H1 a = some (.ins C dx fs) ∧ Cls K C ∧ NoAttr K C f ∧ fs.lookup f = some v ∧
  tv σ H1 fun y H2 => rd v y H2 fun z H3 => ∃ dx' fs', H3 a = some (.ins C dx' fs') ∧ fs'.length < 1000 ∧ D.nx σ (upd H3 a (.ins C dx' (putF f z fs')))

section
variable {X : Cx} {o e value : Expr} {f : Str} {pos pos' tpos : Pos} {ta tv : TE}
def rAdd : V → V → Hp → VK → Prop := fun x y H Q => ∃ i j, x = .int i ∧ y = .int j ∧ Q (.int (i + j)) H
def rSub : V → V → Hp → VK → Prop := fun x y H Q => ∃ i j, x = .int i ∧ y = .int j ∧ Q (.int (i - j)) H
end

/-! ### isinstance -/
section
variable {X : Cx} {pins : List (Addr × Obj)} {σ : St} {H : Hp} {s : Shared} {A : Around} {E : Value → Shared → Prop} {Q : Value → Shared → Prop} {c : Value} {b : Bool}
/-- the type of a value, as the fragment's deciders take it; for an instance its class -/
inductive TyOf (K : PySem.W.Frag) (H : Hp) : V → Value → Prop where
  | non : TyOf K H .non (.type "NoneType")
  | bl (x : Bool) : TyOf K H (.bl x) (.type "bool")
  | int (i : Int) : TyOf K H (.int i) (.type "int")
  | str (x : Str) : TyOf K H (.str x) (.type "str")
  | flt (x : UInt64) : TyOf K H (.flt x) (.type "float")
  | lst {a : Addr} {xs : List V} (e : H a = some (.lst xs)) : TyOf K H (.ref a) (.type "list")
  | frz {a : Addr} {o : Obj} {xs : List V} (e : H a = some (.frz o (.lst xs))) : TyOf K H (.ref a) (.type "list")
  | tup {a : Addr} {xs : List V} (e : H a = some (.tup xs)) : TyOf K H (.ref a) (.type "tuple")
  | dK {a : Addr} {kvs : List (Key × V)} (e : H a = some (.dK kvs)) : TyOf K H (.ref a) (.type "dict")
  | dT {a : Addr} {kvs : List (List Key × V)} (e : H a = some (.dT kvs)) : TyOf K H (.ref a) (.type "dict")
  | ins {a C dx : Addr} {fs : List (Str × V)} (e : H a = some (.ins C dx fs)) (cl : Cls K C) (ha : PySem.W.findIn K (.ref C) "__class__" = some (some (.builtin "object.__class__")))
      (hn : PySem.W.specialIn K (.builtin "object.__class__") "__get__" = some (some (.builtin "getset_descriptor.__get__"))) (htk : PySem.W.takesIn K (.builtin "object.__class__") = some true)
      (hm : PySem.W.mroIn K C (.type "object") = some true) : TyOf K H (.ref a) (.ref C)
/-- isinstance(x, c) for one class c, a built-in or an own one: kitOne's answer -/
theorem isinst_ok {x : V} {u t : Value} (I : Inv X pins σ H s) (rx : RelV x u) (ty : TyOf X.K H x t) (e : PySem.W.kitOne X.K t c = some b) (h : ∀ tk, Q (.bool b) { s with toks := tk }) :
    wpAny (model X.prog X.w) A (call (.builtin "isinstance") [u, c]) Q E s := by
  cases ty with
  | non => cases (show u = Value.none from rx); exact PySem.W.kia_one PySem.W.kitx_none I.kIn True.intro e (fun z => nomatch z) h
  | bl y => cases (show u = Value.bool y from rx); exact PySem.W.kia_one PySem.W.kitx_bool I.kIn True.intro e (fun z => nomatch z) h
  | int i => obtain ⟨t, q⟩ := (show ∃ t, u = Value.int i t from rx); cases q; exact PySem.W.kia_one PySem.W.kitx_int I.kIn True.intro e (fun z => nomatch z) h
  | str y => obtain ⟨t, q⟩ := (show ∃ t, u = Value.str y t from rx); cases q; exact PySem.W.kia_one PySem.W.kitx_str I.kIn True.intro e (fun z => nomatch z) h
  | flt y => obtain ⟨t, q⟩ := (show ∃ t, u = Value.float y t from rx); cases q; exact PySem.W.kia_one PySem.W.kitx_float I.kIn True.intro e (fun z => nomatch z) h
  | @lst a xs ea =>
    cases (show u = Value.ref a from rx)
    obtain ⟨_, _, n, _, h1⟩ := (show ObjOk X.prog X.w H s.heap a (.lst xs) from I.hok a _ ea)
    exact PySem.W.kia_one PySem.W.kitx_list I.kIn ⟨_, h1, rfl⟩ e (fun z => nomatch z) h
  | @frz a ob xs ea =>
    cases (show u = Value.ref a from rx)
    obtain ⟨_, _, _, n, _, h1⟩ := (show ObjOk X.prog X.w H s.heap a (.frz ob (.lst xs)) from I.hok a _ ea)
    exact PySem.W.kia_one PySem.W.kitx_list I.kIn ⟨_, h1, rfl⟩ e (fun z => nomatch z) h
  | @tup a xs ea =>
    cases (show u = Value.ref a from rx)
    obtain ⟨_, _, _, p⟩ := (show ObjOk X.prog X.w H s.heap a (.tup xs) from I.hok a _ ea)
    obtain ⟨o, h1, h2, _⟩ := p
    exact PySem.W.kia_one PySem.W.kitx_tuple I.kIn ⟨o, h1, h2⟩ e (fun z => nomatch z) h
  | @dK a kvs ea =>
    cases (show u = Value.ref a from rx)
    obtain ⟨_, _, vs, _, p⟩ := (show ObjOk X.prog X.w H s.heap a (.dK kvs) from I.hok a _ ea)
    obtain ⟨o, es, ep, h1, h2, _⟩ := p
    exact PySem.W.kia_one PySem.W.kitx_dict I.kIn ⟨o, h1, h2.1⟩ e (fun z => nomatch z) h
  | @dT a kvs ea =>
    cases (show u = Value.ref a from rx)
    obtain ⟨_, _, xs, _, o, es, ep, h1, h2, _⟩ := (show ObjOk X.prog X.w H s.heap a (.dT kvs) from I.hok a _ ea)
    exact PySem.W.kia_one PySem.W.kitx_dict I.kIn ⟨o, h1, h2.1⟩ e (fun z => nomatch z) h
  | @ins a C dx fs ea cl ha hn htk hm =>
    cases (show u = Value.ref a from rx)
    obtain ⟨mA, O, _⟩ := ins_get I.hok ea
    obtain ⟨od, J, _⟩ := O.look
    exact PySem.W.kia_one (PySem.W.kitx_own (cl.get _) cl.hd ha hn htk hm) I.kIn J e (fun z => nomatch z) h
end
end L2

namespace L2
open PySem PySem.Spec PyProof.Rows

/-! ### room -/
structure Room (k : Nat) (A : Around) : Prop where
  hd : A.handled = none
  dp : A.depth + 3 * k + 5 < recursionLimit
  un : A.units + 16 * k + 200 < cLine
theorem Room.mono {j k : Nat} {A : Around} (r : Room k A) (h : j ≤ k) : Room j A := ⟨r.hd, by have := r.dp; omega, by have := r.un; omega⟩
theorem Room.deeper {k : Nat} {A : Around} (r : Room (k + 1) A) (env : Env) : Room k (A.deeper env) :=
  ⟨r.hd, by have := r.dp; show A.depth + 1 + 3 * k + 5 < _; omega, by have := r.un; show A.units + 3 + 16 * k + 200 < _; omega⟩
theorem Room.depth {k : Nat} {A : Around} (r : Room k A) : A.depth < recursionLimit := by have := r.dp; omega
theorem Room.units {k : Nat} {A : Around} (r : Room k A) : A.units + 64 < cLine := by have := r.un; omega
/-! ### argument lists and displays -/
def tNil : TA := fun _ H Q => Q [] H
def tCons (ta : TE) (tr : TA) : TA := fun σ H Q => ta σ H fun x H1 => tr σ H1 fun xs H2 => Q (x :: xs) H2
section
variable {X : Cx} {e : Expr} {es : List Expr} {te : TE} {t : TA} {pos : Pos}
theorem pa_nil : PA X [] tNil := fun _ _ _ _ H Q I h => Calls.spliced_nil ⟨[], H, I, .nil, h⟩
theorem pa_cons (ha : PE X e te) (hr : PA X es t) (hs : starEach (e :: es) X.env = (false, eval e X.env) :: starEach es X.env := by rfl) : PA X (e :: es) (tCons te t) := by
  intro pos pins s σ H Q I h
  rw [hs]
  show wpAny _ _ (spliced ((false, eval e X.env) :: backTo pos (starEach es X.env))) _ _ s
  refine Calls.spliced_cons (thn (ha pins s σ H _ I h) fun u s1 ⟨x, H1, I1, r1, q1⟩ => ?_)
  exact thn (hr pos pins s1 σ H1 _ I1 q1) fun us s2 ⟨xs, H2, I2, r2, q2⟩ => ⟨x :: xs, H2, I2, .cons r1 r2, q2⟩

/-- a tuple, a list of written items -/
def tTup (t : TA) : TE := fun σ H Q => t σ H fun xs H1 => xs.length ≤ sizeLine ∧ ∀ p, H1 p = none → Q (.ref p) (upd H1 p (.tup xs))
def tLst (t : TA) : TE := fun σ H Q => t σ H fun xs H1 => xs.length ≤ sizeLine ∧ ∀ p, H1 p = none → Q (.ref p) (upd H1 p (.lst xs))
theorem pe_tup {x1} (h : PA X es t) : PE X (.Tuple es x1 pos) (tTup t) := by
  intro pins s σ H Q I hq
  refine wpAny_Tuple_spliced (thn (h pos pins s σ H _ I hq) fun us s1 ⟨xs, H1, I1, r, z, q⟩ => ⟨by rw [← r.length]; exact z, ?_⟩)
  have hf : H1 s1.heap.objs.size = none := I1.hok.fresh (Nat.le_refl _)
  refine ⟨.ref s1.heap.objs.size, upd H1 s1.heap.objs.size (.tup xs), I1.laid (t' := s1.toks) (fun b u e => Heap.get?_push_of_some _ e) (Nat.le_refl _) ?_, rfl, q _ hf⟩
  exact ⟨z, us, r, ⟨_, Heap.get?_push_size _ rfl, rfl, _, rfl⟩⟩
theorem pe_lst (h : PA X es t) : PE X (.List es pos) (tLst t) := by
  intro pins s σ H Q I hq
  refine wpAny_List_spliced (thn (h pos pins s σ H _ I hq) fun us s1 ⟨xs, H1, I1, r, z, q⟩ => ⟨by rw [← r.length]; exact z, ?_⟩)
  have hf : H1 s1.heap.objs.size = none := I1.hok.fresh (Nat.le_refl _)
  refine ⟨.ref s1.heap.objs.size, upd H1 s1.heap.objs.size (.lst xs), I1.laid (t' := s1.toks) (fun b u e => Heap.get?_push_of_some _ e) (Nat.le_refl _) ?_, rfl, q _ hf⟩
  exact ⟨z, us, 0, r, Heap.get?_push_size _ rfl⟩
end

/-! ### what a def promises -/
/-- a def's promise: the bound arguments in the parameters' order, the heap, the wanted end, the wanted exception -/
abbrev Sp := List V → Hp → VK → XK → Prop
/-- how an exception lies behind a call (file 08 gives it): the callers' frames, abstract heap and state ahead of the call, the wish, the exception, the state -/
abbrev CXT := List Env → Hp → Shared → XK → Value → Shared → Prop

/-- the state at a call -/
structure Env0 (P : Program) (w : World) (K : PySem.W.Frag) (mg : Str → Option Value) (base : Heap) (A : Around) (outer : List Env) (s : Shared) (H : Hp) : Prop where
  frames : A.frames = some outer
  mod : Mod K mg base
  bs : ∀ b o, base.get? b = some o → s.heap.get? b = some o ∧ H b = none
  bsz : base.objs.size ≤ s.heap.objs.size
  funs : s.heap.FunFrames base outer
  frf : ∀ b ∈ frs outer, H b = none
  hok : HOk P w H s.heap
  bare : AllBare s.gens
/-- a call's end -/
def CE (outer : List Env) (P : Program) (w : World) (H : Hp) (s : Shared) (Q : VK) (u : Value) (s' : Shared) : Prop :=
  ∃ v H', s'.os = s.os ∧ AllBare s'.gens ∧ Un (frs outer) [] H H' s.heap s'.heap ∧ HOk P w H' s'.heap ∧ RelV v u ∧ Q v H'
def CR (CX : CXT) (outer : List Env) (P : Program) (w : World) (H : Hp) (s : Shared) (Q : VK) (E : XK) (r : Result) (s' : Shared) : Prop :=
  match r with
  | .ok (.ret u) => CE outer P w H s Q u s'
  | .ok _ => False
  | .error e => CX outer H s E e s'
structure FnOk (P : Program) (w : World) (K : PySem.W.Frag) (mg : Str → Option Value) (base : Heap) (CX : CXT) (k : Nat) (f : Addr) (fd : FuncData) (ps : List Str) (sp : Sp) : Prop where
  len : ∀ vs H Q E, sp vs H Q E → vs.length = ps.length
  run : ∀ (A : Around) (outer : List Env) (s : Shared) (H : Hp) (args : Args) (us : List Value) (vs : List V) (Q : VK) (E : XK), Room k A → Env0 P w K mg base A outer s H → BindsTo s fd args (ps.zip us) → Vals vs us → sp vs H Q E →
    codeAny (model P w) A (.call (.ref f) args) (CR CX outer P w H s Q E) s
theorem FnOk.mono {P : Program} {w : World} {K : PySem.W.Frag} {mg : Str → Option Value} {base : Heap} {CX : CXT} {j k : Nat} {f : Addr} {fd : FuncData} {ps : List Str} {sp : Sp} (F : FnOk P w K mg base CX j f fd ps sp) (h : j ≤ k) :
    FnOk P w K mg base CX k f fd ps sp := ⟨F.len, fun A outer s H args us vs Q E hr => F.run A outer s H args us vs Q E (hr.mono h)⟩
section
variable {X : Cx} {pins : List (Addr × Obj)} {σ : St} {H : Hp} {s s' : Shared}
/-- from a body: what a callee wants -/
theorem Inv.env0 (I : Inv X pins σ H s) : Env0 X.prog X.w X.K X.mg X.base X.A X.stack s H :=
  ⟨I.ok.frames, I.ok.mod, I.bs, Nat.le_trans I.ok.bsz I.sz, I.stack, I.stkFree, I.hok, I.bare⟩
/-- behind a call -/
theorem Inv.after {Q : VK} {u : Value} (I : Inv X pins σ H s) (h : CE X.stack X.prog X.w H s Q u s') : EP X pins σ Q u s' := by
  obtain ⟨v, H', os, bare, un, hok, r, q⟩ := h
  obtain ⟨hh, g, d, t, os'⟩ := s'
  obtain rfl : os' = s.os := os
  exact ⟨v, H', I.call (h' := hh) (g' := g) (d' := d) (t' := t) (ch := []) un hok bare (fun b z => absurd z (by simp)), r, q⟩
end

/-! ### calls -/
/-- f(..): the written arguments, then the defaults dvs; E: what is wanted of an exception -/
def tCall (sp : Sp) (dvs : List V) (E : XK) (t : TA) : TE := fun σ H Q => t σ H fun vs H1 => sp (vs ++ dvs) H1 Q E
/-- o.m(..) of an instance of the class at C -/
def tMeth (C : Addr) (m : Str) (sp : Sp) (dvs : List V) (E : XK) (ta : TE) (t : TA) : TE := fun σ H Q => ta σ H fun x H1 => ∃ a dx fs, x = .ref a ∧ H1 a = some (.ins C dx fs) ∧ fs.lookup m = none ∧
  t σ H1 fun vs H2 => sp (x :: (vs ++ dvs)) H2 Q E
/-- C(..): a new instance and its dict, then __init__ -/
def tMake (C : Addr) (sp : Sp) (dvs : List V) (E : XK) (t : TA) : TE := fun σ H Q => t σ H fun vs H1 => ∀ x dx, H1 x = none → H1 dx = none → dx ≠ x →
  sp (.ref x :: (vs ++ dvs)) (upd (upd H1 dx (.own x)) x (.ins C dx [])) (fun v H2 => v = .non ∧ Q (.ref x) H2) E

/-- how the parameters are bound: us the positional arguments, kw the keywords' values by name, ds the defaults that fill up -/
def Binds (K : PySem.W.Frag) (fd : FuncData) (ps : List Str) (ds : List Value) : Prop :=
  ∀ (s : Shared) (us : List Value), K.In s.heap → (us ++ ds).length = ps.length → BindsTo s fd ⟨us, []⟩ (ps.zip (us ++ ds))
/-- every parameter is given -/
theorem Binds.all {K : PySem.W.Frag} {fd : FuncData} {ps : List Str} (h : ∀ us : List Value, us.length = ps.length → bindArgs fd ⟨us, []⟩ = pure (ps.zip us)) : Binds K fd ps [] := fun s us _ hl => by
  rw [List.append_nil] at hl ⊢
  exact .of_eq (h us hl)

/-- an exception of a callee reaches what this body wants of exceptions -/
def Passes (CX : CXT) (X : Cx) (E : XK) : Prop := ∀ (pins : List (Addr × Obj)) (σ : St) (H : Hp) (s : Shared) (e : Value) (s' : Shared), Inv X pins σ H s → CX X.stack H s E e s' → X.xe e s'

section
variable {X : Cx} {CX : CXT} {k : Nat} {f C : Addr} {fd : FuncData} {ps : List Str} {sp : Sp} {dvs : List V} {ds : List Value} {E : XK} {x m : Str} {p pos apos : Pos} {e o : Expr} {es : List Expr} {ta : TE} {t : TA}

/-- the callee runs -/
theorem run_fn {pins : List (Addr × Obj)} {σ : St} {H : Hp} {s : Shared} {Q : VK} {us : List Value} {vs : List V} (F : FnOk X.prog X.w X.K X.mg X.base CX k f fd ps sp) (hr : Room k X.A) (hb : Binds X.K fd ps ds) (hd : Vals dvs ds) (hx : Passes CX X E)
    (I : Inv X pins σ H s) (r : Vals vs us) (h : sp (vs ++ dvs) H Q E) : wpAny (model X.prog X.w) X.A (call (.ref f) us) (EP X pins σ Q) X.xe s := by
  have r2 : Vals (vs ++ dvs) (us ++ ds) := r.append hd
  have hl : (us ++ ds).length = ps.length := by rw [← r2.length]; exact F.len _ _ _ _ h
  refine wpAny_call (codeAny_mono (F.run X.A X.stack s H ⟨us, []⟩ (us ++ ds) (vs ++ dvs) Q E hr I.env0 (hb s us I.kIn hl) r2 h) fun r s' hq => ?_)
  cases r with
  | error e => exact hx pins σ H s e s' I hq
  | ok fl =>
    cases fl with
    | ret u => exact I.after hq
    | next => exact False.elim hq
    | brk => exact False.elim hq
    | cont => exact False.elim hq

theorem pe_call (F : FnOk X.prog X.w X.K X.mg X.base CX k f fd ps sp) (hr : Room k X.A) (hg : Gl X x) (hm : X.mg x = some (.ref f)) (hk : PySem.W.keepIn X.K (.ref f) = true) (hb : Binds X.K fd ps ds) (hd : Vals dvs ds) (hx : Passes CX X E)
    (ha : PA X (e :: es) t) (hdb : (x == ("__debug__" : Str)) = false := by decide) (he : starEach (e :: es) X.env = (false, eval e X.env) :: starEach es X.env := by rfl) (hpl : (backTo pos (starEach es X.env)).any (·.1) = false := by rfl) :
    PE X (.Call (.Name x p) (e :: es) [] pos) (tCall sp dvs E t) := by
  intro pins s σ H Q I h
  refine wpAny_Call_Name_kw (ld_glob I hg hm ?_ hdb)
  refine PySem.W.callWith_K (h₀ := X.base) I.ok.mod.kin hk (thn (ha pos pins s σ H _ I h) fun us s1 ⟨vs, H1, I1, r, q⟩ => ⟨I1.kIn, ?_⟩) he hpl
  exact run_fn F hr hb hd hx I1 r q
/-- what a class must have to be made -/
structure Mk (K : PySem.W.Frag) (C f : Addr) : Prop where
  makes : PySem.W.makesIn K C = true
  init : PySem.W.findIn K (.ref C) "__init__" = some (some (.ref f))
  fn : PySem.W.isFn K (.ref f) = true
  kp : PySem.W.keepIn K (.ref C) = true

end

/-! ### keywords -/
/-- the values of the keywords, from the left -/
def PK (X : Cx) (kws : List Keyword) (t : TA) : Prop :=
  ∀ (pos : Pos) (pins : List (Addr × Obj)) (s : Shared) (σ : St) (H : Hp) (Q : List V → Hp → Prop), Inv X pins σ H s → t σ H Q → wpAny (model X.prog X.w) X.A (evalAll ((backToKw pos (keywordEach kws X.env)).map (·.2))) (AP X pins σ Q) X.xe s
section
variable {X : Cx} {CX : CXT} {k : Nat} {f C : Addr} {fd : FuncData} {ps ks : List Str} {sp : Sp} {E : XK} {x m : Str} {p pos apos kpos : Pos} {e o : Expr} {es : List Expr} {kws : List Keyword} {te ta : TE} {t tk : TA} {nm : Option Str}
/-- how a call with keywords binds: g puts the positional values us and the keywords' values ws (names ks) in the parameters' order, defaults among them -/
structure KBinds (K : PySem.W.Frag) (fd : FuncData) (ps ks : List Str) (g : List Value → List Value → List Value) (gV : List V → List V → List V) : Prop where
  to : ∀ (s : Shared) (us ws : List Value), K.In s.heap → (g us ws).length = ps.length → BindsTo s fd ⟨us, ks.zip ws⟩ (ps.zip (g us ws))
  rel : ∀ {vs : List V} {us : List Value} {zs : List V} {ws : List Value}, Vals vs us → Vals zs ws → Vals (gV vs zs) (g us ws)
def tCallK (sp : Sp) (gV : List V → List V → List V) (E : XK) (t tk : TA) : TE := fun σ H Q => t σ H fun vs H1 => tk σ H1 fun zs H2 => sp (gV vs zs) H2 Q E
variable {g : List Value → List Value → List Value} {gV : List V → List V → List V}
end

/-! ### a def's body keeps its promise -/
/-- names: the parameters first -/
structure FnScope (N P : List Str) (sc : Scope) : Prop where
  kind : sc.kind = .function
  co : sc.isCoroutine = false
  gen : sc.isGenerator = false
  nd : N.Nodup
  pre : N.take P.length = P
  par : ∀ x ∈ P, sc.names.lookup x = some .local ∨ sc.names.lookup x = some .cell
  nofree : ∀ y ∈ sc.names, y.2 ≠ .free

theorem bindL_out {kindOf : Str → Option NameKind} {x : Str} : ∀ {binds : List (Str × Value)} {m : Str → Option Value}, (∀ v, (x, v) ∉ binds) → bindL kindOf binds m x = m x
  | [], _, _ => rfl
  | (n, v) :: r, m, h => by
    unfold bindL
    rw [bindL_out fun w hw => h w (List.mem_cons_of_mem _ hw)]
    split
    · have : x ≠ n := by rintro rfl; exact h v List.mem_cons_self
      simp [this]
    · rfl
theorem bindC_out {kindOf : Str → Option NameKind} {x : Str} : ∀ {binds : List (Str × Value)} {m : Str → Option Value}, (∀ v, (x, v) ∉ binds) → bindC kindOf binds m x = m x
  | [], _, _ => rfl
  | (n, v) :: r, m, h => by
    unfold bindC
    rw [bindC_out fun w hw => h w (List.mem_cons_of_mem _ hw)]
    split
    · rfl
    · have : x ≠ n := by rintro rfl; exact h v List.mem_cons_self
      simp [this]
theorem bindL_get {kindOf : Str → Option NameKind} {x : Str} {v : Value} : ∀ {P : List Str} {vs : List Value} {i : Nat} {m : Str → Option Value}, P.Nodup → P[i]? = some x → vs[i]? = some v → kindOf x = some .local →
    bindL kindOf (P.zip vs) m x = some v
  | [], _, _, _, _, h, _, _ => by simp at h
  | _ :: _, [], _, _, _, _, h, _ => by simp at h
  | p :: P, w :: vs, 0, m, nd, h1, h2, hk => by
    simp at h1 h2; subst h1; subst h2
    show bindL kindOf ((p, w) :: P.zip vs) m p = _
    unfold bindL
    rw [bindL_out fun v hv => (List.nodup_cons.mp nd).1 (List.of_mem_zip hv).1, if_pos hk]
    simp
  | p :: P, w :: vs, i + 1, m, nd, h1, h2, hk => by
    show bindL kindOf ((p, w) :: P.zip vs) m x = _
    unfold bindL
    exact bindL_get (i := i) (List.nodup_cons.mp nd).2 (by simpa using h1) (by simpa using h2) hk
theorem bindC_get {kindOf : Str → Option NameKind} {x : Str} {v : Value} : ∀ {P : List Str} {vs : List Value} {i : Nat} {m : Str → Option Value}, P.Nodup → P[i]? = some x → vs[i]? = some v → kindOf x ≠ some .local →
    bindC kindOf (P.zip vs) m x = some v
  | [], _, _, _, _, h, _, _ => by simp at h
  | _ :: _, [], _, _, _, _, h, _ => by simp at h
  | p :: P, w :: vs, 0, m, nd, h1, h2, hk => by
    simp at h1 h2; subst h1; subst h2
    show bindC kindOf ((p, w) :: P.zip vs) m p = _
    unfold bindC
    rw [bindC_out fun v hv => (List.nodup_cons.mp nd).1 (List.of_mem_zip hv).1, if_neg hk]
    simp
  | p :: P, w :: vs, i + 1, m, nd, h1, h2, hk => by
    show bindC kindOf ((p, w) :: P.zip vs) m x = _
    unfold bindC
    exact bindC_get (i := i) (List.nodup_cons.mp nd).2 (by simpa using h1) (by simpa using h2) hk

/-- the names' values at the entry -/
def start (N : List Str) (vs : List V) : St := vs.map some ++ List.replicate (N.length - vs.length) none

/-- the context of a def's body, at its entry; an exception leaves the frame, then lies as CX says -/
def cxOf (CX : CXT) (P : Program) (w : World) (K : PySem.W.Frag) (mg : Str → Option Value) (base : Heap) (N : List Str) (qual : Str) (scope : Scope) (f : Addr) (cd : Value) (A : Around) (outer : List Env) (s : Shared) (H : Hp) (E : XK) : Cx where
  prog := P
  w := w
  K := K
  mg := mg
  base := base
  A := A.deeper (envOfC qual scope s.heap.objs.size f cd)
  N := N
  s₀ := s
  H₀ := H
  env := envOfC qual scope s.heap.objs.size f cd
  outer := outer
  stack := envOfC qual scope s.heap.objs.size f cd :: outer
  ex := []
  calm := true
  fn := fun _ => true
  pn := []
  xe := fun e s' => wpAny (model P w) (A.deeper (envOfC qual scope s.heap.objs.size f cd)) (leaving (envOfC qual scope s.heap.objs.size f cd) e) (fun _ s'' => CX outer H s E e s'') (fun e' s'' => CX outer H s E e' s'') s'

theorem cell_has {sc : Scope} {n : Nat} {x : Str} (h : sc.names.lookup x = some .cell) : ∃ c, (cellsFrom n sc.names []).lookup x = some c := by
  have q := PySem.W.cellsFrom_some sc.names n [] (.inl h)
  exact Option.isSome_iff_exists.mp q

theorem inv_start {CX : CXT} {P : Program} {w : World} {K : PySem.W.Frag} {mg : Str → Option Value} {base : Heap} {N ps : List Str} {qual : Str} {scope : Scope} {f : Addr} {cd : Value} {A : Around} {outer : List Env} {s s1 : Shared} {H : Hp} {E : XK} {us : List Value} {vs : List V}
    (S : FnScope N ps scope) (hd : A.handled = none) (e0 : Env0 P w K mg base A outer s H) (hl : vs.length = ps.length) (r : Vals vs us)
    (x : InCallC s s.heap.objs.size (bindL (envOfC qual scope s.heap.objs.size f cd).kindOf (ps.zip us) fun _ => none) (cellsFrom (s.heap.objs.size + 1) scope.names []) (bindC (envOfC qual scope s.heap.objs.size f cd).kindOf (ps.zip us) fun _ => none) s1) :
    Inv (cxOf CX P w K mg base N qual scope f cd A outer s H E) [] (start N vs) H s1 := by
  have hpl : ps.length ≤ N.length := by have := congrArg List.length S.pre; rw [List.length_take] at this; omega
  obtain ⟨h1, tk, rfl, hk⟩ := x.done
  have noA : ∀ b : Addr, b ∉ (cxOf CX P w K mg base N qual scope f cd A outer s H E).ex := fun b z => absurd (show b ∈ ([] : List Addr) from z) (by simp)
  refine ⟨⟨e0.mod, S.kind, rfl, rfl, Nat.le_refl _, fun y z c h1 h2 => ?_, fun y hy => ?_, fun y c _ h => ?_, fun _ => hd, Around.frames_deeper e0.frames, .inr ⟨rfl, rfl⟩, fun b z => absurd z (noA b), e0.bs, e0.bsz, fun b _ _ => noA b, fun b z => absurd z (noA b), e0.funs, e0.frf⟩,
    rfl, e0.bare, Un.kept hk, ⟨_, x.toInCall.ns, fun i y v h1 h2 h3 => ?_⟩, fun y c h => ⟨_, x.cell y c h⟩, e0.hok.fresh (Nat.le_refl _), fun y c h => ?_, fun p hp => absurd (show p ∈ ([] : List (Addr × Obj)) from hp) (by simp), e0.hok.kept hk, ?_⟩
  · exact name_of_addr x.apart (PySem.mem_of_lookup h1) (PySem.mem_of_lookup h2)
  · have hy : scope.names.lookup y = some .cell ∨ scope.names.lookup y = some .free := hy
    rcases hy with hy | hy
    · exact cell_has hy
    · exact absurd rfl (S.nofree _ (PySem.mem_of_lookup hy))
  · exact Nat.le_of_lt (x.above y c (PySem.mem_of_lookup h))
  · have hi : i < vs.length := by
      unfold start at h2
      by_cases hi : i < vs.length
      · exact hi
      · rw [List.getElem?_append_right (by simpa using hi)] at h2
        rw [List.getElem?_replicate] at h2
        split at h2 <;> cases h2
    have ha : vs[i]? = some v := by
      unfold start at h2
      rw [List.getElem?_append_left (by simpa using hi), List.getElem?_map] at h2
      cases e : vs[i]? with
      | none => rw [e] at h2; cases h2
      | some a => rw [e] at h2; cases h2; rfl
    obtain ⟨u, hu, rv⟩ := r.get ha
    have hp : ps[i]? = some y := by
      rw [← S.pre, List.getElem?_take_of_lt (by omega)]; exact h1
    have ndP : ps.Nodup := by rw [← S.pre]; exact S.nd.sublist (List.take_sublist _ _)
    refine ⟨u, rv, ?_⟩
    rcases S.par y (List.mem_of_getElem? hp) with k | k
    · exact .inl ⟨k, bindL_get ndP hp hu k⟩
    · obtain ⟨c, e⟩ := cell_has (n := s.heap.objs.size + 1) k
      refine .inr ⟨.inl k, c, e, ?_⟩
      have q := x.cell y c e
      rw [bindC_get ndP hp hu (by show scope.names.lookup y ≠ _; rw [k]; decide)] at q
      exact q
  · exact e0.hok.fresh (Nat.le_of_lt (x.above y c (PySem.mem_of_lookup h)))
  · unfold start
    show _ = N.length
    rw [List.length_append, List.length_map, List.length_replicate]
    omega

/-- THE RULE: a def (or a method) of the text, by its body. The body's reading t is chosen for each entry; it is run at the parameters' values -/
theorem fn_of {CX : CXT} {P : Program} {w : World} {K : PySem.W.Frag} {mg : Str → Option Value} {base : Heap} {k : Nat} {f : Addr} {name qual : Str} {params : Arguments} {body : List Stmt} {scope : Scope} {dV kV doc pm cdv ct oc : Value} {an od : Option Addr}
    {osl : Array (Option Value)} {N ps : List Str} {sp : Sp} (lk : K.lookup f = some ⟨oc, od, .func (PySem.W.fnOf name qual params body scope dV kV doc pm an cdv ct), osl⟩) (hcd : PySem.W.codeIn K cdv qual = true) (S : FnScope N ps scope)
    (len : ∀ vs H Q E, sp vs H Q E → vs.length = ps.length)
    (hbody : ∀ (A : Around) (outer : List Env) (s : Shared) (H : Hp) (vs : List V) (Q : VK) (E : XK), Room k (A.deeper (envOfC qual scope s.heap.objs.size f cdv)) → sp vs H Q E →
      ∃ t, PSs (cxOf CX P w K mg base N qual scope f cdv A outer s H E) body t ∧ t { nx := fun _ H' => Q .non H', rt := Q } (start N vs) H) :
    FnOk P w K mg base CX (k + 1) f (PySem.W.fnOf name qual params body scope dV kV doc pm an cdv ct) ps sp := by
  refine ⟨len, fun A outer s H args us vs Q E hr e0 hb r hsp => ?_⟩
  have hl := len _ _ _ _ hsp
  have KX : K.In s.heap := e0.mod.kin.keeps fun b o e => (e0.bs b o e).1
  have lim : s.heap.NoLimit := e0.mod.nolimit.keeps fun b o e => (e0.bs b o e).1
  have hkind : ∀ y ∈ ps.zip us, scope.names.lookup y.1 = some .local ∨ (scope.names.lookup y.1 = some .cell ∧ ((cellsFrom (s.heap.objs.size + 1) scope.names []).lookup y.1).isSome = true) := fun ⟨n, v⟩ hy => by
    rcases S.par n (List.of_mem_zip hy).1 with q | q
    · exact .inl q
    · exact .inr ⟨q, PySem.W.cellsFrom_some _ _ _ (.inl q)⟩
  refine codeAny_call_function hr.depth (KX _ _ lk) rfl S.co S.gen rfl (PySem.W.codeRec_of KX hcd) (hb _ _ _ _ ?_)
  refine wpAny_newFunctionEnv_cells S.kind hkind fun env he s1 x => ?_
  subst he
  refine ⟨lim.keeps x.toInCall.keep, codeAny_func ?_⟩
  obtain ⟨t, ht, hq⟩ := hbody A outer s H vs Q E (hr.deeper _) hsp
  have I : Inv (cxOf CX P w K mg base N qual scope f cdv A outer s H E) [] (start N vs) H s1 := inv_start S hr.hd e0 hl r x
  refine wpAny_mono (ht [] s1 (start N vs) H _ I hq) (fun fl s' hs => ?_) fun e s' hs => hs
  have fin : ∀ {σ' : St} {H' : Hp} {v : V} {u : Value}, Inv (cxOf CX P w K mg base N qual scope f cdv A outer s H E) [] σ' H' s' → RelV v u → Q v H' → CE outer P w H s Q u s' :=
    fun {σ' H' v u} J rv q => ⟨v, H', J.os, J.bare, J.base, J.hok, rv, q⟩
  cases fl with
  | ret u =>
    obtain ⟨v, σ', H', J, rv, q⟩ := hs
    exact fin J rv q
  | next =>
    obtain ⟨σ', H', J, q⟩ := hs
    exact fin (v := V.non) (u := Value.none) J rfl q
  | brk =>
    obtain ⟨_, _, _, q⟩ := hs
    exact False.elim q
  | cont =>
    obtain ⟨_, _, _, q⟩ := hs
    exact False.elim q
end L2

namespace L2
open PySem PySem.Spec PyProof.Rows
section
variable {X : Cx} {x : Str} {p pos : Pos} {e : Expr} {es : List Expr} {t : TA} {id T : String} {r : List V → Hp → VK → Prop}

def tCB (r : List V → Hp → VK → Prop) (t : TA) : TE := fun σ H Q => t σ H fun vs H1 => r vs H1 Q
/-- f(e, ..), f a built-in function -/
theorem pe_callB (hc : CallR X (.builtin id) r) (hg : Gl X x) (hm : X.mg x = none) (hv : bootBuiltins x = some (.builtin id)) (ha : PA X (e :: es) t) (hn : x ≠ "__name__" := by decide) (hdb : (x == ("__debug__" : Str)) = false := by decide)
    (he : starEach (e :: es) X.env = (false, eval e X.env) :: starEach es X.env := by rfl) (hpl : (backTo pos (starEach es X.env)).any (·.1) = false := by rfl) : PE X (.Call (.Name x p) (e :: es) [] pos) (tCB r t) := by
  intro pins s σ H Q I h
  refine wpAny_Call_Name_kw (ld_blt I hg hm hv ?_ hn hdb)
  exact PyProof.Rows.callWith_builtin1 (thn (ha pos pins s σ H _ I h) fun us s1 ⟨vs, H1, I1, r1, q1⟩ => hc pins s1 σ H1 vs us Q I1 r1 q1) he hpl
/-- T(e, ..), T a built-in type -/
theorem pe_callTy (hc : CallR X (.type T) r) (hg : Gl X x) (hm : X.mg x = none) (hv : bootBuiltins x = some (.type T)) (ha : PA X (e :: es) t) (hn : x ≠ "__name__" := by decide) (hdb : (x == ("__debug__" : Str)) = false := by decide)
    (he : starEach (e :: es) X.env = (false, eval e X.env) :: starEach es X.env := by rfl) (hpl : (backTo pos (starEach es X.env)).any (·.1) = false := by rfl) : PE X (.Call (.Name x p) (e :: es) [] pos) (tCB r t) := by
  intro pins s σ H Q I h
  refine wpAny_Call_Name_kw (ld_blt I hg hm hv ?_ hn hdb)
  exact PyProof.Rows.callWith_type1 (thn (ha pos pins s σ H _ I h) fun us s1 ⟨vs, H1, I1, r1, q1⟩ => hc pins s1 σ H1 vs us Q I1 r1 q1) he hpl
end
end L2

namespace HT
open PySem PyProof.Rows

/-- t < u of tuples of ints -/
def lexLt : List Int → List Int → Bool
  | [], [] => false
  | [], _ :: _ => true
  | _ :: _, [] => false
  | x :: xs, y :: ys => if x = y then lexLt xs ys else decide (x < y)
section
open PySem.SeqAt
open PySem.AutoSeq1 (wpAny_loadPart')
open PySem.MeetsSeq PySem.MeetsSeq2 PySem.MeetsSeq3

end

section
variable {prog : Program} {w : World} {A : Around} {E : Value → Shared → Prop} {s : Shared}

/-! ### t[a:b], not the whole -/
/-- a slice's bound as a place among n (d where it is left out) -/
def sIx (n d : Nat) : Option Int → Nat
  | none => d
  | some v => if v < 0 then (v + (n : Int)).toNat else min v.toNat n
theorem sIx_none (n d : Nat) : sIx n d none = d := rfl
theorem sIx_nat (n d k : Nat) : sIx n d (some (k : Int)) = min k n := by
  show (if (k : Int) < 0 then ((k : Int) + (n : Int)).toNat else min (k : Int).toNat n) = min k n
  rw [if_neg (by omega), Int.toNat_natCast]
end
end HT

namespace L2
open PySem PySem.Spec PyProof.Rows

/-! ### the parts of a slice -/
abbrev TO := St → Hp → (Option Int → Hp → Prop) → Prop
/-- a slice's part (left out, or an int) -/
def PO (X : Cx) (e : Option Expr) (t : TO) : Prop :=
  ∀ (pins : List (Addr × Obj)) (s : Shared) (σ : St) (H : Hp) (Q : Option Int → Hp → Prop), Inv X pins σ H s → t σ H Q →
    wpAny (model X.prog X.w) X.A (evalPart e X.env) (fun u s' => ∃ o H', Inv X pins σ H' s' ∧ IsPart u o ∧ Q o H') X.xe s
def tNoPart : TO := fun _ H Q => Q none H
def tPart (t : TE) : TO := fun σ H Q => t σ H fun x H1 => ∃ i, x = .int i ∧ Q (some i) H1

section
variable {X : Cx} {e : Expr} {te : TE} {lo hi : Option Expr} {tl th : TO} {pos p2 : Pos}

theorem po_none : PO X none tNoPart := by
  intro pins s σ H Q I h
  rw [evalPart_none]
  exact wpAny_pure ⟨none, H, I, .none, h⟩
theorem po_some (h : PE X e te) : PO X (some e) (tPart te) := by
  intro pins s σ H Q I hw
  rw [evalPart_some]
  refine thn (h pins s σ H _ I hw) fun u s1 ⟨x, H1, I1, r1, q1⟩ => ?_
  obtain ⟨i, rfl, q⟩ := q1
  obtain ⟨t, rfl⟩ := r1
  exact ⟨some i, H1, I1, .int i t, q⟩

/-- what a slice of a value is, by values: the slice object stands at sl -/
def SlR (X : Cx) (r : V → Option Int → Option Int → Hp → VK → Prop) : Prop :=
  ∀ (pins : List (Addr × Obj)) (s : Shared) (σ : St) (H : Hp) (x : V) (v vl vu : Value) (lo hi : Option Int) (sl : Addr) (Q : VK), Inv X pins σ H s → RelV x v → s.heap.IsSliceOf sl vl vu .none → IsPart vl lo → IsPart vu hi → r x lo hi H Q →
    ∃ T id, typeLookup (.type T) "__getitem__" = pure (some (.builtin id)) ∧ s.TypeIs v T ∧ wpAny (model X.prog X.w) X.A (getItem v (.ref sl)) (EP X pins σ Q) X.xe s
def tSl (r : V → Option Int → Option Int → Hp → VK → Prop) (te : TE) (tl th : TO) : TE := fun σ H Q => te σ H fun x H1 => tl σ H1 fun l H2 => th σ H2 fun u H3 => r x l u H3 Q
/-- a[lo:hi], any a -/
theorem pe_slice {r : V → Option Int → Option Int → Hp → VK → Prop} (hr : SlR X r) (he : PE X e te) (hl : PO X lo tl) (hu : PO X hi th) : PE X (.Subscript e (.Slice lo hi none p2) pos) (tSl r te tl th) := by
  intro pins s σ H Q I h
  refine Subscript_ (thn (he pins s σ H _ I h) fun v s1 ⟨x, H1, I1, r1, q1⟩ => ?_)
  refine wpAny_Slice (thn (hl pins s1 σ H1 _ I1 q1) fun vl s2 ⟨l, H2, I2, pl, q2⟩ => thn (hu pins s2 σ H2 _ I2 q2) fun vu s3 ⟨u, H3, I3, pu, q3⟩ => ?_)
  rw [evalPart_none]
  refine wpAny_pure ?_
  have I4 : Inv X pins σ H3 { s3 with heap := s3.heap.push { cls := .type "slice", data := .fields #[vl, vu, .none] } } := I3.kept (t' := s3.toks) fun b ob q => Heap.get?_push_of_some _ q
  obtain ⟨T, id, hT, ht, hg⟩ := hr pins { s3 with heap := s3.heap.push { cls := .type "slice", data := .fields #[vl, vu, .none] } } σ H3 x v vl vu l u s3.heap.objs.size Q I4 r1 (Heap.IsSliceOf.new ..) pl pu q3
  show wpAny (model X.prog X.w) X.A (subscriptTail e (.Slice lo hi none p2) v (.ref s3.heap.objs.size)) (EP X pins σ Q) X.xe { s3 with heap := s3.heap.push { cls := .type "slice", data := .fields #[vl, vu, .none] } }
  exact tail_any (ops := [.ref s3.heap.objs.size, v]) ht hT hg (by with_unfolding_all rfl)

/-- the items of xs[lo:hi] -/
def cutV (xs : List V) (lo hi : Option Int) : List V := (xs.drop (HT.sIx xs.length 0 lo)).take (HT.sIx xs.length xs.length hi - HT.sIx xs.length 0 lo)
theorem cutV_length (xs : List V) (lo hi : Option Int) : (cutV xs lo hi).length ≤ xs.length := by
  unfold cutV
  rw [List.length_take, List.length_drop]
  omega
/-- t[lo:hi], not the whole of it (the whole would be t itself) -/
def rSlT (K : PySem.W.Frag) : V → Option Int → Option Int → Hp → VK → Prop := fun x lo hi H Q => ∃ a xs, x = .ref a ∧ SqT K H a xs ∧
  ¬ (HT.sIx xs.length 0 lo = 0 ∧ HT.sIx xs.length xs.length hi = xs.length) ∧ ∀ p, H p = none → Q (.ref p) (upd H p (.tup (cutV xs lo hi)))
/-! ### t < u, t + u -/
def rLtT (K : PySem.W.Frag) : R2 := fun x y H Q => ∃ a b ns ms, x = .ref a ∧ y = .ref b ∧ SqT K H a (ns.map V.int) ∧ SqT K H b (ms.map V.int) ∧ Q (.bl (HT.lexLt ns ms)) H
/-- t + u, t not empty: u empty gives t itself -/
def rCatT (K : PySem.W.Frag) : R2 := fun x y H Q => ∃ a b xs ys, x = .ref a ∧ y = .ref b ∧ SqT K H a xs ∧ SqT K H b ys ∧ xs ≠ [] ∧ xs.length + ys.length ≤ sizeLine ∧
  (ys = [] → Q (.ref a) H) ∧ (ys ≠ [] → ∀ p, H p = none → Q (.ref p) (upd H p (.tup (xs ++ ys))))
end
end L2

namespace L2
open PySem PySem.Spec PyProof.Rows

/-! ### places -/
/-- the place that an index of any sign means -/
def ixN (n : Nat) (i : Int) : Option Nat := if 0 ≤ i then (if i < n then some i.toNat else none) else if -(n : Int) ≤ i then some (i + n).toNat else none
def atI {α : Type} (xs : List α) (i : Int) : Option α := (ixN xs.length i).bind fun j => xs[j]?
theorem ixN_seq {n : Nat} {i : Int} {j : Nat} (h : ixN n i = some j) : seqIndex? i n = some j ∧ j < n ∧ -(n : Int) ≤ i ∧ i < n := by
  unfold ixN at h
  by_cases h0 : 0 ≤ i
  · rw [if_pos h0] at h
    by_cases h1 : i < n
    · rw [if_pos h1] at h
      have e : i.toNat = j := Option.some.inj h
      exact ⟨by rw [seqIndex_of h0 h1, e], by omega, by omega, h1⟩
    · rw [if_neg h1] at h; cases h
  · rw [if_neg h0] at h
    by_cases h1 : -(n : Int) ≤ i
    · rw [if_pos h1] at h
      have e : (i + n).toNat = j := Option.some.inj h
      exact ⟨by rw [seqIndex_neg (by omega) h1, e], by omega, h1, by omega⟩
    · rw [if_neg h1] at h; cases h
theorem atI_get {α : Type} {xs : List α} {i : Int} {v : α} (h : atI xs i = some v) : ∃ j, seqIndex? i xs.length = some j ∧ xs[j]? = some v ∧ j < xs.length ∧ -(xs.length : Int) ≤ i ∧ i < xs.length := by
  unfold atI at h
  cases e : ixN xs.length i with
  | none => rw [e] at h; cases h
  | some j =>
    rw [e] at h
    obtain ⟨h1, h2, h3, h4⟩ := ixN_seq e
    exact ⟨j, h1, h, h2, h3, h4⟩
theorem atI_nat {α : Type} {xs : List α} {j : Nat} {v : α} (h : xs[j]? = some v) : atI xs (j : Int) = some v := by
  have hj : j < xs.length := (List.getElem?_eq_some_iff.mp h).1
  have e : ixN xs.length (j : Int) = some j := by
    unfold ixN
    rw [if_pos (by omega), if_pos (by omega)]; simp
  unfold atI; rw [e]; exact h
/-! ### what may be subscripted -/
/-- what stands as an index of a plain subscript -/
def PlainIx (b : Expr) : Prop := ∀ o i, subscripted b false o i = operate [o, i] (getItem o i)
/-- a subscript by values -/
def IxR (X : Cx) (r : R2) : Prop :=
  ∀ (value slice : Expr) (pins : List (Addr × Obj)) (s : Shared) (σ : St) (H : Hp) (x y : V) (v u : Value) (Q : VK), Inv X pins σ H s → RelV x v → RelV y u → r x y H Q →
    subscripted slice false v u = operate [v, u] (getItem v u) → wpAny (model X.prog X.w) X.A (subscriptTail value slice v u) (EP X pins σ Q) X.xe s
/-- a call of a builtin's method by values: the receiver, the arguments -/
def MtR (X : Cx) (id : String) (r : V → List V → Hp → VK → Prop) : Prop :=
  ∀ (pins : List (Addr × Obj)) (s : Shared) (σ : St) (H : Hp) (x : V) (xs : List V) (v : Value) (us : List Value) (Q : VK), Inv X pins σ H s → RelV x v → Vals xs us → r x xs H Q →
    wpAny (model X.prog X.w) X.A (call (.builtin id) (v :: us)) (EP X pins σ Q) X.xe s
section
variable {X : Cx} {a b : Expr} {ta tb : TE} {pos : Pos}
/-- a[b] -/
theorem pe_ix {r : R2} (hr : IxR X r) (ha : PE X a ta) (hb : PE X b tb) (hs : PlainIx b) : PE X (.Subscript a b pos) (tOp r ta tb) := by
  intro pins s σ H Q I h
  exact Subscript_ (binT ha hb I h fun v u s2 x y H2 I2 rx ry q => hr a b pins s2 σ H2 x y v u Q I2 rx ry q (hs _ _))

def rIxL (K : PySem.W.Frag) : R2 := fun x y H Q => ∃ p xs i v, x = .ref p ∧ y = .int i ∧ SqL K H p xs ∧ atI xs i = some v ∧ Q v H
def rIxT (K : PySem.W.Frag) : R2 := fun x y H Q => ∃ p xs i v, x = .ref p ∧ y = .int i ∧ SqT K H p xs ∧ atI xs i = some v ∧ Q v H
def rIxS : R2 := fun x y H Q => ∃ z i c, x = .str z ∧ y = .int i ∧ z.length ≤ sizeLine ∧ atI z.cps.toList i = some c ∧ Q (.str ⟨#[c]⟩) H
theorem ix_list : IxR X (rIxL X.K) := by
  intro value slice pins s σ H x y v u Q I rx ry h hs
  obtain ⟨p, xs, i, z, rfl, rfl, hq, he, q⟩ := h
  cases rx
  obtain ⟨t, rfl⟩ := ry
  obtain ⟨its, r, pl, hz⟩ := I.list hq
  obtain ⟨j, h1, h2, h3, h4, h5⟩ := atI_get he
  obtain ⟨w, ew, rw'⟩ := r.get h2
  have hl := r.length
  have hn := line63
  have fin : EP X pins σ Q w s := ⟨z, H, I, rw', q⟩
  by_cases h0 : 0 ≤ i
  · have hj : i.toNat = j := by
      rw [seqIndex_of h0 h5] at h1
      exact Option.some.inj h1
    exact item_listR pl.isList h0 (by omega) (by rw [hj]; simpa using ew) fin hs
  · have hj : (i + (its.toArray.size : Int)).toNat = j := by
      rw [seqIndex_neg (by omega) h4] at h1
      rw [List.size_toArray, ← hl]
      exact Option.some.inj h1
    exact subscriptTail_builtinR (x := w) pl.isList.typeIs slot_list_getitem.lookup
      (wpAny_getItem_list_neg (Q := fun r s' => r = w ∧ EP X pins σ Q r s') pl.isList (by omega) (by rw [List.size_toArray] <;> omega) (by omega) (by rw [hj]; simpa using ew) ⟨rfl, fin⟩) hs
/-- list, tuple or str -/
def rIx (K : PySem.W.Frag) : R2 := fun x y H Q => rIxL K x y H Q ∨ rIxT K x y H Q ∨ rIxS x y H Q
/-! ### xs[i] = v, any sign -/
/-- the list's object behind a store -/
theorem mapSeq_set (its : List Value) (n j : Nat) (u : Value) : Obj.mapSeq (·.setIfInBounds j u) { cls := .type "list", data := .seq its.toArray n } = { cls := .type "list", data := .seq (its.set j u).toArray n } := by
  simp [Obj.mapSeq]
theorem Inv.lst {pins : List (Addr × Obj)} {σ : St} {H : Hp} {s : Shared} {p : Addr} {xs : List V} (I : Inv X pins σ H s) (h : H p = some (.lst xs)) :
    ∃ (its : List Value) (n : Nat), Vals xs its ∧ s.heap.get? p = some { cls := .type "list", data := .seq its.toArray n } ∧ xs.length ≤ sizeLine := by
  obtain ⟨z, its, n, r, e⟩ := I.hok p _ h
  exact ⟨its, n, r, e, z⟩
/-- the list at p is written by an update of its object -/
theorem Inv.lstUpd {pins : List (Addr × Obj)} {σ : St} {H : Hp} {s : Shared} {p : Addr} {xs ys : List V} {its its' : List Value} {n n' : Nat} {f : Obj → Obj} (I : Inv X pins σ H s) (h : H p = some (.lst xs))
    (ho : s.heap.get? p = some { cls := .type "list", data := .seq its.toArray n }) (hf : f { cls := .type "list", data := .seq its.toArray n } = { cls := .type "list", data := .seq its'.toArray n' }) (r : Vals ys its') (hz : ys.length ≤ sizeLine) (t : Nat) :
    Inv X pins σ (upd H p (.lst ys)) { s with heap := s.heap.update p f, toks := t } := by
  have e : (s.heap.update p f).get? p = some { cls := .type "list", data := .seq its'.toArray n' } := by
    rw [Heap.get?_update_self f ho (by rw [hf] <;> rfl), hf]
  refine I.write (x := p) (e := p) (by rw [h]; trivial) (.inl rfl) (fun b u hb q => (Heap.get?_update_other _ _ (Ne.symm hb)).trans q) ⟨_, e⟩ ?_
  exact ⟨hz, its', n', r, e⟩
def rSetL : V → V → V → Hp → (Hp → Prop) → Prop := fun o i v H Q => ∃ p xs k j, o = .ref p ∧ i = .int k ∧ H p = some (.lst xs) ∧ ixN xs.length k = some j ∧ Q (upd H p (.lst (xs.set j v)))
theorem set_list : PSet X rSetL := by
  intro pins s σ H o i v ov iv u Q I ro ri rv h
  obtain ⟨p, xs, k, j, rfl, rfl, hp, hj, q⟩ := h
  cases ro
  obtain ⟨t, rfl⟩ := ri
  obtain ⟨its, n, r, ho, hz⟩ := I.lst hp
  obtain ⟨h1, h2, h3, h4⟩ := ixN_seq hj
  have hl := r.length
  have hn := line63
  have I' : Inv X pins σ (upd H p (.lst (xs.set j v))) { s with heap := s.heap.update p (Obj.mapSeq (·.setIfInBounds j u)) } :=
    I.lstUpd hp ho (mapSeq_set its n j u) (r.set rv j) (by rw [List.length_set]; exact hz) s.toks
  by_cases h0 : 0 ≤ k
  · have hk : k.toNat = j := by
      rw [seqIndex_of h0 h4] at h1
      exact Option.some.inj h1
    exact PySem.W.ki_setAt ho h0 (by omega) (by rw [List.size_toArray, ← hl]; exact h4) (by rw [hk]; exact ⟨_, I', q⟩)
  · have hk : (k + (its.toArray.size : Int)).toNat = j := by
      rw [seqIndex_neg (by omega) h3] at h1
      rw [List.size_toArray, ← hl]
      exact Option.some.inj h1
    exact PySem.W.ki_setBack ho (by omega) (by rw [List.size_toArray, ← hl]; exact h3) (by omega) (by rw [hk]; exact ⟨_, I', q⟩)

/-! ### slices -/
theorem slice_bounds (lo hi : Option Int) (n : Nat) : (sliceBounds lo hi none n).1 = ((HT.sIx n 0 lo : Nat) : Int) ∧ (sliceBounds lo hi none n).2.1 = ((HT.sIx n n hi : Nat) : Int) ∧ (sliceBounds lo hi none n).2.2 = 1 := by
  refine ⟨?_, ?_, rfl⟩
  · cases lo with
    | none => simp [sliceBounds, HT.sIx]
    | some i =>
      simp only [sliceBounds, HT.sIx, Option.getD_none, show (1 : Int) > 0 by decide, if_true]
      by_cases h : i < 0
      · simp only [h, if_true] <;> omega
      · simp only [h, if_false] <;> omega
  · cases hi with
    | none => simp [sliceBounds, HT.sIx]
    | some i =>
      simp only [sliceBounds, HT.sIx, Option.getD_none, show (1 : Int) > 0 by decide, if_true]
      by_cases h : i < 0
      · simp only [h, if_true] <;> omega
      · simp only [h, if_false] <;> omega
theorem slicePick_cut (its : List Value) (lo hi : Option Int) : slicePick its.toArray lo hi none = ((its.drop (HT.sIx its.length 0 lo)).take (HT.sIx its.length its.length hi - HT.sIx its.length 0 lo)).toArray := by
  obtain ⟨h1, h2, h3⟩ := slice_bounds lo hi its.toArray.size
  unfold slicePick
  rw [h1, h2, h3]
  simp only [sliceRange_one, pick_run, List.size_toArray] <;> rfl
/-- xs[lo:hi] of a list: a new list -/
def rSlL (K : PySem.W.Frag) : V → Option Int → Option Int → Hp → VK → Prop := fun x lo hi H Q => ∃ a xs, x = .ref a ∧ SqL K H a xs ∧ ∀ p, H p = none → Q (.ref p) (upd H p (.lst (cutV xs lo hi)))
theorem sl_list : SlR X (rSlL X.K) := by
  intro pins s σ H x v vl vu lo hi sl Q I rx hs pl pu h
  obtain ⟨a, xs, rfl, hx, q⟩ := h
  cases rx
  obtain ⟨its, r, ht, hz⟩ := I.list hx
  have hlen := r.length
  refine ⟨"list", _, slot_list_getitem.lookup, ht.isList.typeIs, ?_⟩
  refine wpAny_getItem_list_slice ht.isList hs pl pu .none (by simp) ?_ (by rw [List.size_toArray] <;> omega)
  rw [slicePick_cut, ← hlen]
  refine ⟨.ref s.heap.objs.size, _, I.laid (t' := s.toks) (o := .lst (cutV xs lo hi)) (fun b ob q => Heap.get?_push_of_some _ q) (Nat.le_refl _) ?_, rfl, q _ (I.hok.fresh (Nat.le_refl _))⟩
  exact ⟨Nat.le_trans (cutV_length xs lo hi) hz, _, 0, (r.drop (HT.sIx xs.length 0 lo)).take (HT.sIx xs.length xs.length hi - HT.sIx xs.length 0 lo), Heap.get?_push_size _ rfl⟩

/-! ### in, not in: flat items -/
def flatV : V → Bool
  | .non => true
  | .bl _ => true
  | .int _ => true
  | .str _ => true
  | _ => false
/-- == of flat values -/
def eqV : V → V → Bool
  | .non, .non => true
  | .bl a, .bl b => a == b
  | .bl a, .int b => (if a then 1 else 0) == b
  | .int a, .bl b => a == (if b then 1 else 0)
  | .int a, .int b => a == b
  | .str a, .str b => a == b
  | _, _ => false
theorem eqAt_V {A : Around} {s : Shared} {y x : V} {u v : Value} (ry : RelV y u) (rx : RelV x v) (fy : flatV y = true) (fx : flatV x = true) : SeqAt.EqAt A s u v (eqV y x) := by
  cases y with
  | non =>
    cases ry
    cases x with
    | non => cases rx; exact SeqAt.EqAt.same _
    | bl b => cases rx; exact SeqAt.EqAt.none_bool b
    | int b => obtain ⟨t, rfl⟩ := rx; exact SeqAt.EqAt.none_int b t
    | str b => obtain ⟨t, rfl⟩ := rx; exact SeqAt.EqAt.none_str b t
    | _ => exact absurd (show false = true from fx) Bool.false_ne_true
  | bl a =>
    cases ry
    cases x with
    | non => cases rx; exact SeqAt.EqAt.bool_none a
    | bl b => cases rx; exact SeqAt.EqAt.bool_bool a b
    | int b => obtain ⟨t, rfl⟩ := rx; exact SeqAt.EqAt.bool_int a b t
    | str b => obtain ⟨t, rfl⟩ := rx; exact SeqAt.EqAt.bool_str a b t
    | _ => exact absurd (show false = true from fx) Bool.false_ne_true
  | int a =>
    obtain ⟨t', rfl⟩ := ry
    cases x with
    | non => cases rx; exact SeqAt.EqAt.int_none a t'
    | bl b => cases rx; exact SeqAt.EqAt.int_bool a t' b
    | int b => obtain ⟨t, rfl⟩ := rx; exact SeqAt.EqAt.int_int a t' b t
    | str b => obtain ⟨t, rfl⟩ := rx; exact SeqAt.EqAt.int_str a t' b t
    | _ => exact absurd (show false = true from fx) Bool.false_ne_true
  | str a =>
    obtain ⟨t', rfl⟩ := ry
    cases x with
    | non => cases rx; exact SeqAt.EqAt.str_none a t'
    | bl b => cases rx; exact SeqAt.EqAt.str_bool a t' b
    | int b => obtain ⟨t, rfl⟩ := rx; exact SeqAt.EqAt.str_int a t' b t
    | str b => obtain ⟨t, rfl⟩ := rx; exact SeqAt.EqAt.str_str a t' b t
    | _ => exact absurd (show false = true from fx) Bool.false_ne_true
  | _ => exact absurd (show false = true from fy) Bool.false_ne_true
/-- the items' answers, read off the values (a value's own answer does not lean on its token) -/
def eqU (x : V) (u : Value) : Bool := match u with
  | .none => eqV .non x
  | .bool b => eqV (.bl b) x
  | .int i _ => eqV (.int i) x
  | .str z _ => eqV (.str z) x
  | _ => false
theorem eqU_of {x y : V} {u : Value} (r : RelV y u) (f : flatV y = true) : eqU x u = eqV y x := by
  cases y with
  | non => cases r; rfl
  | bl b => cases r; rfl
  | int i => obtain ⟨t, rfl⟩ := r; rfl
  | str z => obtain ⟨t, rfl⟩ := r; rfl
  | _ => exact absurd (show false = true from f) Bool.false_ne_true
theorem any_eqU {x : V} : ∀ {xs : List V} {us : List Value}, Vals xs us → xs.all flatV = true → us.any (eqU x) = xs.any fun y => eqV y x
  | _, _, .nil, _ => rfl
  | y :: xs, u :: us, .cons r t, f => by
    rw [List.all_cons, Bool.and_eq_true] at f
    rw [List.any_cons, List.any_cons, eqU_of r f.1, any_eqU t f.2]
theorem mem_eqAt {A : Around} {s : Shared} {x : V} {v : Value} (rx : RelV x v) (fx : flatV x = true) : ∀ {xs : List V} {us : List Value}, Vals xs us → xs.all flatV = true → ∀ u ∈ us, SeqAt.EqAt A s u v (eqU x u)
  | _, _, .nil, _ => fun u hu => by cases hu
  | y :: xs, u :: us, .cons r t, f => fun u' hu => by
    rw [List.all_cons, Bool.and_eq_true] at f
    rcases List.mem_cons.mp hu with rfl | hu
    · rw [eqU_of r f.1]; exact eqAt_V r rx f.1 fx
    · exact mem_eqAt rx fx t f.2 u' hu
def inV (x : V) (xs : List V) : Bool := xs.any fun y => eqV y x
/-- x in a list or tuple of flat items -/
def rIn (K : PySem.W.Frag) (neg : Bool) : R2 := fun x y H Q => ∃ p xs, y = .ref p ∧ (SqL K H p xs ∨ SqT K H p xs) ∧ flatV x = true ∧ xs.all flatV = true ∧ Q (.bl (if neg then !inV x xs else inV x xs)) H
theorem op_in_seq : OpR X (compareOp .In) (rIn X.K false) := by
  intro pins s σ H x y v u Q I rx ry h
  obtain ⟨p, xs, rfl, hq, fx, fs, q⟩ := h
  cases ry
  rcases hq with hq | hq
  · obtain ⟨its, r, pl, hz⟩ := I.list hq
    refine SeqAt.in_listAt (eqU x) pl.isList (fun w hw => mem_eqAt rx fx r fs w (by simpa using hw)) ⟨.bl _, H, I, rfl, ?_⟩
    rw [show its.toArray.any (eqU x) = its.any (eqU x) by simp, any_eqU r fs]
    exact q
  · obtain ⟨its, r, pl, hz⟩ := I.tuple hq
    refine SeqAt.in_tupleAt (eqU x) pl (fun w hw => mem_eqAt rx fx r fs w (by simpa using hw)) ⟨.bl _, H, I, rfl, ?_⟩
    rw [show its.toArray.any (eqU x) = its.any (eqU x) by simp, any_eqU r fs]
    exact q
theorem op_notIn_seq : OpR X (compareOp .NotIn) (rIn X.K true) := by
  intro pins s σ H x y v u Q I rx ry h
  obtain ⟨p, xs, rfl, hq, fx, fs, q⟩ := h
  cases ry
  rcases hq with hq | hq
  · obtain ⟨its, r, pl, hz⟩ := I.list hq
    refine SeqAt.notIn_listAt (eqU x) pl.isList (fun w hw => mem_eqAt rx fx r fs w (by simpa using hw)) ⟨.bl _, H, I, rfl, ?_⟩
    rw [show its.toArray.any (eqU x) = its.any (eqU x) by simp, any_eqU r fs]
    exact q
  · obtain ⟨its, r, pl, hz⟩ := I.tuple hq
    refine SeqAt.notIn_tupleAt (eqU x) pl (fun w hw => mem_eqAt rx fx r fs w (by simpa using hw)) ⟨.bl _, H, I, rfl, ?_⟩
    rw [show its.toArray.any (eqU x) = its.any (eqU x) by simp, any_eqU r fs]
    exact q
/-! ### len, list(x), tuple(x) of any list or tuple that is read -/
theorem call_len_seq : CallR X (.builtin "len") (fun xs H Q => ∃ p ys, xs = [.ref p] ∧ (SqL X.K H p ys ∨ SqT X.K H p ys) ∧ Q (.int ys.length) H) := by
  intro pins s σ H xs us Q I r h
  obtain ⟨p, ys, rfl, hq, q⟩ := h
  obtain ⟨u, rfl, rx⟩ := vals1 r
  cases rx
  have hn := line63
  rcases hq with hq | hq
  · obtain ⟨its, r', pl, hz⟩ := I.list hq
    have hlen := r'.length
    exact Calls.call_len_list pl.isList (by simp only [List.size_toArray] <;> omega) ⟨.int ys.length, H, I.tok _, ⟨s.toks + 1, by rw [List.size_toArray, hlen]⟩, q⟩
  · obtain ⟨its, r', pl, hz⟩ := I.tuple hq
    have hlen := r'.length
    exact len_tuple pl (by simp only [List.size_toArray] <;> omega) ⟨.int ys.length, H, I.tok _, ⟨s.toks + 1, by rw [List.size_toArray, hlen]⟩, q⟩
theorem call_list_of : CallR X (.type "list") (fun xs H Q => ∃ p ys, xs = [.ref p] ∧ (SqL X.K H p ys ∨ SqT X.K H p ys) ∧ ∀ l, H l = none → Q (.ref l) (upd H l (.lst ys))) := by
  intro pins s σ H xs us Q I r h
  obtain ⟨p, ys, rfl, hq, q⟩ := h
  obtain ⟨u, rfl, rx⟩ := vals1 r
  cases rx
  have fin : ∀ (its : List Value), Vals ys its → ys.length ≤ sizeLine → ∀ (h' : Heap) (c' : Nat), (∀ b o', s.heap.get? b = some o' → h'.get? b = some o') →
      h'.get? s.heap.objs.size = some { cls := .type "list", dict := none, data := .seq its.toArray c', slots := #[] } → EP X pins σ Q (.ref s.heap.objs.size) { s with heap := h' } := fun its r' hz h' c' kp e =>
    ⟨.ref s.heap.objs.size, _, I.laid (t' := s.toks) kp (Nat.le_refl _) (show ObjOk X.prog X.w _ h' _ (.lst ys) from ⟨hz, its, c', r', e⟩), rfl, q _ (I.hok.fresh (Nat.le_refl _))⟩
  rcases hq with hq | hq
  · obtain ⟨its, r', pl, hz⟩ := I.list hq
    have hlen := r'.length
    obtain ⟨o, ho, hc, n, hd⟩ := pl.isList
    exact call_list_seq p (.inl rfl) ho hc hd (fun h' c' kp e => fin its r' hz h' c' kp e) (by simp only [List.size_toArray] <;> omega)
  · obtain ⟨its, r', pl, hz⟩ := I.tuple hq
    have hlen := r'.length
    obtain ⟨o, ho, hc, n, hd⟩ := pl
    exact call_list_seq p (.inr rfl) ho hc hd (fun h' c' kp e => fin its r' hz h' c' kp e) (by simp only [List.size_toArray] <;> omega)
/-! ### the call of a builtin's method: o.m(..) -/
/-- the value is of that builtin type -/
def tyV (K : PySem.W.Frag) (T : String) (x : V) (H : Hp) : Prop := match x with
  | .str _ => T = "str"
  | .int _ => T = "int"
  | .ref p => (T = "list" ∧ ∃ xs, SqL K H p xs) ∨ (T = "tuple" ∧ ∃ o, K.lookup p = some o ∧ o.cls = .type "tuple" ∧ o.dict = none) ∨
      (T = "dict" ∧ ((∃ kvs, H p = some (.dK kvs)) ∨ ∃ kvs, H p = some (.dT kvs))) ∨ (T = "set" ∧ ∃ S n, H p = some (.set S n))
  | _ => False
theorem tyV_is {pins : List (Addr × Obj)} {σ : St} {H : Hp} {s : Shared} {T : String} {x : V} {v : Value} (I : Inv X pins σ H s) (r : RelV x v) (ty : tyV X.K T x H) :
    s.TypeIs v T ∧ ∀ a, v = .ref a → ∃ ob, s.heap.get? a = some ob ∧ ob.dict = none := by
  cases x with
  | str z =>
    obtain ⟨t, rfl⟩ := r
    cases (show T = "str" from ty)
    exact ⟨typeIs_str s z t, fun _ e => nomatch e⟩
  | int i =>
    obtain ⟨t, rfl⟩ := r
    cases (show T = "int" from ty)
    exact ⟨typeIs_int s i t, fun _ e => nomatch e⟩
  | ref p =>
    cases r
    rcases ty with ⟨rfl, xs, hq⟩ | ⟨rfl, o, hk, hc, hd⟩ | ⟨rfl, hk⟩ | ⟨rfl, S, n, hk⟩
    · obtain ⟨its, _, pl, _⟩ := I.list hq
      refine ⟨pl.isList.typeIs, fun a e => ?_⟩
      cases e
      obtain ⟨o, n, e, c, hd, _⟩ := pl
      exact ⟨o, e, hd⟩
    · refine ⟨⟨o, I.kIn p o hk, hc⟩, fun a e => ?_⟩
      cases e
      exact ⟨o, I.kIn _ o hk, hd⟩
    · have z : ∃ o, s.heap.get? p = some o ∧ o.ExactDict := by
        rcases hk with ⟨kvs, hk⟩ | ⟨kvs, hk⟩
        · obtain ⟨_, _, _, _, o, _, _, e, ex, _⟩ := I.hok p _ hk
          exact ⟨o, e, ex⟩
        · obtain ⟨_, _, _, _, o, _, _, e, ex, _⟩ := I.hok p _ hk
          exact ⟨o, e, ex⟩
      obtain ⟨o, e, ex⟩ := z
      refine ⟨⟨o, e, ex.1⟩, fun a e2 => ?_⟩
      cases e2
      exact ⟨o, e, ex.2.1⟩
    · obtain ⟨o, _, _, _, e, ex, _⟩ := I.hok p _ hk
      refine ⟨⟨o, e, ex.1⟩, fun a e2 => ?_⟩
      cases e2
      exact ⟨o, e, ex.2.1⟩
  | _ => exact False.elim ty
def tBM0 (K : PySem.W.Frag) (T : String) (r : V → List V → Hp → VK → Prop) (to : TE) : TE := fun σ H Q => to σ H fun x H1 => tyV K T x H1 ∧ r x [] H1 Q
def tBM (K : PySem.W.Frag) (T : String) (r : V → List V → Hp → VK → Prop) (to : TE) (t : TA) : TE := fun σ H Q => to σ H fun x H1 => tyV K T x H1 ∧ t σ H1 fun xs H2 => r x xs H2 Q
variable {o e : Expr} {es : List Expr} {to : TE} {t : TA} {name : Str} {apos cpos : Pos} {T id : String} {r : V → List V → Hp → VK → Prop}
theorem pe_bm0 (pa : PlainAttrs T) (slot : Slot T name id) (hty : typeOf (.builtin id) = pure (.type "method_descriptor")) (hm : MtR X id r) (ho : PE X o to)
    (hbase : attributeBase o name X.env (eval o X.env) = eval o X.env := by rfl) (hline : (apos.endLine == cpos.line) = true := by rfl) : PE X (.Call (.Attribute o name apos) [] [] cpos) (tBM0 X.K T r to) := by
  intro pins s σ H Q I h
  refine wpAny_Call_method0_late hbase hline (thn (ho pins s σ H _ I h) fun v s1 ⟨x, H1, I1, r1, ty, q1⟩ => ?_)
  obtain ⟨h1, h2⟩ := tyV_is I1 r1 ty
  exact ⟨T, id, pa, slot, hty, h1, h2, Calls.callWith_builtin rfl (PySem.evalArgs_none (hm pins s1 σ H1 x [] v [] Q I1 r1 .nil q1))⟩
theorem pe_bm (pa : PlainAttrs T) (slot : Slot T name id) (hty : typeOf (.builtin id) = pure (.type "method_descriptor")) (hm : MtR X id r) (ho : PE X o to) (ha : PA X (e :: es) t)
    (hbase : attributeBase o name X.env (eval o X.env) = eval o X.env := by rfl)
    (hfew : ((backTo cpos (starEach (e :: es) X.env)).all (fun x => !x.1) && (backToKw cpos (keywordEach [] X.env)).all (fun x => x.1.isSome)
      && decide ((e :: es).length + ([] : List Keyword).length + (if ([] : List Keyword).isEmpty then 0 else 1) < 30)) = true := by rfl)
    (hline : (apos.endLine == cpos.line) = true := by rfl) (hs : starEach (e :: es) X.env = (false, eval e X.env) :: starEach es X.env := by rfl) (hplain : (backTo cpos (starEach es X.env)).any (·.1) = false := by rfl) :
    PE X (.Call (.Attribute o name apos) (e :: es) [] cpos) (tBM X.K T r to t) := by
  intro pins s σ H Q I h
  refine wpAny_Call_method_late hbase hfew hline rfl (thn (ho pins s σ H _ I h) fun v s1 ⟨x, H1, I1, r1, ty, q1⟩ => ?_)
  obtain ⟨h1, h2⟩ := tyV_is I1 r1 ty
  refine ⟨T, id, pa, slot, hty, h1, h2, ?_⟩
  have hA := ha cpos pins s1 σ H1 _ I1 q1
  rw [hs] at hA ⊢
  refine Calls.callWith_builtin (by show (false || (backTo cpos (starEach es X.env)).any (·.1)) = false; rw [hplain] <;> rfl) (Calls.evalArgs_plain ?_)
  exact thn hA fun us s2 ⟨vs, H2, I2, r2, q2⟩ => hm pins s2 σ H2 x vs v us Q I2 r1 r2 q2
/- xs.append(e), list.index on a module's tuple .. are MtR facts of 06m -/
end
end L2

namespace L2
open PySem PySem.Spec PyProof.Rows

def MtM (X : Cx) (id : String) (r : V → List V → Hp → VK → Prop) : Prop :=
  ∀ (pins : List (Addr × Obj)) (s : Shared) (σ : St) (H : Hp) (x : V) (xs : List V) (v : Value) (us : List Value) (Q : VK), Inv X pins σ H s → RelV x v → Vals xs us → r x xs H Q →
    wpAny (model X.prog X.w) X.A (call (.builtin id) (v :: us)) (EP X pins σ Q) X.xe s

/-! ### lists of values -/
theorem Vals.one : ∀ {x : V} {us : List Value}, Vals [x] us → ∃ u, us = [u] ∧ RelV x u
  | _, _, .cons r .nil => ⟨_, rfl, r⟩
theorem Vals.zero : ∀ {us : List Value}, Vals [] us → us = []
  | _, .nil => rfl
theorem Vals.rep {xs : List V} {us : List Value} (h : Vals xs us) : ∀ k : Nat, Vals (List.replicate k xs).flatten (List.replicate k us).flatten
  | 0 => .nil
  | k + 1 => by
    rw [List.replicate_succ, List.replicate_succ, List.flatten_cons, List.flatten_cons]
    exact Vals.append h (Vals.rep h k)
theorem foldl_rep (its : List Value) : ∀ (k : Nat) (acc : List Value),
    List.foldl (fun x1 x2 => x1 ++ x2) acc.toArray (List.replicate k its.toArray) = (acc ++ (List.replicate k its).flatten).toArray
  | 0, acc => by simp
  | k + 1, acc => by
    have e : acc.toArray ++ its.toArray = (acc ++ its).toArray := by simp
    have e2 : (acc ++ its) ++ (List.replicate k its).flatten = acc ++ (List.replicate (k + 1) its).flatten := by
      rw [List.replicate_succ, List.flatten_cons, List.append_assoc]
    rw [← e2, ← foldl_rep its k (acc ++ its), ← e, List.replicate_succ, List.foldl_cons]

section
variable {X : Cx} {pins : List (Addr × Obj)} {σ : St} {H : Hp} {s : Shared} {l b : Addr} {xs ys zs : List V}

/-! ### the two steps: a tracked list is rewritten, a new list is laid -/
theorem Inv.lset {its its' : List Value} {n : Nat} {f : Array Value → Array Value} {t' : Nat} (I : Inv X pins σ H s) (hH : H l = some (.lst xs))
    (e : s.heap.get? l = some { cls := .type "list", data := .seq its.toArray n }) (hf : f its.toArray = its'.toArray) (hv : Vals ys its') (hz : ys.length ≤ sizeLine) :
    Inv X pins σ (upd H l (.lst ys)) { s with heap := s.heap.update l (Obj.mapSeq f), toks := t' } := by
  have q := PySem.IsL.update e f
  rw [hf] at q
  refine I.write (x := l) (e := l) (by rw [hH]; exact trivial) (.inl rfl) (fun b' u hb hu => (Heap.get?_update_other s.heap (Obj.mapSeq f) (Ne.symm hb)).trans hu) ⟨_, q⟩ ?_
  exact ⟨hz, its', _, hv, q⟩
theorem Inv.lnew {its : List Value} {t' : Nat} (I : Inv X pins σ H s) (hv : Vals ys its) (hz : ys.length ≤ sizeLine) :
    Inv X pins σ (upd H s.heap.objs.size (.lst ys)) { s with heap := s.heap.push { cls := .type "list", data := .seq its.toArray }, toks := t' } :=
  I.laid (fun _ _ q => Heap.get?_push_of_some _ q) (Nat.le_refl _) ⟨hz, its, 0, hv, Heap.get?_push_size _ rfl⟩
theorem Inv.fresh (I : Inv X pins σ H s) : H s.heap.objs.size = none := I.hok.fresh (Nat.le_refl _)
theorem Inv.lstM (I : Inv X pins σ H s) (hH : H l = some (.lst xs)) : xs.length ≤ sizeLine ∧ ∃ (its : List Value) (n : Nat), Vals xs its ∧ xs.length = its.length ∧ s.heap.get? l = some { cls := .type "list", data := .seq its.toArray n } := by
  obtain ⟨z, its, n, r, e⟩ := I.hok l _ hH
  exact ⟨z, its, n, r, r.length, e⟩

theorem notLongL {n : Nat} (h : n ≤ sizeLine) : Builtin.List.listTooLong n = false := by
  unfold Builtin.List.listTooLong
  exact decide_eq_false (by omega)
end

section
variable {X : Cx}

/-! ### methods -/
def rAppend : V → List V → Hp → VK → Prop := fun x vs H Q => ∃ l xs y, x = .ref l ∧ vs = [y] ∧ H l = some (.lst xs) ∧ xs.length < sizeLine ∧ Q .non (upd H l (.lst (xs ++ [y])))
theorem mt_append : MtM X "list.append" rAppend := by
  intro pins s σ H x vs v us Q I rx rv h
  obtain ⟨l, xs, y, rfl, rfl, hH, hz, q⟩ := h
  cases rx
  obtain ⟨u, rfl, ru⟩ := rv.one
  obtain ⟨z, its, n, r, hl, e⟩ := I.lstM hH
  refine call_meets F.slot_list_append ⟨_, e, rfl⟩ F.entry_list_append (F.args_list_append_2 _ _) (PySem.list_append l its.toArray n u (by rw [List.size_toArray]; omega)) ⟨e, ?_⟩
  refine ⟨.non, _, I.lset (its' := its ++ [u]) hH e (by simp) (r.append (.cons ru .nil)) ?_, rfl, q⟩
  rw [List.length_append, List.length_singleton]
  omega

def rExtend : V → List V → Hp → VK → Prop := fun x vs H Q => ∃ l b xs zs, x = .ref l ∧ vs = [.ref b] ∧ H l = some (.lst xs) ∧ H b = some (.lst zs) ∧ xs.length + zs.length ≤ sizeLine ∧ Q .non (upd H l (.lst (xs ++ zs)))
def rPop : V → List V → Hp → VK → Prop := fun x vs H Q => ∃ l xs y, x = .ref l ∧ vs = [] ∧ H l = some (.lst xs) ∧ xs[xs.length - 1]? = some y ∧ Q y (upd H l (.lst xs.dropLast))
def rPopAt : V → List V → Hp → VK → Prop := fun x vs H Q => ∃ l xs i k y, x = .ref l ∧ vs = [.int i] ∧ H l = some (.lst xs) ∧ -(2 ^ 63) ≤ i ∧ i < 2 ^ 63 ∧ seqIndex? i xs.length = some k ∧ xs[k]? = some y ∧ Q y (upd H l (.lst (xs.eraseIdx k)))
def rReverse : V → List V → Hp → VK → Prop := fun x vs H Q => ∃ l xs, x = .ref l ∧ vs = [] ∧ H l = some (.lst xs) ∧ Q .non (upd H l (.lst xs.reverse))
def rClear : V → List V → Hp → VK → Prop := fun x vs H Q => ∃ l xs, x = .ref l ∧ vs = [] ∧ H l = some (.lst xs) ∧ Q .non (upd H l (.lst []))
theorem mt_clear : MtM X "list.clear" rClear := by
  intro pins s σ H x vs v us Q I rx rv h
  obtain ⟨l, xs, rfl, rfl, hH, q⟩ := h
  cases rx
  have hus := rv.zero
  subst hus
  obtain ⟨z, its, n, r, hl, e⟩ := I.lstM hH
  refine call_meets F.slot_list_clear ⟨_, e, rfl⟩ F.entry_list_clear (F.args_list_clear_1 _) (AutoSeq1.list_clear_list_0 l its.toArray n (by rw [List.size_toArray]; omega)) ⟨e, ?_⟩
  exact ⟨.non, _, I.lset (its' := []) (ys := []) hH e rfl .nil (Nat.zero_le _), rfl, q⟩

/-! ### list + list, list += list, list * int -/
def rCat : R2 := fun x y H Q => ∃ l b xs zs, x = .ref l ∧ y = .ref b ∧ H l = some (.lst xs) ∧ H b = some (.lst zs) ∧ xs.length + zs.length ≤ sizeLine ∧ ∀ p, H p = none → Q (.ref p) (upd H p (.lst (xs ++ zs)))
theorem op_cat : OpR X (binaryOp .Add) rCat := by
  intro pins s σ H x y v u Q I rx ry h
  obtain ⟨l, b, xs, zs, rfl, rfl, hH, hB, hz, q⟩ := h
  cases rx
  cases ry
  obtain ⟨z, its, n, r, hl, e⟩ := I.lstM hH
  obtain ⟨z2, its2, n2, r2, hl2, e2⟩ := I.lstM hB
  refine PySem.P.add_list e e2 ?_ (by rw [List.size_toArray, List.size_toArray]; omega)
  have ea : its.toArray ++ its2.toArray = (its ++ its2).toArray := by simp
  rw [ea]
  exact ⟨.ref _, _, I.lnew (t' := s.toks) (r.append r2) (by rw [List.length_append]; omega), rfl, q _ I.fresh⟩
/-- a list times an int (a negative one is nothing) -/
def rRep : R2 := fun x y H Q => ∃ l k xs, x = .ref l ∧ y = .int k ∧ H l = some (.lst xs) ∧ -(2 ^ 63) ≤ k ∧ k < 2 ^ 63 ∧ xs.length * k.toNat ≤ sizeLine ∧
  ∀ p, H p = none → Q (.ref p) (upd H p (.lst (List.replicate k.toNat xs).flatten))
theorem len_rep {α : Type} (xs : List α) (k : Nat) : (List.replicate k xs).flatten.length = k * xs.length := by
  induction k with
  | zero => simp
  | succ k ih => rw [List.replicate_succ, List.flatten_cons, List.length_append, ih, Nat.succ_mul, Nat.add_comm]
theorem op_rep : OpR X (binaryOp .Mult) rRep := by
  intro pins s σ H x y v u Q I rx ry h
  obtain ⟨l, k, xs, rfl, rfl, hH, h1, h2, hz, q⟩ := h
  cases rx
  obtain ⟨t, rfl⟩ := ry
  obtain ⟨z, its, n, r, hl, e⟩ := I.lstM hH
  have hlen : its.toArray.size * k.toNat ≤ sizeLine := by rw [List.size_toArray, ← hl]; exact hz
  have hcap : ¬ its.toArray.size * k.toNat > (2 ^ 63 - 1) / 8 := by
    have : (sizeLine : Nat) ≤ (2 ^ 63 - 1) / 8 := by decide
    omega
  have hfit : ¬ (!Builtin.List.listFitsIndex k) = true := by
    rw [fitsIndex_both h1 h2]
    exact Bool.false_ne_true
  have hlong : ¬ Builtin.List.listTooLong (its.toArray.size * k.toNat) = true := by
    rw [notLongL hlen]
    exact Bool.false_ne_true
  have hnew : List.foldl (fun x1 x2 => x1 ++ x2) #[] (List.replicate (if its.toArray.isEmpty = true then 0 else k.toNat) its.toArray) = (List.replicate k.toNat its).flatten.toArray := by
    have f0 : ∀ m : Nat, List.foldl (fun x1 x2 => x1 ++ x2) #[] (List.replicate m its.toArray) = (List.replicate m its).flatten.toArray := fun m => by
      have := foldl_rep its m []
      rw [List.nil_append] at this
      exact this
    rw [f0]
    cases its with
    | nil => simp
    | cons a r' => rw [if_neg (by simp)]
  refine wpAny_binaryOp_repeat_ref (T := "list") (U := "int") (by decide) ⟨_, e, rfl⟩ (fun s' => typeIs_int s' k t) noFill_list_mul F.fills_int_mul F.slot_int_rmul repeat_list F.slot_int_index.lookup
    (call_meets F.slot_int_rmul (typeIs_int s k t) F.entry_int_rmul (F.args_int_rmul_2 _ _) (int___rmul___int_list k t l its.toArray n)
      ⟨e, rfl, ⟨_, e, rfl⟩, call_meets F.slot_list_mul ⟨_, e, rfl⟩ F.entry_list_mul (F.args_list_mul_2 _ _) (AutoListH.list___mul___list_int_3 l its.toArray n k t hfit hcap hlong) ⟨e, ?_⟩⟩)
  rw [hnew]
  exact ⟨.ref _, _, I.lnew (t' := s.toks) (r.rep k.toNat) (by rw [len_rep, Nat.mul_comm]; exact hz), rfl, q _ I.fresh⟩

/-! ### del xs[i] -/
end

/-! ### xs[a:b] = ys -/
section
variable {prog : Program} {w : World} {A : Around} {E : Value → Shared → Prop} {s : Shared}
set_option maxRecDepth 100000 in
end

section
variable {X : Cx}
end
end L2


namespace L2
open PySem PySem.Spec PyProof.Rows

/-! ### lists of pairs as tables -/
section
variable {κ : Type} [DecidableEq κ]
def valV (kvs : List (κ × V)) (k : κ) : Option V := (kvs.find? fun kv => decide (kv.1 = k)).map (·.2)
/-- in its place, or at the end -/
def putK (kvs : List (κ × V)) (k : κ) (v : V) : List (κ × V) :=
  if (kvs.any fun kv => decide (kv.1 = k)) = true then kvs.map (fun kv => if kv.1 = k then (kv.1, v) else kv) else kvs ++ [(k, v)]
def dropK (kvs : List (κ × V)) (k : κ) : List (κ × V) := kvs.filter fun kv => decide (kv.1 ≠ k)

theorem valV_pos {p : κ × V} {r : List (κ × V)} {k : κ} (e : p.1 = k) : valV (p :: r) k = some p.2 := by simp [valV, List.find?_cons, e]
theorem valV_neg {p : κ × V} {r : List (κ × V)} {k : κ} (e : ¬ p.1 = k) : valV (p :: r) k = valV r k := by simp [valV, List.find?_cons, e]
theorem valV_any (k : κ) : ∀ kvs : List (κ × V), (kvs.any fun kv => decide (kv.1 = k)) = (valV kvs k).isSome
  | [] => rfl
  | p :: r => by
    rw [List.any_cons]
    by_cases e : p.1 = k
    · simp only [valV_pos e, decide_eq_true e, Bool.true_or, Option.isSome_some]
    · rw [valV_neg e, decide_eq_false e, Bool.false_or]; exact valV_any k r
theorem length_putK (kvs : List (κ × V)) (k : κ) (v : V) : (putK kvs k v).length ≤ kvs.length + 1 := by
  unfold putK
  split
  · rw [List.length_map]; omega
  · rw [List.length_append, List.length_cons, List.length_nil]; omega
theorem putK_new {kvs : List (κ × V)} {k : κ} (v : V) (h : valV kvs k = none) : putK kvs k v = kvs ++ [(k, v)] := by
  unfold putK
  rw [valV_any, h]
  exact if_neg (by decide)

theorem RelO.isSome_eq {o : Option V} {u : Option Value} (r : RelO o u) : o.isSome = u.isSome := by
  cases o with
  | none => cases u with
    | none => rfl
    | some _ => exact (show False from r).elim
  | some _ => cases u with
    | none => exact (show False from r).elim
    | some _ => rfl
theorem KV.any {kvs : List (κ × V)} {vs : List (κ × Value)} (r : KV kvs vs) (k : κ) : (kvs.any fun kv => decide (kv.1 = k)) = vs.any fun kv => decide (kv.1 = k) := by
  unfold KV at r
  induction r with
  | nil => rfl
  | cons h t ih => rw [List.any_cons, List.any_cons, ih, h.1]
theorem KV.repl {kvs : List (κ × V)} {vs : List (κ × Value)} (r : KV kvs vs) (k : κ) {y : V} {u : Value} (ry : RelV y u) :
    KV (kvs.map fun kv => if kv.1 = k then (kv.1, y) else kv) (vs.map fun kv => if kv.1 = k then (kv.1, u) else kv) := by
  unfold KV at r ⊢
  induction r with
  | nil => exact .nil
  | @cons p q ps qs h t ih =>
    rw [List.map_cons, List.map_cons]
    refine .cons ?_ ih
    obtain ⟨h1, h2⟩ := h
    by_cases e : p.1 = k
    · rw [if_pos e, if_pos (h1.symm.trans e)]; exact ⟨h1, ry⟩
    · rw [if_neg e, if_neg (fun z => e (h1.trans z))]; exact ⟨h1, h2⟩
theorem KV.put {kvs : List (κ × V)} {vs : List (κ × Value)} (r : KV kvs vs) (k : κ) {y : V} {u : Value} (ry : RelV y u) : KV (putK kvs k y) (stored vs k u) := by
  unfold putK stored
  rw [r.any k]
  by_cases e : (vs.any fun kv => decide (kv.1 = k)) = true
  · rw [if_pos e, if_pos e]; exact r.repl k ry
  · rw [if_neg e, if_neg e]; exact Paired.snoc r ⟨rfl, ry⟩
theorem KV.keys {kvs : List (κ × V)} {vs : List (κ × Value)} (r : KV kvs vs) : kvs.map (·.1) = vs.map (·.1) := by
  unfold KV at r
  induction r with
  | nil => rfl
  | cons h t ih => rw [List.map_cons, List.map_cons, ih, h.1]
theorem KV.length {kvs : List (κ × V)} {vs : List (κ × Value)} (r : KV kvs vs) : kvs.length = vs.length := Paired.length r
end


/-! ### a tracked dict, its keys ints and texts or tuples of these -/
theorem kV_is {P : Program} {w : World} {k : Key} {u : Value} (r : RelV (kV k) u) : (mixKind P w).is k u = true := by
  cases k with
  | inl i => obtain ⟨t, e⟩ := (show ∃ t, u = Value.int i t from r); subst e; exact mixKind_int P w i t
  | inr x => obtain ⟨t, e⟩ := (show ∃ t, u = Value.str x t from r); subst e; exact mixKind_str P w x t
theorem items_are {P : Program} {w : World} : ∀ {ks : List Key} {us : List Value}, Vals (ks.map kV) us → ItemsAre (mixKind P w) ks us
  | [], _, r => by rw [List.map_nil] at r; cases r; exact .nil
  | k :: ks, _, r => by
    rw [List.map_cons] at r
    cases r with
    | cons h t => exact .cons (kV_is h) (items_are t)

/-- raw entries of a dict with tuple keys -/
abbrev KT (H : Hp) : List (List Key × V) → List (List Key × Addr × Value) → Prop := Paired fun p q => p.1 = q.1 ∧ H q.2.1 = some (.tup (p.1.map kV)) ∧ RelV p.2 q.2.2
theorem KT.val {H : Hp} {kvs : List (List Key × V)} {xs : List (List Key × Addr × Value)} (r : KT H kvs xs) (k : List Key) : RelO (valV kvs k) ((atKey xs k).map (·.2)) := by
  induction r with
  | nil => exact True.intro
  | @cons p q ps qs h t ih =>
    obtain ⟨h1, _, h2⟩ := h
    by_cases e : p.1 = k
    · have e' : q.1 = k := h1.symm.trans e
      have b : atKey (q :: qs) k = some q.2 := by simp [atKey, List.find?_cons, e']
      rw [valV_pos e, b]; exact h2
    · have e' : ¬ q.1 = k := fun z => e (h1.trans z)
      have b : atKey (q :: qs) k = atKey qs k := by simp [atKey, List.find?_cons, e']
      rw [valV_neg e, b]; exact ih
theorem KT.repl {H : Hp} {kvs : List (List Key × V)} {xs : List (List Key × Addr × Value)} (r : KT H kvs xs) (k : List Key) {y : V} {u : Value} (ry : RelV y u) :
    KT H (kvs.map fun kv => if kv.1 = k then (kv.1, y) else kv) (xs.map (putAt k u)) := by
  induction r with
  | nil => exact .nil
  | @cons p q ps qs h t ih =>
    rw [List.map_cons, List.map_cons]
    refine .cons ?_ ih
    obtain ⟨h1, h2, h3⟩ := h
    unfold putAt
    by_cases e : p.1 = k
    · rw [if_pos e, if_pos (h1.symm.trans e)]; exact ⟨h1, h2, ry⟩
    · rw [if_neg e, if_neg (fun z => e (h1.trans z))]; exact ⟨h1, h2, h3⟩
theorem KT.put {H : Hp} {kvs : List (List Key × V)} {xs : List (List Key × Addr × Value)} (r : KT H kvs xs) (k : List Key) {b : Addr} {y : V} {u : Value} (hb : H b = some (.tup (k.map kV))) (ry : RelV y u) :
    KT H (putK kvs k y) (storedH xs k b u) := by
  have e : (kvs.any fun kv => decide (kv.1 = k)) = (atKey xs k).isSome := by
    rw [valV_any, (r.val k).isSome_eq, Option.isSome_map]
  unfold putK storedH
  rw [e]
  by_cases q : (atKey xs k).isSome = true
  · rw [if_pos q, if_pos q]; exact r.repl k ry
  · rw [if_neg q, if_neg q]; exact Paired.snoc r ⟨rfl, hb, ry⟩
theorem KT.keeps {H H' : Hp} {kvs : List (List Key × V)} {xs : List (List Key × Addr × Value)} (r : KT H kvs xs) (ht : ∀ b ys, H b = some (.tup ys) → H' b = some (.tup ys)) : KT H' kvs xs :=
  Paired.mapP r fun _ _ z => ⟨z.1, ht _ _ z.2.1, z.2.2⟩

section
variable {P : Program} {w : World} {H : Hp} {h : Heap} {a : Addr}
theorem rd_of {u : HO} (ok : HOk P w H h) (e : Rd H a u) : ObjOk P w H h a u := e.ok ok
theorem dk_rd {kvs : List (Key × V)} (ok : HOk P w H h) (e : Rd H a (.dK kvs)) : kvs.length ≤ sizeLine ∧ (a == sysModules) = false ∧ ∃ vs, KV kvs vs ∧ h.DictOf (mixKind P w) a vs :=
  show ObjOk P w H h a (.dK kvs) from rd_of ok e
theorem dk_of {kvs : List (Key × V)} (ok : HOk P w H h) (e : H a = some (.dK kvs)) : kvs.length ≤ sizeLine ∧ (a == sysModules) = false ∧ ∃ vs, KV kvs vs ∧ h.DictOf (mixKind P w) a vs := dk_rd ok (.inl e)
/-- a tracked tuple of ints and texts is a key -/
theorem key_of {ks : List Key} (ok : HOk P w H h) (e : H a = some (.tup (ks.map kV))) : (tupleKind (mixKind P w)).is h ks a := by
  obtain ⟨_, its, r, o, h1, h2, n, h3⟩ := (show ObjOk P w H h a (.tup (ks.map kV)) from ok a _ e)
  exact ⟨o, its.toArray, n, h1, h2, h3, by simpa using items_are r⟩
theorem dt_rd {kvs : List (List Key × V)} (ok : HOk P w H h) (e : Rd H a (.dT kvs)) : kvs.length ≤ sizeLine ∧ (a == sysModules) = false ∧
    ∃ xs, KT H kvs xs ∧ h.DictOfH (tupleKind (mixKind P w)) a xs := by
  obtain ⟨z, y, xs, r, o, es, ep, h1, h2, h3, h4, h5⟩ := (show ObjOk P w H h a (.dT kvs) from rd_of ok e)
  refine ⟨z, y, xs, r, o, es, ep, h1, h2, h3, h4, fun x hx => ?_, h5⟩
  have all : ∀ {l : List (List Key × V)} {m : List (List Key × Addr × Value)}, KT H l m → ∀ x ∈ m, (tupleKind (mixKind P w)).is h x.1 x.2.1 := by
    intro l m q
    induction q with
    | nil => intro x hx; exact nomatch hx
    | @cons p q ps qs hq t ih =>
      intro x hx
      rcases List.mem_cons.mp hx with e | hx
      · subst e
        exact key_of ok (by rw [← hq.1]; exact hq.2.1)
      · exact ih x hx
  exact all r x hx
theorem dt_of {kvs : List (List Key × V)} (ok : HOk P w H h) (e : H a = some (.dT kvs)) : kvs.length ≤ sizeLine ∧ (a == sysModules) = false ∧
    ∃ xs, KT H kvs xs ∧ h.DictOfH (tupleKind (mixKind P w)) a xs := dt_rd ok (.inl e)
end

/-- what the dict at a holds at the key y -/
def DGet (H : Hp) (a : Addr) (y : V) (r : Option V) : Prop :=
  (∃ kvs k, Rd H a (.dK kvs) ∧ y = kV k ∧ r = valV kvs k) ∨ ∃ kvs k b, Rd H a (.dT kvs) ∧ y = .ref b ∧ H b = some (.tup (k.map kV)) ∧ r = valV kvs k
/-- the heap behind a[y] = v -/
def DPut (H : Hp) (a : Addr) (y v : V) (H' : Hp) : Prop :=
  (∃ kvs k, H a = some (.dK kvs) ∧ y = kV k ∧ kvs.length < sizeLine ∧ H' = upd H a (.dK (putK kvs k v))) ∨
  ∃ kvs k b, H a = some (.dT kvs) ∧ y = .ref b ∧ H b = some (.tup (k.map kV)) ∧ kvs.length < sizeLine ∧ H' = upd H a (.dT (putK kvs k v))
theorem DPut.k {H : Hp} {a : Addr} {kvs : List (Key × V)} {k : Key} {v : V} (e : H a = some (.dK kvs)) (hl : kvs.length < sizeLine) : DPut H a (kV k) v (upd H a (.dK (putK kvs k v))) := .inl ⟨kvs, k, e, rfl, hl, rfl⟩
section
variable {X : Cx} {pins : List (Addr × Obj)} {σ : St} {H : Hp} {s : Shared} {a : Addr} {y v : V} {u r : Value} {o : Option V} {A : Around} {E : Value → Shared → Prop}

theorem Inv.big (I : Inv X pins σ H s) : sysModules < s.heap.objs.size := by
  have h : mainGlobals < s.heap.objs.size := (I.mod.glob.keeps I.bk).lt
  exact Nat.lt_trans (by decide) h

/-- a dict's object is replaced -/
theorem d_write {h' : Heap} {t' : Nat} {ob : HO} (I : Inv X pins σ H s) (mu : Mut (H a)) (hs : Heap.SameBut a s.heap h') (he : ∃ q, h'.get? a = some q) (new : ObjOk X.prog X.w (upd H a ob) h' a ob) :
    Inv X pins σ (upd H a ob) { s with heap := h', toks := t' } :=
  I.write (x := a) (e := a) mu (.inl rfl) (fun b q hb z => (hs.2 b hb).trans z) he new
theorem dk_new {P : Program} {w : World} {H' : Hp} {h' : Heap} {kvs : List (Key × V)} {vs : List (Key × Value)} (z : kvs.length ≤ sizeLine) (hd : (a == sysModules) = false) (rel : KV kvs vs) (dd : h'.DictOf (mixKind P w) a vs) :
    ObjOk P w H' h' a (.dK kvs) := ⟨z, hd, vs, rel, dd⟩
/-- d[y] = v -/
theorem d_setItem {H' : Hp} {Q : Unit → Shared → Prop} (hu : A.units + 1 < cLine) (I : Inv X pins σ H s) (g : DPut H a y v H') (ry : RelV y u) (rv : RelV v r) (h : ∀ s', Inv X pins σ H' s' → Q () s') :
    wpAny (model X.prog X.w) A (setItem (.ref a) u r) Q E s := by
  rcases g with ⟨kvs, k, e, ey, l, eH⟩ | ⟨kvs, k, b, e, ey, eb, l, eH⟩
  · subst ey eH
    obtain ⟨z, hd, vs, rel, dd⟩ := dk_of I.hok e
    have hz : vs.length ≤ sizeLine := by rw [← rel.length]; exact z
    have hl : (putK kvs k v).length ≤ sizeLine := by have := length_putK kvs k v; omega
    refine wpAny_setItem_pairs (hsz := hz) (kV_is ry) dd fun h' dd' hs => h _ ?_
    have he : ∃ q, h'.get? a = some q := let ⟨q, _, _, hq, _⟩ := dd'; ⟨q, hq⟩
    exact d_write I (by rw [e]; exact True.intro) hs he (dk_new hl hd (rel.put k rv) dd')
  · subst ey eH
    cases (show u = Value.ref b from ry)
    obtain ⟨z, hd, xs, rel, dd⟩ := dt_of I.hok e
    have hz : xs.length ≤ sizeLine := by rw [← Paired.length rel]; exact z
    have hl : (putK kvs k v).length ≤ sizeLine := by have := length_putK kvs k v; omega
    refine wpAny_setItem_heap (hsz := hz) (tupleKind_room_in1 hu) (key_of I.hok eb) dd fun h' dd' hs => h _ ?_
    obtain ⟨q, es, ep, hq, h2, h3, h4, _, h5⟩ := dd'
    refine d_write I (by rw [e]; exact True.intro) hs ⟨q, hq⟩ ⟨hl, hd, _, (rel.put k eb rv).keeps fun c ys ec => ?_, q, es, ep, hq, h2, h3, h4, h5⟩
    rw [upd_ne (ne_of ec e (fun z => nomatch z))]
    exact ec
end

section
variable {X : Cx} {pins : List (Addr × Obj)} {σ : St} {H : Hp} {s : Shared} {a : Addr} {kvs : List (Key × V)} {k : Key} {u : Value} {A : Around} {E : Value → Shared → Prop}
end


/-! ### readings and rules -/
/-- the element of a subscription, not a slice -/
def NoSl (i : Expr) : Prop := ∀ ov iv, subscripted i false ov iv = operate [ov, iv] (getItem ov iv)
/-- d[y] -/
def tDGet (td ty : TE) : TE := fun σ H Q => td σ H fun x H1 => ty σ H1 fun y H2 => ∃ a v, x = .ref a ∧ DGet H2 a y (some v) ∧ Q v H2
/-- y in d, y not in d -/
def tDIn (ty td : TE) : TE := fun σ H Q => ty σ H fun y H1 => td σ H1 fun x H2 => ∃ a o, x = .ref a ∧ DGet H2 a y o ∧ Q (.bl o.isSome) H2
def tDNotIn (ty td : TE) : TE := fun σ H Q => ty σ H fun y H1 => td σ H1 fun x H2 => ∃ a o, x = .ref a ∧ DGet H2 a y o ∧ Q (.bl (!o.isSome)) H2
/-- d[y] = v -/
def sDPut (td ty tv : TE) : TS := fun D σ H => tv σ H fun v H1 => td σ H1 fun x H2 => ty σ H2 fun y H3 => ∃ a H4, x = .ref a ∧ DPut H3 a y v H4 ∧ D.nx σ H4
/-- d[y] op= v -/
def sDAug (td ty tv : TE) (rd : V → V → Hp → VK → Prop) : TS := fun D σ H => td σ H fun x H1 => ty σ H1 fun y H2 => ∃ a v, x = .ref a ∧ DGet H2 a y (some v) ∧
  tv σ H2 fun y2 H3 => rd v y2 H3 fun z H4 => ∃ H5, DPut H4 a y z H5 ∧ D.nx σ H5
/-- del d[y] -/
def sDDel (td ty : TE) : TS := fun D σ H => td σ H fun x H1 => ty σ H1 fun y H2 => ∃ a kvs k, x = .ref a ∧ H2 a = some (.dK kvs) ∧ y = kV k ∧ (valV kvs k).isSome = true ∧ D.nx σ (upd H2 a (.dK (dropK kvs k)))

section
variable {X : Cx} {o i e value : Expr} {pos pos' tpos : Pos} {td ty tv : TE}
theorem ps_dput (hu : X.A.units + 1 < cLine) (ho : PE X o td) (hi : PE X i ty) (hv : PE X value tv) (hs : swapsWith value (some (.Subscript o i pos')) pos.line X.env = pure false) :
    PS X (.Assign [.Subscript o i pos'] value pos) (sDPut td ty tv) := by
  intro pins s σ H D I h
  refine wpAny_Assign_Subscript (thn (hv pins s σ H _ I h) fun r s1 ⟨v, H1, I1, rv, q1⟩ => thn (ho pins s1 σ H1 _ I1 q1) fun u s2 ⟨x, H2, I2, rx, q2⟩ => thn (hi pins s2 σ H2 _ I2 q2) fun iv s3 ⟨y, H3, I3, ry, a, H4, ex, g, q3⟩ => ?_) hs
  subst ex
  obtain rfl : u = Value.ref a := rx
  exact d_setItem hu I3 g ry rv fun s4 I4 => ⟨σ, H4, I4, q3⟩
end


/-! ### displays -/
theorem dk_empty {P : Program} {w : World} {H : Hp} (h : Heap) (hb : sysModules < h.objs.size) : ObjOk P w H (h.push { cls := .type "dict", data := .dict #[] }) h.objs.size (.dK []) :=
  ⟨Nat.zero_le _, beq_eq_false_iff_ne.mpr (Ne.symm (Nat.ne_of_lt hb)), [], .nil, Heap.DictOf.new h⟩
/-- {}, to be a dict of the kind that is wanted -/
def tDNewK : TE := fun _ H Q => ∀ p, H p = none → Q (.ref p) (upd H p (.dK []))
def tDNewT : TE := fun _ H Q => ∀ p, H p = none → Q (.ref p) (upd H p (.dT []))
section
variable {X : Cx} {pos : Pos}
theorem pe_dnewK : PE X (.Dict [] [] pos) tDNewK := fun pins s σ H Q I h =>
  wpAny_Dict_empty ⟨.ref s.heap.objs.size, _, I.laid (a := s.heap.objs.size) (o := .dK []) (t' := s.toks) (fun _ _ q => Heap.get?_push_of_some _ q) (Nat.le_refl _) (dk_empty s.heap I.big), rfl, h _ (I.hok.fresh (Nat.le_refl _))⟩
end

/-- the pairs of a display, from the left -/
def tPairs : List (TE × TE) → St → Hp → (List (V × V) → Hp → Prop) → Prop
  | [], _, H, Q => Q [] H
  | (tk, tv) :: r, σ, H, Q => tk σ H fun x H1 => tv σ H1 fun y H2 => tPairs r σ H2 fun ps H3 => Q ((x, y) :: ps) H3
abbrev VV : List (V × V) → List (Value × Value) → Prop := Paired fun p q => RelV p.1 q.1 ∧ RelV p.2 q.2
def PPs (X : Cx) (pos : Pos) (keys : List (Option Expr)) (values : List Expr) (trs : List (TE × TE)) : Prop :=
  ∀ (pins : List (Addr × Obj)) (s : Shared) (σ : St) (H : Hp) (Q : List (V × V) → Hp → Prop), Inv X pins σ H s → tPairs trs σ H Q →
    wpAny (model X.prog X.w) X.A (evalPairs (pairTrees keys values X.env pos)) (fun vs s' => ∃ ps H', Inv X pins σ H' s' ∧ VV ps vs ∧ Q ps H') X.xe s
def mergeK (kvs more : List (Key × V)) : List (Key × V) := more.foldl (fun acc kv => putK acc kv.1 kv.2) kvs
/-- {k: v, ..} with keys ints and texts; the new dict stands empty while the pairs are made -/
def tDisp (trs : List (TE × TE)) : TE := fun σ H Q => ∀ p, H p = none → tPairs trs σ (upd H p (.dK [])) fun ps H2 => H2 p = some (.dK []) ∧ ∃ kvs : List (Key × V), ps = kvs.map (fun kv => (kV kv.1, kv.2)) ∧ kvs.length ≤ 15 ∧ Q (.ref p) (upd H2 p (.dK (mergeK [] kvs)))
/-! ### methods -/
/-- a method call o.m(e) of a built-in, with one argument: what must be seen of the text -/
structure M1 (X : Cx) (o : Expr) (m : Str) (apos : Pos) (e : Expr) (cpos : Pos) : Prop where
  base : attributeBase o m X.env (eval o X.env) = eval o X.env
  few : ((backTo cpos (starEach [e] X.env)).all (fun x => !x.1) && (backToKw cpos (keywordEach [] X.env)).all (fun x => x.1.isSome)
    && decide (([e] : List Expr).length + ([] : List Keyword).length + (if ([] : List Keyword).isEmpty then 0 else 1) < 30)) = true
  line : (apos.endLine == cpos.line) = true
  trees : backTo cpos (starEach [e] X.env) = [(false, eval e X.env)]
structure M2 (X : Cx) (o : Expr) (m : Str) (apos : Pos) (e f : Expr) (cpos : Pos) : Prop where
  base : attributeBase o m X.env (eval o X.env) = eval o X.env
  few : ((backTo cpos (starEach [e, f] X.env)).all (fun x => !x.1) && (backToKw cpos (keywordEach [] X.env)).all (fun x => x.1.isSome)
    && decide (([e, f] : List Expr).length + ([] : List Keyword).length + (if ([] : List Keyword).isEmpty then 0 else 1) < 30)) = true
  line : (apos.endLine == cpos.line) = true
  trees : backTo cpos (starEach [e, f] X.env) = [(false, eval e X.env), (false, eval f X.env)]

/-- a is a dict, whatever its keys -/
def IsD (H : Hp) (a : Addr) : Prop := (∃ kvs, Rd H a (.dK kvs)) ∨ ∃ kvs, Rd H a (.dT kvs)
section
variable {X : Cx} {pins : List (Addr × Obj)} {σ : St} {H : Hp} {s : Shared} {a : Addr} {y d : V} {u r : Value} {o : Option V} {A : Around} {E : Value → Shared → Prop}
end

def tDGet1 (td ty : TE) : TE := fun σ H Q => td σ H fun x H1 => ∃ a, x = .ref a ∧ IsD H1 a ∧ ty σ H1 fun y H2 => ∃ o, DGet H2 a y o ∧ Q (o.getD .non) H2
def tDGet2 (td ty tx : TE) : TE := fun σ H Q => td σ H fun x H1 => ∃ a, x = .ref a ∧ IsD H1 a ∧ ty σ H1 fun y H2 => tx σ H2 fun z H3 => ∃ o, DGet H3 a y o ∧ Q (o.getD z) H3
/-- d.pop(k): there; d.pop(k, x): there or not -/
def tDPop1 (td ty : TE) : TE := fun σ H Q => td σ H fun x H1 => ∃ a, x = .ref a ∧ IsD H1 a ∧ ty σ H1 fun y H2 => ∃ kvs k v, H2 a = some (.dK kvs) ∧ y = kV k ∧ valV kvs k = some v ∧ Q v (upd H2 a (.dK (dropK kvs k)))
def tDPop2 (td ty tx : TE) : TE := fun σ H Q => td σ H fun x H1 => ∃ a, x = .ref a ∧ IsD H1 a ∧ ty σ H1 fun y H2 => tx σ H2 fun z H3 => ∃ kvs k, H3 a = some (.dK kvs) ∧ y = kV k ∧
  (∀ v, valV kvs k = some v → Q v (upd H3 a (.dK (dropK kvs k)))) ∧ (valV kvs k = none → Q z H3)
section
variable {X : Cx} {o e f : Expr} {apos cpos : Pos} {td ty tx : TE}
end

/-! ### dict(d): a copy -/
section
variable {X : Cx} {pins : List (Addr × Obj)} {σ : St} {H : Hp} {s : Shared} {a : Addr} {kvs : List (Key × V)} {A : Around} {E : Value → Shared → Prop}
end


section
variable {X : Cx} {pins : List (Addr × Obj)} {σ : St} {H : Hp} {s : Shared} {a : Addr} {y : V} {u : Value} {A : Around} {E : Value → Shared → Prop}
end
end L2

namespace Att
open PySem PySem.W PySem.Calls PyProof.Rows

/-! ### the script -/
theorem ints_of_wellAll {P : Params} {h : Heap} : ∀ (ns : List Int) (vs : List Value), WellAll P h vs (ns.map WData.int) → IntsAre vs ns := by
  intro ns
  induction ns with
  | nil =>
    intro vs w
    rw [List.map_nil] at w
    cases w
    exact .nil
  | cons n ns ih =>
    intro vs w
    rw [List.map_cons] at w
    cases w with
    | cons a b =>
      cases a
      exact .cons _ _ (ih _ b)

theorem script_of {l : OpenLaw} {n : Nat} (hn : l.most = some n) {P : Params} {h : Heap} {args : List WData} {vals : List Value}
    (hpre : l.row.toRowW.claim.pre args = true) (hwl : WellAll P h vals args) :
    ∃ a vs ns, vals = [Value.ref a] ∧ args = [WData.list (ns.map WData.int)] ∧ h.get? a = some { cls := .type "list", data := .seq vs.toArray } ∧ IntsAre vs ns ∧ ns.length ≤ n := by
  have hsh : WShape.hasAll [] args [.list .int] = true := (pre_splitW hpre).1
  have hc : l.pre.holds [] { args := args } = true := (pre_splitW hpre).2
  obtain ⟨d, r, rfl, h1, h2⟩ := hasAllW_cons hsh
  obtain rfl := hasAllW_nil h2
  obtain ⟨xs, rfl, h3⟩ := hasW_list h1
  obtain ⟨ns, rfl⟩ := items_int h3
  have hlen : ns.length ≤ n := by
    unfold OpenLaw.pre at hc
    have h4 : (WTm.not (.lt (.lit (.int (n : Int))) (.len (.arg 0)))).holds [] { args := [.list (ns.map .int)] } = true := by
      have h4 := (holds_andW hc).1
      rw [hn] at h4
      exact h4
    have h5 := condW_of h4 (w_not (w_lt w_lit (w_len_list (w_arg rfl))))
    rw [List.length_map] at h5
    refine Nat.le_of_not_lt fun q => ?_
    have q' : (n : Int) < ((ns.length : Nat) : Int) := by omega
    first
      | (rw [decide_eq_true q'] at h5; exact absurd h5 (by decide))
      | (simp at h5; omega)
  cases hwl with
  | cons w1 w2 =>
    cases w2
    cases w1 with
    | list ho hall => exact ⟨_, _, ns, rfl, rfl, ho, ints_of_wellAll ns _ hall, hlen⟩

theorem post_true (l : OpenLaw) (args : List WData) : l.row.toRowW.claim.post args (.bool true) args = true :=
  postW_of (r := l.row.toRowW) (X := (true == true))
    (show WShape.has [] (.bool true) .bool = true by first | rfl | decide | simp [WShape.has, WShape.arms, WShape.armsAll])
    (show (WTm.eq .res (.lit (.bool true))).value [] { args := args, res := some (.bool true), after := args } = some (.bool (true == true)) from w_eq_bool (w_res rfl) w_lit) rfl

/-! ### the attachment: holds_open's last premise (the goal 'hc' behind k_head) from a wpAny of the law's body -/
/-- the same from a codeAny of the CALL (for a layer whose function contracts speak of calls) -/
theorem attach_call {l : OpenLaw} {n : Nat} {q : Program} {loose : List Str} {XP : (Str → Option Value) → Heap → Prop} {YP : World → Heap → Prop} {d : DefRec}
    (hn : l.most = some n) (hdf : d.params.defaults = [])
    (call : ∀ (w : World) (s₀ s₁ : Shared) (mg mb : Str → Option Value) (fa : Addr) (o : Obj) (pm cd doc : Value) (a : Addr) (vs : List Value) (ns : List Int),
      Ground q loose [] XP w s₀ mg mb s₁.heap → YP w s₁.heap →
      s₁.heap.get? fa = some o → o.data = .func (docDef d.name d.params d.body d.scope pm cd doc) → s₁.heap.CodeRec cd d.name → mg d.name = some (.ref fa) →
      s₁.heap.get? a = some { cls := .type "list", data := .seq vs.toArray } → IntsAre vs ns → ns.length ≤ n → s₁.gens = #[] →
      codeAny (model l.prog w) callerA (.call (.ref fa) ⟨[.ref a], []⟩) (fun r s' => r = .ok (.ret (.bool true)) ∧ OldK s₁.heap s'.heap ∧ s'.os = s₁.os ∧ AllBare s'.gens) s₁) :
    WalkO q loose XP YP l.row.toRowW d [] (fun f vs => PySem.call f vs) := by
  intro w s₀ s₁ mg mb G Y fa o pm cd doc dV kV ho hd hcd hD hmg hg args vals as hpre hlay hrd hwl hlo
  obtain rfl : dV = .none := Dflts.none hD hdf
  obtain rfl : kV = .none := Dflts.noKw hD
  obtain ⟨a, vs, ns, rfl, rfl, hobj, hints, hlen⟩ := script_of hn hpre hwl
  refine enter_call (codeAny_mono (call w s₀ s₁ mg mb fa o pm cd doc a vs ns G Y ho (fd_plain hd) hcd hmg hobj hints hlen hg) fun r s' hq => ?_)
  obtain ⟨rfl, h2, h3, h4⟩ := hq
  exact ⟨.inl ⟨.bool true, .bool true, [], rfl, fun _ => rfl, .bool true, post_true l _, fun _ => ⟨List.Pairwise.nil, fun _ hm => (nomatch hm)⟩⟩, h2, h3, h4⟩

/-! ### rules over ANY heap (no ledger) from facts about the written part K: the library's own take a ledger (News) for what they write -/
section
variable {prog : Program} {w : World} {A : Around} {E : Value → Shared → Prop} {s : Shared} {K : Frag}

/-! the whole heap as the ledger: makes every rule that writes through a ledger a rule over any heap -/
def noObjs (h : Heap) : Heap := { h with objs := #[] }
def ledger (h : Heap) (L d : Addr) : List (Addr × Obj) := (List.range h.objs.size).filterMap fun a => if a = L ∨ a = d then none else (h.get? a).map fun o => (a, o)
end
end Att

namespace L2
open PySem PySem.Spec PyProof.Rows

theorem vals_ints : ∀ {vs : List Value} {ns : List Int}, IntsAre vs ns → Vals (ns.map V.int) vs
  | _, _, .nil => .nil
  | _, _, .cons n t h => .cons ⟨t, rfl⟩ (vals_ints h)

/-- nothing is tracked but the script, known to the object (or it is an object of the module) -/
def Only (H : Hp) : Prop := ∀ b, H b = none ∨ ∃ o xs, H b = some (.frz o (.lst xs))

/-- THE HEAD: the law's promise, at the heap behind the top. F, the promise of the law's def, may use that base is part of the heap (so K.In base, base.Ns mainGlobals mg stand in Mod) -/
theorem law_call {P : Program} {w : World} {K : PySem.W.Frag} {mg mb : Str → Option Value} {CX : CXT} {k : Nat} {fa a : Addr} {fd : FuncData} {x : Str} {sp : Sp} {s₁ : Shared} {vs : List Value} {ns : List Int}
    (KX : K.In s₁.heap) (hns : s₁.heap.Ns mainGlobals mg) (hb : s₁.heap.Ns builtinsNs mb) (hbb : ∀ x : Str, x ≠ "__name__" → mb x = bootBuiltins x) (hlim : s₁.heap.NoLimit) (hg : s₁.gens = #[])
    (ha : s₁.heap.get? a = some { cls := .type "list", data := .seq vs.toArray }) (hi : IntsAre vs ns) (hl : ns.length ≤ sizeLine) (hr : Room k callerA)
    (F : ∀ base : Heap, K.In base → base.Ns mainGlobals mg → FnOk P w K mg base CX k fa fd [x] sp) (hbind : ∀ (s : Shared) (u : Value), BindsTo s fd ⟨[u], []⟩ [(x, u)])
    (hsp : ∀ H : Hp, Only H → SqL K H a (ns.map V.int) → sp [.ref a] H (fun v _ => v = .bl true) fun _ _ _ => False)
    (hCX : ∀ H e s', CX [] H s₁ (fun _ _ _ => False) e s' → False) :
    codeAny (model P w) callerA (.call (.ref fa) ⟨[.ref a], []⟩) (fun r s' => r = .ok (.ret (.bool true)) ∧ OldK s₁.heap s'.heap ∧ s'.os = s₁.os ∧ AllBare s'.gens) s₁ := by
  have rv := vals_ints hi
  have lenV := hi.length
  -- from an abstract heap in which nothing but the script may be tracked
  have core : ∀ H : Hp, Only H → SqL K H a (ns.map V.int) → HOk P w H s₁.heap → (∀ b, H b ≠ none → b = a) → (H a ≠ none → K.lookup a = none) →
      codeAny (model P w) callerA (.call (.ref fa) ⟨[.ref a], []⟩) (fun r s' => r = .ok (.ret (.bool true)) ∧ OldK s₁.heap s'.heap ∧ s'.os = s₁.os ∧ AllBare s'.gens) s₁ := by
    intro H hO hS hok hA hK
    have base_of : ∀ {b : Addr} {o : Obj}, s₁.heap.get? b = some o → H b = none → (hidT s₁.heap H).get? b = some o := fun e n => hidT_get e n
    have noA : ∀ {b : Addr} {o : Obj} {es : Array DictEntry} {ep : Nat}, s₁.heap.get? b = some o → o.data = .dict es ep → H b = none := fun {b o es ep} e d => by
      cases q : H b with
      | none => rfl
      | some u =>
        have e' : b = a := hA b (by rw [q]; simp)
        subst e'
        rw [ha] at e; cases e
        have d' : Data.seq vs.toArray _ = Data.dict es ep := d
        cases d'
    have nsK : ∀ {b : Addr} {m : Str → Option Value}, s₁.heap.Ns b m → (hidT s₁.heap H).Ns b m := fun {b m} ⟨o, es, ep, e, d, r⟩ => ⟨o, es, ep, base_of e (noA e d), d, r⟩
    have hKb : K.In (hidT s₁.heap H) := fun b o e => base_of (KX b o e) (by
      cases q : H b with
      | none => rfl
      | some u =>
        have e' : b = a := hA b (by rw [q]; simp)
        subst e'
        rw [hK (by rw [q]; simp)] at e; cases e)
    have hM : Mod K mg (hidT s₁.heap H) := ⟨hKb, nsK hns, ⟨mb, nsK hb, hbb⟩, let ⟨mc, h1, h2⟩ := hlim; ⟨mc, nsK h1, h2⟩⟩
    have e0 : Env0 P w K mg (hidT s₁.heap H) callerA [] s₁ H := ⟨rfl, hM, fun b o e => of_hidT e, Nat.le_of_eq (hidT_size _ _), trivial, fun b hb => absurd (show b ∈ ([] : List Addr) from hb) (by simp), hok, .of_eq hg⟩
    refine codeAny_mono ((F _ hKb (nsK hns)).run callerA [] s₁ H ⟨[.ref a], []⟩ [.ref a] [.ref a] _ _ hr e0 (hbind s₁ (.ref a)) (.cons rfl .nil) (hsp H hO hS)) fun r s' h => ?_
    cases r with
    | error e => exact (hCX H e s' h).elim
    | ok fl =>
      cases fl with
      | next => exact False.elim h
      | brk => exact False.elim h
      | cont => exact False.elim h
      | ret u =>
        obtain ⟨v, H', os, bare, un, hok', r', q⟩ := h
        have q' : v = .bl true := q
        subst q'
        obtain rfl : u = Value.bool true := r'
        refine ⟨rfl, OldK.of_keep fun b o e => ?_, os, bare⟩
        cases q : H b with
        | none => exact un.keep b o e q (by intro z; exact absurd (show b ∈ ([] : List Addr) from z) (by simp)) (by simp)
        | some u =>
          rcases hO b with z | ⟨ob, xs, z⟩
          · rw [q] at z; cases z
          · have z2 := un.frzs b ob _ z
            obtain ⟨e1, _⟩ := hok b _ z
            obtain ⟨e2, _⟩ := hok' b _ z2
            rw [e] at e1; cases e1
            exact e2
  cases hk : K.lookup a with
  | some o =>
    -- the script is one of the module's own objects
    have e := KX a o hk
    rw [ha] at e
    cases e
    refine core (fun _ => none) (fun _ => .inl rfl) (.inr ⟨_, vs.toArray, _, hk, rfl, rfl, rfl, by rw [List.size_toArray, lenV]; exact hl, by simpa using rv⟩) (fun b u z => by have z' : (none : Option HO) = some u := z; cases z') (fun b z => absurd rfl z) fun z => absurd rfl z
  | none =>
    refine core (fun b => if b = a then some (.frz { cls := .type "list", data := .seq vs.toArray } (.lst (ns.map V.int))) else none) (fun b => ?_) (.inl (.inr ⟨{ cls := .type "list", data := .seq vs.toArray }, if_pos rfl⟩)) (fun b u z => ?_) (fun b z => ?_) fun _ => hk
    · by_cases hb : b = a
      · exact .inr ⟨_, _, if_pos hb⟩
      · exact .inl (if_neg hb)
    · by_cases hb : b = a
      · have z' := (if_pos hb).symm.trans z
        cases z'
        subst hb
        exact ⟨ha, by rw [List.length_map]; exact hl, vs, _, rv, ha⟩
      · have z' := (if_neg hb).symm.trans z
        cases z'
    · by_cases hb : b = a
      · exact hb
      · exact absurd (if_neg hb) z
end L2

namespace L2
open PySem PySem.Spec PyProof.Rows

abbrev KOf {K : PySem.W.Frag} {h : Heap} (_ : K.In h) : PySem.W.Frag := K

/-- the goal that k_head leaves (case hc), from the law's promise. F gives the function object fd (K's own) once, then the promise over every base -/
theorem walk_of {l : PySem.W.OpenLaw} {n k : Nat} {q : Program} {loose : List Str} {XP : (Str → Option Value) → Heap → Prop} {YP : World → Heap → Prop} {d : DefRec} {K : Params → PySem.W.Frag} {CX : World → CXT} {sp : World → Sp} {x : Str}
    (hn : l.most = some n) (hn2 : n ≤ sizeLine) (hdf : d.params.defaults = []) (hr : Room k callerA)
    (hY : ∀ (w : World) (h : Heap), YP w h → (K w.params).In h)
    (F : ∀ (w : World) (mg : Str → Option Value) (fa : Addr) (h : Heap), (K w.params).In h → h.Ns mainGlobals mg → mg d.name = some (.ref fa) →
      ∃ fd : FuncData, (∀ (s : Shared) (u : Value), BindsTo s fd ⟨[u], []⟩ [(x, u)]) ∧
        ∀ base : Heap, (K w.params).In base → base.Ns mainGlobals mg → FnOk l.prog w (K w.params) mg base (CX w) k fa fd [x] (sp w))
    (hsp : ∀ (w : World) (H : Hp) (a : Addr) (ns : List Int), ns.length ≤ n → Only H → SqL (K w.params) H a (ns.map V.int) → sp w [.ref a] H (fun v _ => v = .bl true) fun _ _ _ => False)
    (hCX : ∀ (w : World) (H : Hp) (s : Shared) (e : Value) (s' : Shared), CX w [] H s (fun _ _ _ => False) e s' → False) :
    PySem.W.WalkO q loose XP YP l.row.toRowW d [] (fun f vs => PySem.call f vs) := by
  refine Att.attach_call hn hdf fun w s₀ s₁ mg mb fa o pm cd doc a vs ns G Y ho hd hcd hmg hobj hints hlen hg => ?_
  have KX := hY w _ Y
  obtain ⟨fd, hb, hF⟩ := F w mg fa _ KX G.T.g hmg
  exact law_call KX G.T.g G.T.b G.T.builtins G.T.nolimit hg hobj hints (Nat.le_trans hlen hn2) hr hF hb (fun H hO hS => hsp w H a ns hlen hO hS) fun H e s' => hCX w H s₁ e s'
end L2

/- THE LAST THEOREM (shape; LID, My.* are yours):
   My.Adr: a structure of the addresses that your layer names (classes, functions); My.Txt K t: a structure (Prop) of the equations over K;
   My.txt_mk : {K} {implicit addresses ..} (e1 : nsIn K mainGlobals "law" = some (some (.ref f))) (e2 : K.lookup f = some ⟨oc, od, .func (fnOf "law" "law" params body scope dV kV doc pm an cdv ct), sl⟩) (e3 : codeIn K cdv "law" = true) .. : ∃ t, My.Txt K t

set_option maxRecDepth 100000 in
set_option maxHeartbeats 0 in
theorem PySem.Challenge.cw_LID_holds : PySem.Challenge.rw_LID.Holds := by
  w_on; o_law; k_head; (case hw => w_witness2)
  k_fill
  refine L2.walk_of (l := PySem.Challenge.rw_LID) (n := 63) (k := 40) (x := "script") (CX := fun w => ..) (sp := fun _ => My.sp_law) rfl (by decide) rfl ⟨rfl, by decide, by decide⟩ (fun w h Y => PySem.W.kIn_of Y) ?F ?S ?C
  case F =>
    intro w mg fa h KX G hmg
    have T : ∃ t, My.Txt (L2.KOf KX) t := by
      dsimp only [L2.KOf]                          -- K must stand as «<heap const> w.params» for k_is
      refine' My.txt_mk ?e1 ?e2 ?e3 ..
      (case e1 => PySem.W.k_is)                    -- in the order: a name -> its address -> its object -> its parts
      (case e2 => PySem.W.k_is)
      ..
    obtain ⟨t, T⟩ := T
    have e0 := hmg.symm.trans (PySem.W.mg_of KX G T.law)
    cases e0                                       -- fa is the law's own address
    exact ⟨_, fun s u => .of_eq rfl, fun base kb nb => My.law_fn T kb nb⟩     -- if «.of_eq rfl» comes too early: refine' ⟨_, ?b, fun base kb nb => My.law_fn T kb nb⟩; exact fun s u => .of_eq rfl
  case S => exact fun w H a ns hl hO hS => ..
  case C => exact ..
(the tactic k_is has no namespace: write k_is) -/

/-! SHORT WORDS over the layer: a def of the text, its body, what a loop and a test want. -/
namespace L2
open PySem PySem.Spec PyProof.Rows

/-! ### the text by places -/
/-- the j-th statement of a class's body -/
def inClass (s : Stmt) (j : Nat) : Stmt := match s with
  | .ClassDef _ _ _ body _ _ _ _ _ _ _ => body.getD j (.Pass ⟨0, 0, 0, 0⟩)
  | _ => .Pass ⟨0, 0, 0, 0⟩
def defArgs (s : Stmt) : Arguments := match s with
  | .FunctionDef _ a _ _ _ _ _ _ _ _ => a
  | _ => { posonlyargs := [], args := [], vararg := none, kwonlyargs := [], kw_defaults := [], kwarg := none, defaults := [] }
def defBody (s : Stmt) : List Stmt := match s with
  | .FunctionDef _ _ b _ _ _ _ _ _ _ => b
  | _ => []
def defScope (s : Stmt) : Scope := match s with
  | .FunctionDef _ _ _ _ _ _ sc _ _ _ => sc
  | _ => { kind := .function, names := [], isGenerator := false, isCoroutine := false }

/-! ### no exception leaves a def -/
abbrev CX0 : CXT := fun _ _ _ _ _ _ => False
abbrev E0 : XK := fun _ _ _ => False
theorem pass0 {X : Cx} : Passes CX0 X E0 := fun _ _ _ _ _ _ _ h => h.elim

/-! ### a def (or method) of the text as it stands behind the top -/
structure Fun (K : PySem.W.Frag) (x qual : Str) (st : Stmt) (f : Addr) (fd : FuncData) : Prop where
  ex : ∃ (oc : Value) (od : Option Addr) (kV doc pm : Value) (an : Option Addr) (cdv ct : Value) (osl : Array (Option Value)),
    fd = PySem.W.fnOf x qual (defArgs st) (defBody st) (defScope st) .none kV doc pm an cdv ct ∧ K.lookup f = some ⟨oc, od, .func fd, osl⟩ ∧ PySem.W.codeIn K cdv qual = true
  kp : PySem.W.keepIn K (.ref f) = true
section
variable {P : Program} {w : World} {K : PySem.W.Frag} {mg : Str → Option Value} {base : Heap}
/-- THE RULE for a def: its body as a term of rules, and the reading of that term -/
theorem Fun.ok {x qual : Str} {st : Stmt} {f : Addr} {fd : FuncData} {N ps : List Str} {k : Nat} {sp : Sp} (F : Fun K x qual st f fd) (S : FnScope N ps (defScope st)) (len : ∀ vs H Q E, sp vs H Q E → vs.length = ps.length)
    (hbody : ∀ (cdv : Value) (A : Around) (outer : List Env) (s : Shared) (H : Hp) (vs : List V) (Q : VK) (E : XK), Room k (A.deeper (envOfC qual (defScope st) s.heap.objs.size f cdv)) → sp vs H Q E →
      ∃ t, PSs (cxOf CX0 P w K mg base N qual (defScope st) f cdv A outer s H E).nox (defBody st) t ∧ t { nx := fun _ H' => Q .non H', rt := Q } (start N vs) H) : FnOk P w K mg base CX0 (k + 1) f fd ps sp := by
  obtain ⟨oc, od, kV, doc, pm, an, cdv, ct, osl, rfl, lk, hcd⟩ := F.ex
  refine fn_of lk hcd S len fun A outer s H vs Q E hr hsp => ?_
  obtain ⟨t, h, q⟩ := hbody cdv A outer s H vs Q E hr hsp
  exact ⟨t, h.nox, q⟩
/-- how its arguments bind (no defaults): h is «fun _ _ _ _ _ _ us hl => match us, hl with | [_, _], _ => rfl», one _ a parameter -/
theorem Fun.binds {x qual : Str} {st : Stmt} {f : Addr} {fd : FuncData} {ps : List Str} (F : Fun K x qual st f fd)
    (h : ∀ (kV doc pm : Value) (an : Option Addr) (cdv ct : Value) (us : List Value), us.length = ps.length → bindArgs (PySem.W.fnOf x qual (defArgs st) (defBody st) (defScope st) .none kV doc pm an cdv ct) ⟨us, []⟩ = pure (ps.zip us)) : Binds K fd ps [] := by
  obtain ⟨oc, od, kV, doc, pm, an, cdv, ct, osl, rfl, lk, hcd⟩ := F.ex
  exact .all (h kV doc pm an cdv ct)
theorem fun_mk {x qual : Str} {st : Stmt} {f : Addr} {oc : Value} {od an : Option Addr} {osl : Array (Option Value)} {kV doc pm cdv ct : Value} (l : K.lookup f = some ⟨oc, od, .func (PySem.W.fnOf x qual (defArgs st) (defBody st) (defScope st) .none kV doc pm an cdv ct), osl⟩)
    (c : PySem.W.codeIn K cdv qual = true) (k : PySem.W.keepIn K (.ref f) = true) : Fun K x qual st f (PySem.W.fnOf x qual (defArgs st) (defBody st) (defScope st) .none kV doc pm an cdv ct) := ⟨⟨oc, od, kV, doc, pm, an, cdv, ct, osl, rfl, l, c⟩, k⟩
end
theorem hu_of {A : Around} {k : Nat} (hr : Room k A) : A.units + 1 < cLine := Nat.lt_of_le_of_lt (Nat.add_le_add_left (by decide : 1 ≤ 64) _) hr.units
theorem small1000 {n : Nat} (h : n ≤ 1000) : n < sizeLine := Nat.lt_of_le_of_lt h (by decide)

/-! ### expressions in short: the name that stands in the i-th slot -/
section
variable {X : Cx}
theorem pv (i : Nat) {x : Str} {pos : Pos} (hN : X.N[i]? = some x := by rfl) (hv : Vis X.env.scope x := by first | exact Or.inl rfl | exact Or.inr (Or.inl rfl) | exact Or.inr (Or.inr rfl)) (hd : (x == ("__debug__" : Str)) = false := by decide)
    (hcd : (x == ("__classdict__" : Str)) = false := by decide) : PE X (.Name x pos) (tVar i) := pe_var hN hv hd hcd
end

/-! ### tests -/
theorem iteF {A B : Prop} (h : B) : if false = true then A else B := by
  rw [if_neg Bool.false_ne_true]
  exact h
theorem iteT {A B : Prop} (h : A) : if true = true then A else B := by
  rw [if_pos rfl]
  exact h
/-! ### heaps -/
/-- all that was tracked is as it was -/
def Same (H H' : Hp) : Prop := ∀ b o, H b = some o → H' b = some o
theorem Same.refl (H : Hp) : Same H H := fun _ _ h => h
theorem Same.trans {H H1 H2 : Hp} (a : Same H H1) (b : Same H1 H2) : Same H H2 := fun c o h => b c o (a c o h)
theorem Same.free {H H' : Hp} (e : Same H H') {l : Addr} (h : H' l = Option.none) : H l = Option.none := by
  cases q : H l with
  | none => rfl
  | some o =>
    rw [e l o q] at h
    cases h
theorem Same.seq {K : PySem.W.Frag} {H H' : Hp} {a : Addr} {xs : List V} (e : Same H H') (h : SqL K H a xs) : SqL K H' a xs := by
  rcases h with (h | ⟨o, h⟩) | h
  · exact .inl (.inl (e _ _ h))
  · exact .inl (.inr ⟨o, e _ _ h⟩)
  · exact .inr h

/-! ### a dict's pairs: keys that differ -/
section
variable {κ : Type} [DecidableEq κ]
theorem valV_in {kvs : List (κ × V)} {k : κ} {v : V} (h : valV kvs k = some v) : k ∈ kvs.map (·.1) := by
  have q : (kvs.any fun kv => decide (kv.1 = k)) = true := by
    rw [valV_any, h]
    all_goals rfl
  obtain ⟨p, hp, e⟩ := List.any_eq_true.mp q
  exact List.mem_map.mpr ⟨p, hp, of_decide_eq_true e⟩
theorem nd_snoc : ∀ {l : List κ} {k : κ}, l.Nodup → ¬ k ∈ l → (l ++ [k]).Nodup
  | [], k, _, _ => by simp
  | a :: r, k, h, hk => by
    obtain ⟨h1, h2⟩ := List.nodup_cons.mp h
    show (a :: (r ++ [k])).Nodup
    refine List.nodup_cons.mpr ⟨fun m => ?_, nd_snoc h2 fun m => hk (List.mem_cons.mpr (Or.inr m))⟩
    rcases List.mem_append.mp m with q | q
    · exact h1 q
    · exact hk (List.mem_cons.mpr (Or.inl (List.mem_singleton.mp q).symm))
end
end L2

set_option Elab.async false
set_option linter.all false
set_option maxRecDepth 100000
set_option maxHeartbeats 4000000
/-! MY OWN RULES over the layer. -/
namespace L2
open PySem PySem.Spec PyProof.Rows
section
variable {X : Cx}
/-- isinstance(x, T), T one of Python's own types -/
theorem call_isinst : CallR X (.builtin "isinstance") (fun xs H Q => ∃ x T t b, xs = [x, .ty T] ∧ TyOf X.K H x t ∧ PySem.W.kitOne X.K t (.type T) = some b ∧ Q (.bl b) H) := by
  intro pins s σ H xs us Q I r h
  obtain ⟨x, T, t, b, rfl, ty, e, q⟩ := h
  obtain ⟨u, w', rfl, rx, rt⟩ := vals2 r
  obtain rfl : w' = Value.type T := rt
  exact isinst_ok I rx ty e fun tk => ⟨.bl b, H, I.tok _, rfl, q⟩
end
/-- two ways join again: M is what holds behind both -/
def tJ (t : TS) : TS := fun D σ H => ∃ M : St → Hp → Prop, t { D with nx := M } σ H ∧ ∀ σ' H', M σ' H' → D.nx σ' H'
theorem ps_join {X : Cx} {st : Stmt} {t : TS} (h : PS X st t) : PS X st (tJ t) := by
  intro pins s σ H D I hw
  obtain ⟨M, hw, hM⟩ := hw
  refine thn (h pins s σ H _ I hw) fun f s1 q => ?_
  cases f with
  | next =>
    obtain ⟨σ', H', I', q⟩ := q
    exact ⟨σ', H', I', hM σ' H' q⟩
  | ret v => exact q
  | brk => exact q
  | cont => exact q
/-! ### is, is not of two truths -/
section
variable {X : Cx}
end
/-! ### range(a, b, c), c > 0 -/
/-- lo, lo + c, .. (n of them) -/
def Itc (lo c : Int) (n : Nat) : It := ⟨fun i _ => i < n, fun i H x H' => H' = H ∧ x = .int (lo + i * c), fun i _ => n ≤ i⟩
/-- how many turns -/
def turnsC (lo hi c : Int) : Nat := (Builtin.Range.rangeSize lo hi c).toNat
section
variable {X : Cx} {tg : Expr}
def iRng3 (ta : TA) : TI := fun σ H R => ta σ H fun vs H1 => ∃ i j c : Int, vs = [.int i, .int j, .int c] ∧ (-(2 ^ 60) ≤ i ∧ i < 2 ^ 60 ∧ -(2 ^ 60) ≤ j ∧ j < 2 ^ 60) ∧ (0 < c ∧ c < 2 ^ 20) ∧ R (Itc i c (turnsC i j c)) H1
end
/-! ### argument lists, cheaper to look at -/
def plainE : Expr → Bool
  | .Starred _ _ => false
  | _ => true
theorem starEach_plain {e : Expr} (he : plainE e = true) (rest : List Expr) (env : Env) : starEach (e :: rest) env = (false, eval e env) :: starEach rest env := by
  cases e <;> first | rfl | (exact absurd (show false = true from he) Bool.false_ne_true)
theorem starAny_plain : ∀ {es : List Expr} (_ : es.all plainE = true) (env : Env) (pos : Pos), (backTo pos (starEach es env)).any (·.1) = false
  | [], _, _, _ => rfl
  | e :: es, h, env, pos => by
    rw [List.all_cons, Bool.and_eq_true] at h
    rw [starEach_plain h.1]
    exact starAny_plain h.2 env pos
theorem pa_c {X : Cx} {e : Expr} {es : List Expr} {te : TE} {t : TA} (ha : PE X e te) (hr : PA X es t) (hs : plainE e = true := by rfl) : PA X (e :: es) (tCons te t) := pa_cons ha hr (starEach_plain hs es X.env)
/-- written ints -/
def intsOf : List Expr → Option (List Int)
  | [] => some []
  | .Constant (.int i) _ _ :: r => (intsOf r).map (i :: ·)
  | _ => none
/-- a global name that is an object, one that is a type of Python's own, one that is an int -/
theorem pe_gref {X : Cx} {x : Str} {a : Addr} {pos : Pos} (hm : X.mg x = some (.ref a)) (hg : Gl X x := by rfl) (hd : (x == ("__debug__" : Str)) = false := by decide) : PE X (.Name x pos) (tC (.ref a)) := pe_glob (v := .ref a) hg hm rfl hd
theorem pe_gint {X : Cx} {x : Str} {i : Int} {t : Tok} {pos : Pos} (hm : X.mg x = some (.int i t)) (hg : Gl X x := by rfl) (hd : (x == ("__debug__" : Str)) = false := by decide) : PE X (.Name x pos) (tC (.int i)) := pe_glob (v := .int i) hg hm ⟨t, rfl⟩ hd
theorem pe_ty {X : Cx} {x : Str} {n : String} {pos : Pos} (hm : X.mg x = none) (hv : bootBuiltins x = some (.type n)) (hg : Gl X x := by rfl) (hn : x ≠ "__name__" := by decide) (hd : (x == ("__debug__" : Str)) = false := by decide) : PE X (.Name x pos) (tC (.ty n)) := pe_bltn (v := .ty n) hg hm hv rfl hn hd
/-- f(e, ..), f a built-in function; T(e, ..), T a built-in type -/
theorem pe_b {X : Cx} {x : Str} {p pos : Pos} {e : Expr} {es : List Expr} {t : TA} {id : String} {r : List V → Hp → VK → Prop} (hc : CallR X (.builtin id) r) (hm : X.mg x = none) (hv : bootBuiltins x = some (.builtin id)) (ha : PA X (e :: es) t) (hp : plainE e = true := by rfl) (hps : es.all plainE = true := by rfl) (hg : Gl X x := by rfl)
    (hn : x ≠ "__name__" := by decide) (hdb : (x == ("__debug__" : Str)) = false := by decide) : PE X (.Call (.Name x p) (e :: es) [] pos) (tCB r t) := pe_callB hc hg hm hv ha hn hdb (starEach_plain hp _ _) (starAny_plain hps _ _)
theorem pe_t {X : Cx} {x : Str} {p pos : Pos} {e : Expr} {es : List Expr} {t : TA} {T : String} {r : List V → Hp → VK → Prop} (hc : CallR X (.type T) r) (hm : X.mg x = none) (hv : bootBuiltins x = some (.type T)) (ha : PA X (e :: es) t) (hp : plainE e = true := by rfl) (hps : es.all plainE = true := by rfl) (hg : Gl X x := by rfl)
    (hn : x ≠ "__name__" := by decide) (hdb : (x == ("__debug__" : Str)) = false := by decide) : PE X (.Call (.Name x p) (e :: es) [] pos) (tCB r t) := pe_callTy hc hg hm hv ha hn hdb (starEach_plain hp _ _) (starAny_plain hps _ _)
/-! ### heaps -/
theorem upd_old {H : Hp} {p q : Addr} {o u : HO} (h : H q = some o) (hn : H p = none) : upd H p u q = some o := by
  rw [upd_ne (ne_of_none h hn)]
  exact h
theorem Same.new {H H1 : Hp} {p : Addr} {o : HO} (s : Same H H1) (h : H1 p = none) : Same H (upd H1 p o) := fun b u e => upd_old (s b u e) h
/-! ### tests whose answer is known -/
theorem iteFB {b : Bool} {A B : Prop} (e : b = false) (h : B) : if b = true then A else B := by subst e; exact iteF h
theorem iteTB {b : Bool} {A B : Prop} (e : b = true) (h : A) : if b = true then A else B := by subst e; exact iteT h
theorem iteDT {c A B : Prop} [Decidable c] (hc : c) (h : A) : if decide c = true then A else B := iteTB (decide_eq_true hc) h
theorem iteDF {c A B : Prop} [Decidable c] (hc : ¬ c) (h : B) : if decide c = true then A else B := iteFB (decide_eq_false hc) h
theorem iteD {c A B : Prop} [Decidable c] (h1 : c → A) (h2 : ¬ c → B) : if decide c = true then A else B := by
  by_cases h : c
  · exact iteDT h (h1 h)
  · exact iteDF h (h2 h)
theorem iteN {c A B : Prop} [Decidable c] (h1 : ¬ c → A) (h2 : c → B) : if (!decide c) = true then A else B := by
  by_cases h : c
  · exact iteFB (by rw [decide_eq_true h]; rfl) (h2 h)
  · exact iteTB (by rw [decide_eq_false h]; rfl) (h1 h)
/-! ### a def of the module, all in one -/
structure Def (K : PySem.W.Frag) (mg : Str → Option Value) (x : Str) (st : Stmt) (ps : List Str) (f : Addr) (fd : FuncData) : Prop where
  F : Fun K x x st f fd
  b : Binds K fd ps []
  m : mg x = some (.ref f)
/-- f(e, ..) of a def that raises nothing -/
theorem pe_def {X : Cx} {x : Str} {st : Stmt} {ps : List Str} {f : Addr} {fd : FuncData} {k : Nat} {sp : Sp} {p pos : Pos} {e : Expr} {es : List Expr} {t : TA} (D : Def X.K X.mg x st ps f fd) (G : FnOk X.prog X.w X.K X.mg X.base CX0 k f fd ps sp) (hr : Room k X.A) (ha : PA X (e :: es) t)
    (hp : plainE e = true := by rfl) (hps : es.all plainE = true := by rfl) (hg : Gl X x := by rfl) (hdb : (x == ("__debug__" : Str)) = false := by decide) :
    PE X (.Call (.Name x p) (e :: es) [] pos) (tCall sp [] E0 t) := pe_call G hr hg D.m D.F.kp D.b .nil pass0 ha hdb (starEach_plain hp _ _) (starAny_plain hps _ _)
/-- a tuple of the module -/
structure TupC (K : PySem.W.Frag) (a : Addr) (xs : List V) : Prop where
  ex : ∃ (o : Obj) (its : Array Value) (n : Nat), K.lookup a = some o ∧ o.cls = .type "tuple" ∧ o.data = .seq its n ∧ its.size ≤ sizeLine ∧ Vals xs its.toList
end L2


set_option Elab.async false
set_option linter.all false
set_option maxRecDepth 100000
set_option maxHeartbeats 4000000
/-! LIST COMPREHENSIONS over the layer: the block is a context of its own (its own names, the caught cells), the list that is made is tracked. -/
namespace L2
open PySem PySem.Spec PyProof.Rows
/-! ### the names that are caught -/
theorem closure_is {env : Env} : ∀ (names : List (Str × NameKind)) (acc : List (Str × Addr)), (∀ x ∈ names, x.2 = .free → ∃ c, env.cells.lookup x.1 = some c) → (∀ x c, acc.lookup x = some c → env.cells.lookup x = some c) →
    ∃ cl : List (Str × Addr), (forIn (m := Sem) names acc fun (x : Str × NameKind) cs => if (x.2 == NameKind.free) = true then do let a ← cellOf env x.1; pure (ForInStep.yield ((x.1, a) :: cs)) else pure (ForInStep.yield cs)) = pure cl ∧
      (∀ x c, cl.lookup x = some c → env.cells.lookup x = some c) ∧ (∀ x, (∃ c, acc.lookup x = some c) → ∃ c, cl.lookup x = some c) ∧ (∀ x ∈ names, x.2 = .free → ∃ c, cl.lookup x.1 = some c)
  | [], acc, _, h => ⟨acc, rfl, h, fun _ z => z, fun _ z => nomatch z⟩
  | (n, k) :: r, acc, hf, h => by
    by_cases hk : k = .free
    · subst hk
      obtain ⟨c, hc⟩ := hf (n, .free) List.mem_cons_self rfl
      have hc' : cellOf env n = pure c := by unfold cellOf; rw [hc]
      obtain ⟨cl, e, h1, h2, h3⟩ := closure_is r ((n, c) :: acc) (fun x hx => hf x (List.mem_cons_of_mem _ hx)) (fun x d hx => by
        rw [List.lookup_cons] at hx
        split at hx
        · rename_i q
          have q' : x = n := by simpa using q
          cases hx
          rw [q']; exact hc
        · exact h x d hx)
      refine ⟨cl, ?_, h1, fun x ⟨d, hd⟩ => h2 x ?_, fun x hx hx2 => ?_⟩
      · rw [List.forIn_cons, ← e]
        simp only [beq_self_eq_true, if_true, hc']
        rfl
      · rw [List.lookup_cons]
        split
        · exact ⟨_, rfl⟩
        · exact ⟨d, hd⟩
      · rcases List.mem_cons.mp hx with rfl | hx
        · exact h2 n ⟨c, by simp⟩
        · exact h3 x hx hx2
    · obtain ⟨cl, e, h1, h2, h3⟩ := closure_is r acc (fun x hx => hf x (List.mem_cons_of_mem _ hx)) h
      refine ⟨cl, ?_, h1, h2, fun x hx hx2 => ?_⟩
      · rw [List.forIn_cons, ← e]
        have : (k == NameKind.free) = false := by simpa using hk
        simp only [this, Bool.false_eq_true, if_false]
        rfl
      · rcases List.mem_cons.mp hx with rfl | hx
        · exact absurd hx2 hk
        · exact h3 x hx hx2
theorem closureFor_is {scope : Scope} {env : Env} (hf : ∀ x ∈ scope.names, x.2 = .free → ∃ c, env.cells.lookup x.1 = some c) :
    ∃ cl : List (Str × Addr), closureFor scope env = pure cl ∧ (∀ x c, cl.lookup x = some c → env.cells.lookup x = some c) ∧ (∀ x ∈ scope.names, x.2 = .free → ∃ c, cl.lookup x.1 = some c) := by
  obtain ⟨cl, e, h1, _, h3⟩ := closure_is scope.names [] hf (fun _ _ z => by cases z)
  refine ⟨cl, ?_, h1, h3⟩
  simp only [closureFor]
  exact (congrArg (fun m : Sem (List (Str × Addr)) => m >>= fun s => pure s) e).trans rfl
/-! ### a turn of the loop, the pair's own step kept -/
section
variable {prog : Program} {w : World} {A : Around} {R : Result → Shared → Prop} {s : Shared}
theorem loop_turns {elt target iter : Expr} {ifs : List Expr} {scope : Scope} {pos : Pos} {it acc : Value} {env : Env} (I : Nat → Shared → Prop)
    (turn : ∀ n s, I n s → wpAny (model prog w) A (pyNext it) (fun r s₁ => match r with
      | none => R (.ok .next) s₁
      | some v => wpAny (model prog w) A (letOwnedTupleGo target it v) (fun _ s₁ => wpAny (model prog w) A (assign target env v) (fun _ s₂ =>
          wpAny (model prog w) A (forIn ifs true fun c r => if r = true then do let ok ← isTrue c env (eval c env); pure (ForInStep.yield ok) else pure (ForInStep.yield r)) (fun ok s₃ =>
            if ok = true then wpAny (model prog w) A (eval elt env) (fun x s₄ =>
              wpAny (model prog w) A (call (.builtin "list.append") [acc, x]) (fun _ s₅ => ∃ m, m < n ∧ I m s₅) (fun _ _ => False) s₄) (fun _ _ => False) s₃
            else ∃ m, m < n ∧ I m s₃) (fun _ _ => False) s₂) (fun _ _ => False) s₁) (fun _ _ => False) s₁) (fun _ _ => False) s)
    (n : Nat) (h : I n s) :
    codeAny (model prog w) A (.compLoop (.ListComp elt [⟨target, iter, ifs, 0⟩] scope pos) 0 it acc env) R s := by
  refine codeAny_loop rfl I (fun n s hI => ?_) n h
  show wpAny _ A ((compTurn (.ListComp elt [⟨target, iter, ifs, 0⟩] scope pos) 0 it acc env).onRaise (fun x => do noteFrame x env; theTreesLotGoes x)) _ _ s
  refine wpAny_noted ?_
  rw [compTurn_list]
  refine wpAny_bind (wpAny_standAt (wpAny_bind (wpAny_mono (turn n s hI) (fun r s₁ h₁ => ?_) fun _ _ h' => h'.elim)))
  cases r with
  | none => exact wpAny_pure h₁
  | some v =>
    refine wpAny_bind (wpAny_mono h₁ (fun _ s₁ h₁ => ?_) fun _ _ h' => h'.elim)
    refine wpAny_bind (wpAny_mono h₁ (fun _ s₂ h₂ => wpAny_bind (wpAny_mono h₂ (fun ok s₃ h₃ => ?_) fun _ _ h' => h'.elim)) fun _ _ h' => h'.elim)
    cases ok with
    | false => exact wpAny_pure ⟨rfl, h₃⟩
    | true =>
      exact wpAny_bind (wpAny_bind (wpAny_mono h₃ (fun x s₄ h₄ => wpAny_bind (wpAny_mono h₄ (fun _ s₅ h₅ => wpAny_pure (wpAny_pure ⟨rfl, h₅⟩)) fun _ _ h' => h'.elim)) fun _ _ h' => h'.elim))
end
/-! ### the block's context -/
def blk (X : Cx) (N' : List Str) (scope : Scope) (cl : List (Str × Addr)) (C : Addr) (s : Shared) (H : Hp) (ex : List Addr) : Cx :=
  { prog := X.prog, w := X.w, K := X.K, mg := X.mg, base := X.base, A := X.A, N := N', s₀ := s, H₀ := H, env := compEnvC scope cl C X.env, outer := X.stack, stack := X.stack, ex := ex, fn := fun _ => false, calm := X.calm, pn := [], xe := fun _ _ => False }
def PIfs (X : Cx) (ifs : List Expr) (t : TT) : Prop :=
  ∀ (pins : List (Addr × Obj)) (s : Shared) (σ : St) (H : Hp) (Q : Bool → Hp → Prop), Inv X pins σ H s → t σ H Q →
    wpAny (model X.prog X.w) X.A (forIn ifs true fun c r => if r = true then do let ok ← isTrue c X.env (eval c X.env); pure (ForInStep.yield ok) else pure (ForInStep.yield r)) (TP X pins σ Q) X.xe s
def tYes : TT := fun _ H Q => Q true H
theorem pifs_one {X : Cx} {c : Expr} {t : TT} (h : PT X c t) : PIfs X [c] t := fun pins s σ H Q I q => wpAny_tests_one (h pins s σ H Q I q)
/-- the names at the block's entry: its own, then the caught ones -/
def blkσ (own : Nat) (fr : List Nat) (σ : St) : St := List.replicate own none ++ fr.map fun j => (σ[j]?).join
/-- W: by the turn, a measure, what is in the list; l: the list -/
def tComp (own : Nat) (fr : List Nat) (wi : TI) (g : TG) (tt : TT) (te : TE) : TE := fun σ H Q => wi σ H fun J H1 => ∀ l, H1 l = none →
  ∃ W : Nat → Nat → List V → St → Hp → Prop, (∃ m, W 0 m [] (blkσ own fr σ) (upd H1 l (.lst []))) ∧ ∀ i m ys σ H, W i m ys σ H →
    (J.stop i H ∧ Q (.ref l) H) ∨ (J.go i H ∧ ∀ x H', J.yld i H x H' → g x σ H' fun σ2 H2 => tt σ2 H2 fun b H3 =>
      if b = true then te σ2 H3 fun v H4 => H4 l = some (.lst ys) ∧ ys.length < sizeLine ∧ ∃ m', m' < m ∧ W (i + 1) m' (ys ++ [v]) σ2 (upd H4 l (.lst (ys ++ [v])))
      else ∃ m', m' < m ∧ W (i + 1) m' ys σ2 H3)
/-- the shape of a comprehension's scope: own names, then caught ones -/
structure BlkScope (N : List Str) (sc : Scope) (N' : List Str) (own : Nat) (fr : List Nat) (scope : Scope) : Prop where
  kind : scope.kind = .function
  nocell : ∀ y ∈ scope.names, y.2 ≠ .cell
  names : ∀ y ∈ scope.names, y.2 = .local → scope.names.lookup y.1 = some .local
  len : N'.length = own + fr.length
  free : ∀ y ∈ scope.names, y.2 = .free → sc.names.lookup y.1 = some .cell ∨ sc.names.lookup y.1 = some .free
  apart : ∀ y ∈ scope.names, y.2 = .free → scope.names.lookup y.1 ≠ some .local
  ixs : ∀ k ∈ List.range fr.length, N'[own + k]? = N[fr[k]?.getD 0]? ∧ (N'[own + k]?.getD "", NameKind.free) ∈ scope.names
theorem BlkScope.ix {N : List Str} {sc : Scope} {N' : List Str} {own : Nat} {fr : List Nat} {scope : Scope} (B : BlkScope N sc N' own fr scope) (k j : Nat) (h : fr[k]? = some j) : ∃ x, N'[own + k]? = some x ∧ N[j]? = some x ∧ (x, NameKind.free) ∈ scope.names := by
  have hk : k < fr.length := (List.getElem?_eq_some_iff.mp h).1
  obtain ⟨e1, e2⟩ := B.ixs k (List.mem_range.mpr hk)
  have hlt : own + k < N'.length := by rw [B.len]; omega
  have e3 : N'[own + k]? = some N'[own + k] := List.getElem?_eq_getElem hlt
  rw [h] at e1
  rw [e3] at e1 e2
  exact ⟨_, e3, e1.symm, e2⟩
theorem relabel_lookup {env : Env} {x : Str} {k : NameKind} : ∀ {names : List (Str × NameKind)},
    (names.map fun (n, k) => if (k == NameKind.free && env.scope.kind == .function && env.kindOf n == some .cell) then (n, NameKind.cell) else (n, k)).lookup x = some k → ∃ k', (x, k') ∈ names ∧ (k = k' ∨ (k = .cell ∧ k' = .free))
  | [], h => by cases h
  | (n, k0) :: r, h => by
    rw [List.map_cons] at h
    by_cases hc : (k0 == NameKind.free && env.scope.kind == .function && env.kindOf n == some .cell) = true
    · simp only [hc, if_true, List.lookup_cons] at h
      cases hx : x == n with
      | true =>
        have hx' : x = n := by simpa using hx
        subst hx'
        simp only [hx] at h
        cases h
        have : k0 = .free := by
          simp only [Bool.and_eq_true, beq_iff_eq] at hc
          exact hc.1.1
        exact ⟨k0, List.mem_cons_self, .inr ⟨rfl, this⟩⟩
      | false =>
        simp only [hx] at h
        obtain ⟨k', m, q⟩ := relabel_lookup h
        exact ⟨k', List.mem_cons_of_mem _ m, q⟩
    · have hc' : (k0 == NameKind.free && env.scope.kind == .function && env.kindOf n == some .cell) = false := by simpa using hc
      simp only [hc', Bool.false_eq_true, if_false, List.lookup_cons] at h
      cases hx : x == n with
      | true =>
        have hx' : x = n := by simpa using hx
        subst hx'
        simp only [hx] at h
        cases h
        exact ⟨_, List.mem_cons_self, .inl rfl⟩
      | false =>
        simp only [hx] at h
        obtain ⟨k', m, q⟩ := relabel_lookup h
        exact ⟨k', List.mem_cons_of_mem _ m, q⟩
section
variable {X : Cx} {tg : Expr}
/-- what the loop leaves: the list is made, the frame is as it was -/
theorem comp_run {elt iter : Expr} {ifs : List Expr} {scope : Scope} {pos : Pos} {N' : List Str} {own : Nat} {fr : List Nat} {wi : TI} {g : TG} {tt : TT} {te : TE} (hc : X.calm = true) (B : BlkScope X.N X.env.scope N' own fr scope) (hi : PI X tg iter wi)
    (hg : ∀ cl C s H ex, PG (blk X N' scope cl C s H ex) tg g) (ht : ∀ cl C s H ex, PIfs (blk X N' scope cl C s H ex) ifs tt) (he : ∀ cl C s H ex, PE (blk X N' scope cl C s H ex) elt te)
    {pins : List (Addr × Obj)} {s : Shared} {σ : St} {H : Hp} {Q : VK} {use : Option (Value → Sem Unit)} {QQ : Value → Shared → Prop} (I : Inv X pins σ H s) (h : tComp own fr wi g tt te σ H Q)
    (fin : ∀ l C H' s', Inv X pins σ H' s' → Q (.ref l) H' → (∃ m, s'.heap.Ns C m) → FpOk X pins H' C → compPost (model X.prog X.w) X.A X.xe use QQ (.ref l) C (.ok .next) s')
    (hs : ∀ x, foldedSetIterable iter X.env x = pure x) :
    wpAny (model X.prog X.w) X.A (comprehension (.ListComp elt [⟨tg, iter, ifs, 0⟩] scope pos) scope X.env (firstIterPos [⟨tg, iter, ifs, 0⟩] pos) (newList []) false (eval iter X.env) use) QQ X.xe s := by
  obtain ⟨cl, ecl, cl1, cl2⟩ := closureFor_is (scope := scope) (env := X.env) fun x hx hf => I.ok.has x.1 (B.free x hx hf)
  refine wpAny_comprehension_free rfl hs ecl B.kind B.names (thn (hi pins s σ H _ I h) fun v s1 h1 => thn h1 fun itv s2 h2 => ?_)
  obtain ⟨it, fp, tn, J, H2, e, I2, T, st2, f2, hq⟩ := h2
  subst e
  refine wpAny_newObj_type (wpAny_newFunctionEnv B.nocell (by intro y hy; simp at hy) (fun h₁ hns₁ hsb₁ => ?_) B.kind)
  dsimp only at hns₁ hsb₁ ⊢
  have I3 := I2.lnew (its := []) (ys := []) (t' := s2.toks) .nil (Nat.zero_le _)
  obtain ⟨W, ⟨m0, w0⟩, turn⟩ := hq s2.heap.objs.size I2.fresh
  have e3 : ({ s2 with heap := s2.heap.push { cls := .type "list", data := .seq ([] : List Value).toArray }, toks := s2.toks } : Shared) = { s2 with heap := s2.heap.push { cls := .type "list", data := .seq ([] : List Value).toArray } } := rfl
  rw [e3] at I3
  generalize hs3 : ({ s2 with heap := s2.heap.push { cls := .type "list", data := .seq ([] : List Value).toArray } } : Shared) = s3 at I3
  have hh3 : s3.heap = s2.heap.push { cls := .type "list", data := .seq ([] : List Value).toArray } := by rw [← hs3]
  have hs1 : s2.heap.objs.size < s3.heap.objs.size := by rw [hh3, Heap.size_push]; exact Nat.lt_succ_self _
  generalize hl : s2.heap.objs.size = l at *
  generalize hC : (s2.heap.push { cls := .type "list", dict := none, data := .seq ([] : List Value).toArray }).objs.size = C at *
  have hC3 : s3.heap.objs.size = C := by rw [hh3]; exact hC
  have fpl : ∀ b ∈ fp, b < l := fun b hb => by
    obtain ⟨o, e, _⟩ := T.obj _ _ st2 b hb
    rw [← hl]; exact Heap.lt_size e
  have hlC : l < C := by rw [← hC3]; exact hs1
  have f3 : ∀ b ∈ fp, FpOk X pins (upd H2 l (.lst [])) b := fun b hb => ⟨by rw [upd_ne (Nat.ne_of_lt (fpl b hb))]; exact (f2 b hb).1, (f2 b hb).2⟩
  have okB : (blk X N' scope cl C s3 (upd H2 l (.lst [])) fp).Ok := by
    refine ⟨I3.ok.mod, B.kind, I3.ok.glob, I3.ok.blt, Nat.le_of_eq hC3, fun x y c h1 h2 => I3.ok.inj x y c (cl1 x c h1) (cl1 y c h2), fun x hx => ?_, fun x c z => absurd z Bool.false_ne_true, I3.ok.hd, I3.ok.frames, .inl rfl, fun b hb => ⟨?_, fun x c e => (f3 b hb).2.2.2.2.1 x c (cl1 x c e)⟩, fun b o e => I3.bs b o e, Nat.le_trans I3.ok.bsz I3.sz, fun b o e hb => ?_, fun b hb z => ?_, I3.stack, I3.stkFree⟩
    · have : ∃ k, (relabel scope X.env).names.lookup x = some k ∧ (k = .cell ∨ k = .free) := by
        rcases hx with hx | hx
        · exact ⟨_, hx, .inl rfl⟩
        · exact ⟨_, hx, .inr rfl⟩
      obtain ⟨k, hk, hkk⟩ := this
      obtain ⟨k', hm, hk'⟩ := relabel_lookup hk
      have hfr : k' = .free := by
        rcases hk' with rfl | ⟨_, z⟩
        · rcases hkk with rfl | rfl
          · exact absurd rfl (B.nocell _ hm)
          · rfl
        · exact z
      subst hfr
      exact cl2 (x, .free) hm rfl
    · exact Nat.ne_of_lt (Nat.lt_trans (fpl b hb) hlC)
    · rcases (f3 b hb).2.2.2.1 with z | z
      · exact I3.ok.noex b o e z
      · exact absurd (Nat.lt_of_lt_of_le (Heap.lt_size e) (Nat.le_trans I3.ok.bsz z)) (Nat.lt_irrefl _)
    · rcases List.mem_cons.mp (I3.stkSub b z) with q | q
      · exact (f3 b hb).2.1 q
      · exact (f3 b hb).2.2.1 q
  have old : ∀ b o, s3.heap.get? b = some o → h₁.get? b = some o := fun b o e => hsb₁.extBut b o (Nat.ne_of_lt (by rw [← hC3]; exact Heap.lt_size e)) (Heap.get?_push_of_some _ (by rw [hh3] at e; exact e))
  have I4 : Inv (blk X N' scope cl C s3 (upd H2 l (.lst [])) fp) [] (blkσ own fr σ) (upd H2 l (.lst [])) { s3 with heap := h₁ } := by
    refine ⟨okB, rfl, I3.bare, Un.kept old, ⟨_, hns₁, fun i x v h1 h2 h3 => ?_⟩, fun x c e => ?_, I3.hok.fresh (Nat.le_of_eq hC3), fun x c e => I3.freeC x c (cl1 x c e), (fun p hp => absurd hp (List.not_mem_nil)), I3.hok.kept old, ?_⟩
    · unfold blkσ at h2
      by_cases hio : i < own
      · rw [List.getElem?_append_left (by simpa using hio), List.getElem?_replicate, if_pos hio] at h2
        cases h2
      · rw [List.getElem?_append_right (by simpa using hio), List.length_replicate, List.getElem?_map] at h2
        cases hj : fr[i - own]? with
        | none => rw [hj] at h2; cases h2
        | some j =>
          rw [hj] at h2
          have h2' : (σ[j]?).join = some v := Option.some.inj h2
          obtain ⟨x', n1, n2, n3⟩ := B.ix _ _ hj
          have hio' : own + (i - own) = i := by omega
          rw [hio'] at n1
          have n1' : N'[i]? = some x := h1
          rw [n1'] at n1
          cases n1
          have hσ : σ[j]? = some (some v) := by
            cases q : σ[j]? with
            | none => rw [q] at h2'; cases h2'
            | some o => rw [q] at h2'; cases o with
              | none => cases h2'
              | some v' => cases h2'; rfl
          have hvis := B.free _ n3 rfl
          obtain ⟨m', hn', hl'⟩ := I3.loc
          obtain ⟨u, ru, lk⟩ := hl' j x v n2 hσ (.inr hvis)
          refine ⟨u, ru, ?_⟩
          obtain ⟨c, hc⟩ := cl2 _ n3 rfl
          rcases lk with ⟨k1, _⟩ | ⟨_, c', hc', hcell⟩
          · have k1' : X.env.scope.names.lookup x = some .local := k1
            rcases hvis with z | z <;> (rw [k1'] at z; cases z)
          · have : c' = c := Option.some.inj (hc'.symm.trans (cl1 x c hc))
            subst this
            have hkind : ∃ k, (relabel scope X.env).names.lookup x = some k := by
              rcases h3 with z | z | z
              · exact ⟨_, z⟩
              · exact ⟨_, z⟩
              · exact ⟨_, z⟩
            refine .inr ⟨?_, c', hc, ?_⟩
            · rcases h3 with z | z | z
              · exfalso
                obtain ⟨k', hm, hk'⟩ := relabel_lookup z
                have : k' = .local := by
                  rcases hk' with q | ⟨q, _⟩
                  · exact q.symm
                  · cases q
                subst this
                have q1 := B.names _ hm rfl
                exact B.apart _ n3 rfl q1
              · exact .inl z
              · exact .inr z
            · obtain ⟨o, ho, hd⟩ := hcell
              exact ⟨o, old _ o ho, hd⟩
    · obtain ⟨v, o, ho, hd⟩ := I3.cell x c (cl1 x c e)
      exact ⟨v, o, old _ o ho, hd⟩
    · unfold blkσ
      show _ = N'.length
      rw [List.length_append, List.length_replicate, List.length_map, B.len]
  have st4 : tn 0 h₁ := T.keep _ _ _ st2 fun b hb o e => old b o (by rw [hh3]; exact Heap.get?_push_of_some _ e)
  -- what stays true of the iterator's records
  have stat : ∀ {H' : Hp}, (∀ b ∈ fp, H' b = none) → ∀ b ∈ fp, FpOk (blk X N' scope cl C s3 (upd H2 l (.lst [])) fp) [] H' b := fun hn b hb =>
    ⟨hn b hb, (okB.exf b hb).1, okB.exfs b hb, .inl hb, (okB.exf b hb).2, (fun p hp => absurd hp (List.not_mem_nil))⟩
  have loop : codeAny (model X.prog X.w) X.A (.compLoop (.ListComp elt [⟨tg, iter, ifs, 0⟩] scope pos) 0 (.ref it) (.ref l) (compEnvC scope cl C X.env)) (compPost (model X.prog X.w) X.A X.xe use QQ (.ref l) C) { s3 with heap := h₁ } := by
    refine loop_turns (fun n s' => ∃ i ys σ' H', Inv (blk X N' scope cl C s3 (upd H2 l (.lst [])) fp) [] σ' H' s' ∧ tn i s'.heap ∧ (∀ b ∈ fp, H' b = none) ∧ W i n ys σ' H') ?_ m0 ⟨0, [], _, _, I4, st4, fun b hb => (f3 b hb).1, w0⟩
    rintro n s5 ⟨i, ys, σ5, H5, I5, st5, fr5, w5⟩
    rcases turn i n ys σ5 H5 w5 with ⟨stop, q⟩ | ⟨go, step⟩
    · refine thn (T.done (blk X N' scope cl C s3 (upd H2 l (.lst [])) fp) rfl rfl rfl hc i [] s5 σ5 H5 _ I5 (stat fr5) st5 stop) fun r s6 ⟨hr, I6⟩ => ?_
      subst hr
      have IX : Inv X pins σ H5 s6 := I3.call' (ch := fp) I6.os I6.base I6.hok I6.bare fun b hb => ⟨(f3 b hb).2.2.2.1, (f3 b hb).2.1, (f3 b hb).2.2.2.2.1, (f3 b hb).2.2.2.2.2⟩
      obtain ⟨m, hn, _⟩ := I6.loc
      exact fin l C H5 s6 IX q ⟨m, hn⟩ (I3.fpOk (Nat.le_of_eq hC3) I6.free)
    · refine thn (T.item (blk X N' scope cl C s3 (upd H2 l (.lst [])) fp) rfl rfl rfl hc i [] s5 σ5 H5 _ I5 (stat fr5) st5 go) fun r s6 ⟨u, hr, h6⟩ => ?_
      subst hr
      refine thn h6 fun _ s7 ⟨x, H7, I7, r7, y7, st7, fr7⟩ => ?_
      have I7' := I7.pinned (stat fr7) (T.obj _ _ st7)
      have keep : ∀ {σ8 : St} {H8 : Hp} {s8 : Shared}, Inv (blk X N' scope cl C s3 (upd H2 l (.lst [])) fp) ([] ++ pinsAt fp s7.heap) σ8 H8 s8 → tn (i + 1) s8.heap ∧ ∀ b ∈ fp, H8 b = none := fun {σ8 H8 s8} I8 => by
        refine ⟨T.keep _ _ _ st7 fun b hb o e => (I8.pin (b, o) (List.mem_append_right _ (List.mem_append_right _ (mem_pinsAt hb e)))).1, fun b hb => ?_⟩
        obtain ⟨o, e, d⟩ := T.obj _ _ st7 b hb
        exact (I8.pin (b, o) (List.mem_append_right _ (List.mem_append_right _ (mem_pinsAt hb e)))).2.1
      refine thn (hg cl C s3 (upd H2 l (.lst [])) fp _ s7 σ5 H7 x u _ I7' r7 (step x H7 y7)) fun _ s8 ⟨σ8, H8, I8, q8⟩ => ?_
      refine thn (ht cl C s3 (upd H2 l (.lst [])) fp _ s8 σ8 H8 _ I8 q8) fun ok s9 ⟨H9, I9, q9⟩ => ?_
      cases ok with
      | false =>
        rw [if_neg (by decide)] at q9 ⊢
        obtain ⟨m', hm, w9⟩ := q9
        exact ⟨m', hm, i + 1, ys, σ8, H9, I9.unpinned, (keep I9).1, (keep I9).2, w9⟩
      | true =>
        rw [if_pos rfl] at q9 ⊢
        refine thn (he cl C s3 (upd H2 l (.lst [])) fp _ s9 σ8 H9 _ I9 q9) fun y sA ⟨v, HA, IA, rA, hA, hz, m', hm, wA⟩ => ?_
        refine thn (mt_append (X := blk X N' scope cl C s3 (upd H2 l (.lst [])) fp) _ sA σ8 HA (.ref l) [v] (.ref l) [y] (fun z H' => z = .non ∧ H' = upd HA l (.lst (ys ++ [v]))) IA rfl (.cons rA .nil) ⟨l, ys, v, rfl, rfl, hA, hz, rfl, rfl⟩) fun _ sB ⟨_, HB, IB, _, _, eB⟩ => ?_
        subst eB
        exact ⟨m', hm, i + 1, ys ++ [v], σ8, _, IB.unpinned, (keep IB).1, (keep IB).2, wA⟩
  have e4 : ({ s3 with heap := h₁ } : Shared) = { s2 with heap := h₁, toks := s2.toks + ([] : List (Str × Value)).length } := by rw [← hs3]; rfl
  rw [e4] at loop
  exact codeAny_compStart_list loop (T.self _ 0 _ _ _ (by exact st4) loop)
theorem pe_comp {elt iter : Expr} {ifs : List Expr} {scope : Scope} {pos : Pos} {N' : List Str} {own : Nat} {fr : List Nat} {wi : TI} {g : TG} {tt : TT} {te : TE} (hc : X.calm = true) (B : BlkScope X.N X.env.scope N' own fr scope) (hi : PI X tg iter wi)
    (hg : ∀ cl C s H ex, PG (blk X N' scope cl C s H ex) tg g) (ht : ∀ cl C s H ex, PIfs (blk X N' scope cl C s H ex) ifs tt) (he : ∀ cl C s H ex, PE (blk X N' scope cl C s H ex) elt te)
    (hs : ∀ x, foldedSetIterable iter X.env x = pure x := by intro _; rfl) : PE X (.ListComp elt [⟨tg, iter, ifs, 0⟩] scope pos) (tComp own fr wi g tt te) := by
  intro pins s σ H Q I h
  rw [eval_ListComp]
  refine comp_run hc B hi hg ht he I h (use := none) (fun l C H' s' I' q ⟨m, hn⟩ f => ?_) hs
  refine ⟨m, hn, fun h' hsb => ⟨.ref l, H', ?_, rfl, q⟩⟩
  exact I'.turned (t' := s'.toks) (fun b o hb e => (hsb.2 b hb).trans e) f.1 f.2.1 f.2.2.2.1 f.2.2.2.2.1 f.2.2.2.2.2
/-- y = [..], y a plain name: stored ahead of the block's own names going -/
theorem ps_setC {i : Nat} {x : Str} {px spos : Pos} {elt iter : Expr} {ifs : List Expr} {scope : Scope} {pos : Pos} {N' : List Str} {own : Nat} {fr : List Nat} {wi : TI} {g : TG} {tt : TT} {te : TE} (hN : X.N.Nodup) (hix : X.N[i]? = some x) (hx : X.env.scope.names.lookup x = some .local) (hc : X.calm = true) (B : BlkScope X.N X.env.scope N' own fr scope) (hi : PI X tg iter wi)
    (hg : ∀ cl C s H ex, PG (blk X N' scope cl C s H ex) tg g) (ht : ∀ cl C s H ex, PIfs (blk X N' scope cl C s H ex) ifs tt) (he : ∀ cl C s H ex, PE (blk X N' scope cl C s H ex) elt te)
    (hsw : swapsWith (.ListComp elt [⟨tg, iter, ifs, 0⟩] scope pos) (some (.Name x px)) spos.line X.env = pure true := by rfl) (hs : ∀ x, foldedSetIterable iter X.env x = pure x := by intro _; rfl) :
    PS X (.Assign [.Name x px] (.ListComp elt [⟨tg, iter, ifs, 0⟩] scope pos) spos) (tAsg (tComp own fr wi g tt te) (gName i)) := by
  intro pins s σ H D I h
  rw [exec_Assign_Name_used _ _ _ _ hsw]
  refine wpAny_bind (wpAny_standAt (wpAny_bind ?_))
  show wpAny _ _ (do let _ ← comprehension (.ListComp elt [⟨tg, iter, ifs, 0⟩] scope pos) scope X.env _ (newList []) false (eval iter X.env) (some (assign (.Name x px) X.env))) _ _ s
  refine wpAny_bind (wpAny_mono (comp_run hc B hi hg ht he I h (use := some (assign (.Name x px) X.env)) (QQ := fun _ s' => SP X pins D .next s') (fun l C H' s' I' q ⟨m, hn⟩ f => ?_) hs) (fun _ s' hq => wpAny_pure (wpAny_pure hq)) fun _ _ e => e)
  show wpAny _ _ (assign (.Name x px) X.env (.ref l)) _ _ s'
  refine wpAny_assign_Name (store_ok2 I' hN hix (.inl hx) (v := .ref l) rfl (fun s'' I'' ⟨a, hsa, ha⟩ => ?_) (.inr hx))
  have ne : C ≠ a := by
    rcases ha with rfl | ha
    · exact f.2.1
    · exact fun z => f.2.2.2.2.1 _ _ ha z.symm
  refine ⟨m, hn.sameBut hsa ne, fun h' hsb => ⟨_, H', ?_, q⟩⟩
  exact I''.turned (t' := s''.toks) (fun b o hb e => (hsb.2 b hb).trans e) f.1 f.2.1 f.2.2.2.1 f.2.2.2.2.1 f.2.2.2.2.2
end
/-! ### rules whose reading names the kit, in a block -/
section
variable {X : Cx} {N' : List Str} {scope : Scope} {cl : List (Str × Addr)} {C : Addr} {s : Shared} {H : Hp} {ex : List Addr}
end
/-! ### the form one uses: nothing but new objects is made -/
theorem comp_gen {own : Nat} {fr : List Nat} {σ0 : St} {J : It} {g : TG} {tt : TT} {te : TE} {H1 : Hp} {Q : Addr → Hp → Prop} {n : Nat} (p : Nat → Bool) (f : Nat → V) (S : St → Prop) (h0 : S σ0) (hn : n ≤ sizeLine)
    (hy : ∀ i H' x H'', i < n → Same H1 H' → J.yld i H' x H'' → Same H' H'')
    (hJ : ∀ i σ H', i < n → S σ → Same H1 H' → J.go i H' ∧ ∀ x H'', J.yld i H' x H'' → ∀ (R : V → St → Hp → Prop) (R0 : St → Hp → Prop), (p i = true → ∀ σ2 H3, S σ2 → Same H'' H3 → R (f i) σ2 H3) → (p i = false → ∀ σ2 H3, S σ2 → Same H'' H3 → R0 σ2 H3) →
      g x σ H'' fun σ2 H2 => tt σ2 H2 fun b H3 => if b = true then te σ2 H3 fun v H4 => R v σ2 H4 else R0 σ2 H3)
    (hstop : ∀ H', Same H1 H' → J.stop n H')
    (hQ : ∀ l H', H1 l = none → Same H1 H' → H' l = some (.lst (((List.range n).filter p).map f)) → Q l H') :
    ∀ l, H1 l = none → ∃ W : Nat → Nat → List V → St → Hp → Prop, (∃ m, W 0 m [] σ0 (upd H1 l (.lst []))) ∧ ∀ i m ys σ H, W i m ys σ H →
    (J.stop i H ∧ Q l H) ∨ (J.go i H ∧ ∀ x H', J.yld i H x H' → g x σ H' fun σ2 H2 => tt σ2 H2 fun b H3 =>
      if b = true then te σ2 H3 fun v H4 => H4 l = some (.lst ys) ∧ ys.length < sizeLine ∧ ∃ m', m' < m ∧ W (i + 1) m' (ys ++ [v]) σ2 (upd H4 l (.lst (ys ++ [v])))
      else ∃ m', m' < m ∧ W (i + 1) m' ys σ2 H3) := by
  intro l hl
  refine ⟨fun i m ys σ H' => m = n - i ∧ i ≤ n ∧ S σ ∧ ys = ((List.range i).filter p).map f ∧ Same H1 H' ∧ H' l = some (.lst ys), ⟨n, by simp, Nat.zero_le _, h0, rfl, Same.new (Same.refl _) hl, upd_same⟩, ?_⟩
  rintro i m ys σ H' ⟨rfl, hi, hS, rfl, sm, hH⟩
  by_cases hlt : i < n
  · right
    obtain ⟨go, step⟩ := hJ i σ H' hlt hS sm
    refine ⟨go, fun x H'' y => ?_⟩
    have sy := hy i H' x H'' hlt sm y
    have hsnoc : List.range (i + 1) = List.range i ++ [i] := List.range_succ
    have hlen : (((List.range i).filter p).map f).length < sizeLine := by
      have := List.length_filter_le p (List.range i)
      rw [List.length_map]
      rw [List.length_range] at this
      omega
    refine step x H'' y (fun v σ2 H4 => H4 l = some (.lst (((List.range i).filter p).map f)) ∧ (((List.range i).filter p).map f).length < sizeLine ∧ ∃ m', m' < n - i ∧ m' = n - (i + 1) ∧ i + 1 ≤ n ∧ S σ2 ∧ (((List.range i).filter p).map f) ++ [v] = ((List.range (i + 1)).filter p).map f ∧ Same H1 (upd H4 l (.lst ((((List.range i).filter p).map f) ++ [v]))) ∧ upd H4 l (.lst ((((List.range i).filter p).map f) ++ [v])) l = some (.lst ((((List.range i).filter p).map f) ++ [v])))
      (fun σ2 H3 => ∃ m', m' < n - i ∧ m' = n - (i + 1) ∧ i + 1 ≤ n ∧ S σ2 ∧ (((List.range i).filter p).map f) = ((List.range (i + 1)).filter p).map f ∧ Same H1 H3 ∧ H3 l = some (.lst (((List.range i).filter p).map f))) ?_ ?_
    · intro hp σ2 H3 hS2 s3
      refine ⟨s3 _ _ (sy _ _ hH), hlen, n - (i + 1), by omega, rfl, hlt, hS2, ?_, ?_, upd_same⟩
      · rw [hsnoc, List.filter_append]
        simp [hp]
      · intro b u e
        have ne : b ≠ l := fun z => by rw [z, hl] at e; cases e
        rw [upd_ne ne]
        exact s3 _ _ (sy _ _ (sm _ _ e))
    · intro hp σ2 H3 hS2 s3
      refine ⟨n - (i + 1), by omega, rfl, hlt, hS2, ?_, fun b u e => s3 _ _ (sy _ _ (sm _ _ e)), s3 _ _ (sy _ _ hH)⟩
      rw [hsnoc, List.filter_append]
      simp [hp]
  · obtain rfl : i = n := by omega
    exact .inl ⟨hstop H' sm, hQ l H' hl sm hH⟩
end L2

local macro_rules | `(tactic| tm_at "blk_is") => `(tactic| exact ⟨by decide +kernel, by decide +kernel, by decide +kernel, by decide +kernel, by decide +kernel, by decide +kernel, by decide +kernel⟩)

set_option Elab.async false
set_option linter.all false
set_option maxRecDepth 100000
set_option maxHeartbeats 4000000
/-! BUILT-IN FUNCTIONS over the layer: all, sum, max(.., default=..), sorted. -/
namespace L2
open PySem PySem.Spec PyProof.Rows
theorem intsAre_of_vals : ∀ {ns : List Int} {us : List Value}, Vals (ns.map V.int) us → IntsAre us ns
  | [], us, h => by cases h; exact .nil
  | n :: ns, us, h => by
    cases h with
    | cons r rs =>
      obtain ⟨t, rfl⟩ := r
      exact .cons n t (intsAre_of_vals rs)
section
variable {X : Cx}
theorem call_sortedI : CallR X (.builtin "sorted") (fun xs H Q => ∃ (a : Addr) (ns : List Int), xs = [.ref a] ∧ SqL X.K H a (ns.map V.int) ∧ ns.length < 64 ∧ ∀ (l : Addr) (ns' : List Int), H l = none → ns'.Perm ns → ns'.Pairwise (· ≤ ·) → Q (.ref l) (upd H l (.lst (ns'.map V.int)))) := by
  intro pins s σ H xs us Q I r h
  obtain ⟨a, ns, rfl, hq, h64, q⟩ := h
  obtain ⟨u, rfl, ru⟩ := vals1 r
  cases ru
  obtain ⟨its, rv, p, hz⟩ := I.list hq
  have hi := intsAre_of_vals rv
  have hl : its.length = ns.length := by rw [← rv.length, List.length_map]
  refine sorted_ints p.isList hi (by omega) fun out ns' a1 a2 a3 => ?_
  obtain ⟨e, he⟩ := sortedAll_at s.heap its out
  have hfr : H (s.heap.objs.size + 1) = none := I.hok.fresh (Nat.le_succ _)
  refine ⟨.ref (s.heap.objs.size + 1), _, I.laid (a := s.heap.objs.size + 1) (o := .lst (ns'.map V.int)) (t' := s.toks) (fun _ _ => sortedAll_old) (Nat.le_succ _) ⟨?_, out.toList, e, vals_ints a1, ?_⟩, rfl, q _ _ hfr a2 a3⟩
  · have h1 := a2.length_eq
    rw [List.length_map]
    exact Nat.le_trans (show ns'.length ≤ 64 by omega) (by decide)
  · rw [Array.toArray_toList]; exact he
end
/-! ### max(.., default=..) of a list of ints -/
def maxD (d : Int) (ns : List Int) : Int := match ns with
  | [] => d
  | n :: r => r.foldl (fun a b => if b > a then b else a) n
section
variable {prog : Program} {w : World} {A : Around} {R : Result → Shared → Prop} {I : Addr} {fp wr : List Addr} {n : Nat} {P : Nat → Value → Prop} {St : Nat → Heap → Prop}
end
section
variable {prog : Program} {w : World} {A : Around} {E : Value → Shared → Prop} {s : Shared}
end
section
variable {X : Cx}
/-- max(e, default=d) -/
def tMaxD (te td : TE) (K : PySem.W.Frag) : TE := fun σ H Q => te σ H fun x H1 => td σ H1 fun y H2 => ∃ (a : Addr) (ns : List Int) (d : Int), x = .ref a ∧ y = .int d ∧ SqL K H2 a (ns.map V.int) ∧ ∀ M, ((ns = [] ∧ M = d) ∨ (M ∈ ns ∧ ∀ n ∈ ns, n ≤ M)) → Q (.int M) H2
end
end L2


set_option Elab.async false
set_option linter.all false
set_option maxRecDepth 100000
set_option maxHeartbeats 4000000
/-! WALKS over the layer: enumerate(list), zip(list, list). -/
namespace L2
open PySem PySem.Spec PyProof.Rows
section
variable {X : Cx} {pins : List (Addr × Obj)} {σ : St} {H : Hp} {s : Shared} {h' : Heap} {fp : List Addr}
/-- several records of ours have turned, a new object is laid -/
theorem Inv.turnLaid {t' : Nat} {T : Addr} {o : HO} (I : Inv X pins σ H s) (hf : ∀ b ∈ fp, FpOk X pins H b) (k : ∀ b u, b ∉ fp → s.heap.get? b = some u → h'.get? b = some u) (hT : s.heap.objs.size ≤ T) (new : ObjOk X.prog X.w (upd H T o) h' T o) :
    Inv X pins σ (upd H T o) { s with heap := h', toks := t' } := by
  have hn : H T = none := I.hok.fresh hT
  refine I.step (g' := s.gens) (d' := s.drawn) (ch := fp) (fun b hb => ⟨(hf b hb).2.2.2.1, (hf b hb).2.1, (hf b hb).2.2.2.2.1, (hf b hb).2.2.2.2.2⟩) (fun b u _ _ hc e _ => k b u hc e) (fun b u _ _ hc e _ => ⟨u.slots, k b u hc e⟩) (fun b u hc e n => ?_)
    (fun b u hc e => ⟨u, k b u hc e⟩) (fun b xs e => ?_) (fun b u1 u2 e => ?_) (fun b ps e => ⟨#[], ?_⟩) (fun m hm => ?_) (fun b u e => ?_) I.bare
  · rw [upd_ne (Nat.ne_of_lt (Nat.lt_of_lt_of_le (Heap.lt_size e) hT))]; exact n
  · rw [upd_ne (ne_of_none e hn)]; exact e
  · rw [upd_ne (ne_of_none e hn)]; exact e
  · rw [upd_ne (ne_of_none e hn), e]; simp
  · obtain ⟨u, es, ep, ho, r⟩ := hm
    exact ⟨u, es, ep, k _ u (fun z => (hf _ z).2.1 rfl) ho, r⟩
  · by_cases hb : b = T
    · subst hb
      rw [upd_same] at e
      cases e
      exact new
    · rw [upd_ne hb] at e
      refine (I.hok b u e).stay (fun c v hc q => k c v (fun z => ?_) q) (fun c q => by rw [upd_ne (ne_of_none q hn)]; exact q) fun c xs q => by rw [upd_ne (ne_of_none q hn)]; exact q
      have nc := (hf c z).1
      rcases hc with hc | hc
      · rw [hc, e] at nc; cases nc
      · rw [hc] at nc; cases nc
/-- several records of ours have turned -/
theorem Inv.turnedL {t' : Nat} (I : Inv X pins σ H s) (hf : ∀ b ∈ fp, FpOk X pins H b) (k : ∀ b u, b ∉ fp → s.heap.get? b = some u → h'.get? b = some u) : Inv X pins σ H { s with heap := h', toks := t' } := by
  refine I.step (g' := s.gens) (d' := s.drawn) (ch := fp) (fun b hb => ⟨(hf b hb).2.2.2.1, (hf b hb).2.1, (hf b hb).2.2.2.2.1, (hf b hb).2.2.2.2.2⟩) (fun b u _ _ hc e _ => k b u hc e) (fun b u _ _ hc e _ => ⟨u.slots, k b u hc e⟩) (fun b u hc e n => n)
    (fun b u hc e => ⟨u, k b u hc e⟩) (fun b xs e => e) (fun b u1 u2 e => e) (fun b ps e => ⟨#[], by rw [e]; simp⟩) (fun m hm => ?_) (fun b u e => ?_) I.bare
  · obtain ⟨u, es, ep, ho, r⟩ := hm
    exact ⟨u, es, ep, k _ u (fun z => (hf _ z).2.1 rfl) ho, r⟩
  · refine (I.hok b u e).stay (fun c v hc q => k c v (fun z => ?_) q) (fun c q => q) fun c xs q => q
    have nc := (hf c z).1
    rcases hc with hc | hc
    · rw [hc, e] at nc; cases nc
    · rw [hc] at nc; cases nc
theorem FpOk.upd {X : Cx} {pins : List (Addr × Obj)} {H : Hp} {b T : Addr} {o : HO} (f : FpOk X pins H b) (h : b ≠ T) : upd H T o b = none := by
  rw [upd_ne h]; exact f.1
end
/-! ### enumerate(l) -/
def Ite (K : PySem.W.Frag) (a : Addr) : It :=
  ⟨fun i H => ∃ xs x, SqL K H a xs ∧ xs[i]? = some x, fun i H v H' => ∃ t x, H t = none ∧ v = .ref t ∧ H' = upd H t (.tup [.int i, x]) ∧ ∀ xs, SqL K H a xs → xs[i]? = some x, fun i H => ∃ xs, SqL K H a xs ∧ xs.length ≤ i⟩
section
variable {X : Cx} {elts : List Expr} {x1 : ExprContext} {tp : Pos}
end
section
variable {X : Cx}
def iEnum (K : PySem.W.Frag) (ta : TA) : TI := fun σ H R => ta σ H fun vs H1 => ∃ a xs, vs = [.ref a] ∧ H1 a = some (.lst xs) ∧ R (Ite K a) H1
end
/-! ### zip(l, m) of two lists -/
def Itz (K : PySem.W.Frag) (a b : Addr) : It :=
  ⟨fun i H => ∃ xs x ys y, SqL K H a xs ∧ xs[i]? = some x ∧ SqL K H b ys ∧ ys[i]? = some y, fun i H v H' => ∃ t x y, H t = none ∧ v = .ref t ∧ H' = upd H t (.tup [x, y]) ∧ (∀ xs, SqL K H a xs → xs[i]? = some x) ∧ ∀ ys, SqL K H b ys → ys[i]? = some y,
    fun i H => ∃ xs ys, SqL K H a xs ∧ SqL K H b ys ∧ (xs.length ≤ i ∨ ys.length ≤ i)⟩
theorem turn_zip {P : Program} {w : World} {K : PySem.W.Frag} {elts : List Expr} {x1} {tp : Pos} {z TI TO i1 i2 l1 l2 : Addr} (D : ZipApart z TI TO i1 i2 l1 l2) :
    Turn P w K (.Tuple elts x1 tp) (Itz K l1 l2) [z, TI, TO, i1, i2] z (fun i h => IsZip h z TI TO .none ∧ IsPair h TI (.ref i1) (.ref i2) ∧ (∃ a b, IsPair h TO a b) ∧ h.IsListIter i1 l1 i ∧ h.IsListIter i2 l2 i) where
  mem := by simp
  obj := fun i h st b hb => by
    obtain ⟨hz, hTI, ⟨a, b', hTO⟩, ⟨o1, ho1, _, d1⟩, ⟨o2, ho2, _, d2⟩⟩ := st
    simp only [List.mem_cons, List.not_mem_nil, or_false] at hb
    rcases hb with rfl | rfl | rfl | rfl | rfl
    · exact ⟨_, hz, fun v q => by have q' : Data.fields _ = Data.cell v := q; cases q'⟩
    · exact ⟨_, hTI, fun v q => by have q' : Data.seq _ _ = Data.cell v := q; cases q'⟩
    · exact ⟨_, hTO, fun v q => by have q' : Data.seq _ _ = Data.cell v := q; cases q'⟩
    · exact ⟨o1, ho1, fun v q => by rw [d1] at q; cases q⟩
    · exact ⟨o2, ho2, fun v q => by rw [d2] at q; cases q⟩
  keep := fun i h h' st k => by
    obtain ⟨hz, hTI, ⟨a, b', hTO⟩, h1, h2⟩ := st
    exact ⟨k z (by simp) _ hz, k TI (by simp) _ hTI, ⟨a, b', k TO (by simp) _ hTO⟩, h1.at fun o q => k i1 (by simp) o q, h2.at fun o q => k i2 (by simp) o q⟩
  item := by
    intro X hP hw hK hc i pins s σ H E I hf st hg
    subst hP hw hK
    obtain ⟨hz, hTI, ⟨a, b', hTO⟩, h1, h2⟩ := st
    obtain ⟨xs, x, ys, y, hq, hx, hr, hy⟩ := hg
    obtain ⟨its, rv, p, hz1⟩ := I.list hq
    obtain ⟨u, hu, ru⟩ := rv.get hx
    obtain ⟨jts, rw', p', hz2⟩ := I.list hr
    obtain ⟨v, hv, rv'⟩ := rw'.get hy
    refine wpAny_pyNext_zip_item D hz hTI hTO h1 h2 p.isList p'.isList (x := u) (y := v) (by simpa using hu) (by simpa using hv) fun h3 hz3 hTO3 h13 h23 hT hsz hk => ⟨_, rfl, wpAny_letOwnedTupleGo_zip hz3 fun h4 hz4 hs4 => ?_⟩
    have hTs : s.heap.objs.size ≠ z := Nat.ne_of_gt (Heap.lt_size hz)
    have hk2 : ∀ b u, b ∉ [z, TI, TO, i1, i2] → s.heap.get? b = some u → h4.get? b = some u := fun b u hb q => by
      simp only [List.mem_cons, List.not_mem_nil, or_false, not_or] at hb
      exact (hs4.2 b hb.1).trans (hk b u hb.1 hb.2.2.1 hb.2.2.2.1 hb.2.2.2.2 q)
    refine ⟨.ref s.heap.objs.size, _, I.turnLaid (t' := s.toks) (T := s.heap.objs.size) (o := .tup [x, y]) hf hk2 (Nat.le_refl _) ?_, rfl, ⟨_, x, y, I.fresh, rfl, rfl, fun zs hy' => by rw [I.list_inj hy' hq]; exact hx, fun zs hy' => by rw [I.list_inj hy' hr]; exact hy⟩, ⟨hz4, ?_, ⟨_, _, (hs4.2 _ D.TOz).trans hTO3⟩, h13.at fun o q => (hs4.2 i1 D.i1z).trans q, h23.at fun o q => (hs4.2 i2 D.i2z).trans q⟩, fun b hb => ?_⟩
    · exact ⟨(by show 2 ≤ sizeLine; decide), [u, v], .cons ru (.cons rv' .nil), _, (hs4.2 _ hTs).trans hT, rfl, _, rfl⟩
    · exact (hs4.2 TI D.TIz).trans (hk TI _ D.TIz D.TITO D.TIi1 D.TIi2 hTI)
    · refine (hf b hb).upd ?_
      have hlt : b < s.heap.objs.size := by
        simp only [List.mem_cons, List.not_mem_nil, or_false] at hb
        rcases hb with rfl | rfl | rfl | rfl | rfl
        · exact Heap.lt_size hz
        · exact Heap.lt_size hTI
        · exact Heap.lt_size hTO
        · obtain ⟨o, ho, _⟩ := h1; exact Heap.lt_size ho
        · obtain ⟨o, ho, _⟩ := h2; exact Heap.lt_size ho
      exact Nat.ne_of_lt hlt
  done := by
    intro X hP hw hK hc i pins s σ H E I hf st hg
    subst hP hw hK
    obtain ⟨hz, hTI, ⟨a, b', hTO⟩, h1, h2⟩ := st
    obtain ⟨xs, ys, hq, hr, hx⟩ := hg
    obtain ⟨its, rv, p, hz1⟩ := I.list hq
    obtain ⟨jts, rw', p', hz2⟩ := I.list hr
    have hl := rv.length
    have hl' := rw'.length
    refine wpAny_pyNext_zip_end (I.ok.hd hc) D hz hTI hTO h1 h2 p.isList p'.isList ?_ fun h' k => ⟨rfl, I.turnedL (t' := s.toks) hf fun b o hb q => ?_⟩
    · rcases hx with hx | hx
      · left; simp; omega
      · right; simp; omega
    · simp only [List.mem_cons, List.not_mem_nil, or_false, not_or] at hb
      exact k b o hb.1 hb.2.2.1 hb.2.2.2.1 hb.2.2.2.2 q
  self := fun _ _ _ _ _ st h => wpAny_pyIter_zip st.1 h
section
variable {X : Cx}
def iZip (K : PySem.W.Frag) (ta : TA) : TI := fun σ H R => ta σ H fun vs H1 => ∃ a b xs ys, vs = [.ref a, .ref b] ∧ SqL K H1 a xs ∧ SqL K H1 b ys ∧ R (Itz K a b) H1
theorem pi_zip {elts : List Expr} {x1} {tp : Pos} {l m : Expr} {ta : TA} {p pos : Pos} (hm : X.mg "zip" = none) (ha : PA X [l, m] ta) (hp : plainE l = true := by rfl) (hp2 : plainE m = true := by rfl) (hg : Gl X "zip" := by rfl) : PI X (.Tuple elts x1 tp) (.Call (.Name "zip" p) [l, m] [] pos) (iZip X.K ta) := by
  intro pins s σ H R I h
  refine Call_ (ld_blt I hg hm boot_zip (PyProof.Rows.callWith_type1 (thn (ha pos pins s σ H _ I h) fun us s1 ⟨vs, H1, I1, r1, q1⟩ => ?_) (starEach_plain hp _ _) (by rw [starEach_plain hp2]; rfl)))
  obtain ⟨a, b, xs, ys, rfl, hH, hH2, q⟩ := q1
  obtain ⟨u, w', rfl, ru, rw'⟩ := vals2 r1
  cases ru
  cases rw'
  obtain ⟨its, rv, p1, hz1⟩ := I1.list hH
  obtain ⟨jts, rv2, p2, hz2⟩ := I1.list hH2
  have l1 : a < s1.heap.objs.size := by obtain ⟨_, e, _⟩ := p1.isList; exact Heap.lt_size e
  have l2 : b < s1.heap.objs.size := by obtain ⟨_, e, _⟩ := p2.isList; exact Heap.lt_size e
  refine call_zip_2 p1.isList p2.isList fun h1 hz hTI hTO i1 i2 hsz hk => ?_
  refine wpAny_pyIter_zip hz ?_
  have I2 : Inv X pins σ H1 { s1 with heap := h1 } := I1.kept (t' := s1.toks) hk
  refine ⟨_, [s1.heap.objs.size + 4, s1.heap.objs.size + 2, s1.heap.objs.size + 3, s1.heap.objs.size, s1.heap.objs.size + 1], _, _, H1, rfl, I2, turn_zip (zipApart_new l1 l2), ⟨hz, hTI, ⟨_, _, hTO⟩, i1, i2⟩, fun b hb => ?_, q⟩
  have hb' : s1.heap.objs.size ≤ b := by
    simp only [List.mem_cons, List.not_mem_nil, or_false] at hb
    rcases hb with rfl | rfl | rfl | rfl | rfl <;> omega
  exact I1.fpOk hb' (I1.hok.fresh hb')
end
end L2


set_option Elab.async false
set_option linter.all false
set_option maxRecDepth 100000
set_option maxHeartbeats 4000000
/-! == and != of lists, of tuples (flat items) -/
namespace L2
open PySem PySem.Spec PyProof.Rows
def eqVs : List V → List V → Bool
  | [], [] => true
  | x :: xs, y :: ys => eqV x y && eqVs xs ys
  | _, _ => false
theorem eqVs_len : ∀ {xs ys : List V}, eqVs xs ys = true → xs.length = ys.length
  | [], [], _ => rfl
  | _ :: xs, _ :: ys, h => by
    have h' : (_ && eqVs xs ys) = true := h
    rw [Bool.and_eq_true] at h'
    rw [List.length_cons, List.length_cons, eqVs_len h'.2]
  | [], _ :: _, h => by cases h
  | _ :: _, [], h => by cases h
theorem eqVs_range : ∀ {xs ys : List V}, xs.length = ys.length → (List.range xs.length).all (fun j => eqV (xs.getD j .non) (ys.getD j .non)) = eqVs xs ys
  | [], [], _ => rfl
  | x :: xs, y :: ys, h => by
    have hl : xs.length = ys.length := by simpa using h
    rw [List.length_cons, List.range_succ_eq_map, List.all_cons, List.all_map]
    have : (List.range xs.length).all ((fun j => eqV ((x :: xs).getD j .non) ((y :: ys).getD j .non)) ∘ Nat.succ) = eqVs xs ys := by
      rw [← eqVs_range hl]
      rfl
    rw [this]
    rfl
  | [], _ :: _, h => by simp at h
  | _ :: _, [], h => by simp at h
theorem eqVs_ne {xs ys : List V} (h : xs.length ≠ ys.length) : eqVs xs ys = false := by
  cases e : eqVs xs ys with
  | false => rfl
  | true => exact absurd (eqVs_len e) h
theorem vals_eqAt {A : Around} {s : Shared} {xs ys : List V} {us vs : List Value} (r : Vals xs us) (q : Vals ys vs) (fx : xs.all flatV = true) (fy : ys.all flatV = true) (j : Nat) (h1 : j < us.toArray.size) (h2 : j < vs.toArray.size) :
    SeqAt.EqAt A s us.toArray[j] vs.toArray[j] (eqV (xs.getD j .non) (ys.getD j .non)) := by
  have l1 := r.length
  have l2 := q.length
  have h1' : j < us.length := by simpa using h1
  have h2' : j < vs.length := by simpa using h2
  obtain ⟨u, hu, ru⟩ := r.get (i := j) (x := xs[j]) (by simp [show j < xs.length by omega])
  obtain ⟨v, hv, rv⟩ := q.get (i := j) (x := ys[j]) (by simp [show j < ys.length by omega])
  have e1 : us.toArray[j] = u := by
    have : us[j]? = some us[j] := List.getElem?_eq_getElem h1'
    rw [this] at hu
    simpa using hu
  have e2 : vs.toArray[j] = v := by
    have : vs[j]? = some vs[j] := List.getElem?_eq_getElem h2'
    rw [this] at hv
    simpa using hv
  have g1 : xs.getD j .non = xs[j] := by simp [List.getD, show j < xs.length by omega]
  have g2 : ys.getD j .non = ys[j] := by simp [List.getD, show j < ys.length by omega]
  rw [e1, e2, g1, g2]
  exact eqAt_V ru rv (List.all_eq_true.mp fx _ (List.getElem_mem _)) (List.all_eq_true.mp fy _ (List.getElem_mem _))
section
variable {X : Cx}
def rEqL (K : PySem.W.Frag) : R2 := fun x y H Q => ∃ a b xs ys, x = .ref a ∧ y = .ref b ∧ SqL K H a xs ∧ SqL K H b ys ∧ xs.all flatV = true ∧ ys.all flatV = true ∧ Q (.bl (eqVs xs ys)) H
def rNeL (K : PySem.W.Frag) : R2 := fun x y H Q => ∃ a b xs ys, x = .ref a ∧ y = .ref b ∧ SqL K H a xs ∧ SqL K H b ys ∧ xs.all flatV = true ∧ ys.all flatV = true ∧ Q (.bl (!eqVs xs ys)) H
theorem op_eqL (hu : X.A.units < cLine) : OpR X (compareOp .Eq) (rEqL X.K) := by
  intro pins s σ H x y v u Q I rx ry h
  obtain ⟨a, b, xs, ys, rfl, rfl, hx, hy, fx, fy, q⟩ := h
  cases rx
  cases ry
  obtain ⟨its, r, pl, hz⟩ := I.list hx
  obtain ⟨jts, r2, pl2, hz2⟩ := I.list hy
  have l1 := r.length
  have l2 := r2.length
  by_cases hl : xs.length = ys.length
  · refine SeqAt.eq_listAt (e := fun j => eqV (xs.getD j .non) (ys.getD j .non)) pl.isList pl2.isList (by simp; omega) hu (fun j h1 h2 => vals_eqAt r r2 fx fy j h1 h2) ⟨.bl _, H, I, ?_, q⟩
    show Value.bool _ = Value.bool _
    rw [List.size_toArray, ← l1, eqVs_range hl]
  · refine SeqAt.eq_list_lengthsAt pl.isList pl2.isList (by simp; omega) hu ⟨.bl _, H, I, ?_, q⟩
    show Value.bool _ = Value.bool _
    rw [eqVs_ne hl]
theorem op_neL (hu : X.A.units < cLine) : OpR X (compareOp .NotEq) (rNeL X.K) := by
  intro pins s σ H x y v u Q I rx ry h
  obtain ⟨a, b, xs, ys, rfl, rfl, hx, hy, fx, fy, q⟩ := h
  cases rx
  cases ry
  obtain ⟨its, r, pl, hz⟩ := I.list hx
  obtain ⟨jts, r2, pl2, hz2⟩ := I.list hy
  have l1 := r.length
  have l2 := r2.length
  by_cases hl : xs.length = ys.length
  · refine SeqAt.RcNeAt.lists (e := fun j => eqV (xs.getD j .non) (ys.getD j .non)) pl.isList pl2.isList (by simp; omega) hu (fun j h1 h2 => vals_eqAt r r2 fx fy j h1 h2) _ _ _ _ ⟨.bl _, H, I, ?_, q⟩
    show Value.bool _ = Value.bool _
    rw [List.size_toArray, ← l1, eqVs_range hl]
  · refine SeqAt.RcNeAt.lists_lengths pl.isList pl2.isList (by simp; omega) hu _ _ _ _ ⟨.bl _, H, I, ?_, q⟩
    show Value.bool _ = Value.bool _
    rw [eqVs_ne hl]
    rfl
def rEqT (K : PySem.W.Frag) : R2 := fun x y H Q => ∃ a b xs ys, x = .ref a ∧ y = .ref b ∧ SqT K H a xs ∧ SqT K H b ys ∧ xs.length = ys.length ∧ xs.all flatV = true ∧ ys.all flatV = true ∧ Q (.bl (eqVs xs ys)) H
end
end L2


set_option Elab.async false
set_option linter.all false
set_option maxRecDepth 100000
set_option maxHeartbeats 1000000
/-! list.count, list.index over the layer (flat items) -/
namespace L2
open PySem PySem.Spec PyProof.Rows
theorem countP_eqU {x : V} : ∀ {xs : List V} {us : List Value}, Vals xs us → xs.all flatV = true → us.countP (eqU x) = xs.countP fun y => eqV y x
  | _, _, .nil, _ => rfl
  | y :: xs, u :: us, .cons r t, f => by
    rw [List.all_cons, Bool.and_eq_true] at f
    rw [List.countP_cons, List.countP_cons, eqU_of r f.1, countP_eqU t f.2]
section
variable {X : Cx}
theorem mt_count : MtM X "list.count" (fun x vs H Q => ∃ l xs y, x = .ref l ∧ vs = [y] ∧ SqL X.K H l xs ∧ xs.all flatV = true ∧ flatV y = true ∧ Q (.int ((xs.countP fun z => eqV z y : Nat) : Int)) H) := by
  intro pins s σ H x vs v us Q I rx rv h
  obtain ⟨l, xs, y, rfl, rfl, hx, fx, fy, q⟩ := h
  cases rx
  obtain ⟨u, rfl, ru⟩ := rv.one
  obtain ⟨its, r, p, hz⟩ := I.list hx
  obtain ⟨⟨cls, dd, data, sl⟩, ho, hc, n, hd⟩ := p.isList
  simp only at hc hd
  subst hc hd
  refine call_meets F.slot_list_count ⟨_, ho, rfl⟩ F.entry_list_count (F.args_list_count_2 _ _) (SeqAt.list_countAt l its.toArray n dd sl u (eqU y)) ⟨ho, fun w hw => mem_eqAt ru fy r fx w (by simpa using hw), ?_⟩
  refine ⟨.int _, H, I.tok _, ⟨s.toks, ?_⟩, q⟩
  rw [countP_eqU r fx]
end
end L2


set_option Elab.async false
set_option linter.all false
set_option maxRecDepth 100000
set_option maxHeartbeats 1000000
/-! list(d); loops over zip -/
namespace L2
open PySem PySem.Spec PyProof.Rows
theorem vals_of_get : ∀ {xs : List V} {us : List Value}, xs.length = us.length → (∀ (j : Nat) (x : V) (u : Value), xs[j]? = some x → us[j]? = some u → RelV x u) → Vals xs us
  | [], [], _, _ => .nil
  | x :: xs, u :: us, h, r => .cons (r 0 x u rfl rfl) (vals_of_get (by simpa using h) fun j y v h1 h2 => r (j + 1) y v (by simpa using h1) (by simpa using h2))
  | [], _ :: _, h, _ => by simp at h
  | _ :: _, [], h, _ => by simp at h
theorem kV_of {P : Program} {w : World} {k : Key} {u : Value} (h : (mixKind P w).is k u = true) : RelV (kV k) u := by
  rcases keyIs_shape (k := k) (v := u) h with ⟨i, t, rfl, rfl⟩ | ⟨x, t, rfl, rfl⟩
  · exact ⟨t, rfl⟩
  · exact ⟨t, rfl⟩
section
variable {X : Cx}
theorem call_listD (hc : X.calm = true) : CallR X (.type "list") (fun xs H Q => ∃ (a : Addr) (kvs : List (Key × V)), xs = [.ref a] ∧ H a = some (.dK kvs) ∧ ∀ l, H l = none → Q (.ref l) (upd H l (.lst (kvs.map fun kv => kV kv.1)))) := by
  intro pins s σ H xs us Q I r h
  obtain ⟨a, kvs, rfl, hH, q⟩ := h
  obtain ⟨u, rfl, ru⟩ := vals1 r
  cases ru
  obtain ⟨z, hd, vs, rel, dd⟩ := dk_of I.hok hH
  obtain ⟨ep, hat⟩ := dd.dictAt
  have hl := rel.length
  refine PySem.W.kdl_call (PySem.W.kdl_dict (knd := mixKind X.prog X.w) (kvs := vs) (ep := ep) hd) (I.ok.hd hc) hat (by omega) fun h' tk acc' c' hk hS hacc => ?_
  have hv : Vals (kvs.map fun kv => kV kv.1) acc'.toList := by
    refine vals_of_get (by have := hacc.1; rw [List.length_map]; simp; omega) fun j x v hx hv => ?_
    obtain ⟨k, y, hky, his⟩ := hacc.2 j v (by rw [← Array.getElem?_toList]; exact hv)
    have e1 : (kvs.map (·.1))[j]? = some k := by
      rw [rel.keys, List.getElem?_map, hky]
      rfl
    have e2 : (kvs.map fun kv => kV kv.1)[j]? = some (kV k) := by
      rw [List.getElem?_map] at e1 ⊢
      cases z : kvs[j]? with
      | none => rw [z] at e1; cases e1
      | some p =>
        rw [z] at e1
        have : p.1 = k := Option.some.inj e1
        rw [← this]
        rfl
    rw [e2] at hx
    cases hx
    exact kV_of his
  refine ⟨.ref s.heap.objs.size, _, I.laid (a := s.heap.objs.size) (o := .lst (kvs.map fun kv => kV kv.1)) (t' := tk) hk (Nat.le_refl _) ⟨by rw [List.length_map]; exact z, acc'.toList, c', hv, ?_⟩, rfl, q _ I.fresh⟩
  rw [Array.toArray_toList]
  exact hS
end
/-- over zip of two lists that the body leaves as they are: new pairs come into the heap -/
theorem for_zip {K : PySem.W.Frag} {a b : Addr} {xs ys : List V} {g : TG} {tb : TS} {D : Ends} {σ : St} {H : Hp} (hl : xs.length = ys.length) (Pv : Nat → St → Hp → Prop) (h0 : Pv 0 σ H) (hx : ∀ i σ H, Pv i σ H → SqL K H a xs ∧ SqL K H b ys)
    (hs : ∀ i x y σ H t, xs[i]? = some x → ys[i]? = some y → Pv i σ H → H t = none → g (.ref t) σ (upd H t (.tup [x, y])) fun σ2 H2 => tb { D with nx := Pv (i + 1), ct := Pv (i + 1), bk := D.nx } σ2 H2) (hd : ∀ σ H, Pv xs.length σ H → D.nx σ H) :
    ∃ W : Nat → Nat → St → Hp → Prop, (∃ m, W 0 m σ H) ∧ ∀ i m σ H, W i m σ H →
      ((Itz K a b).stop i H ∧ D.nx σ H) ∨ ((Itz K a b).go i H ∧ ∃ N : St → Hp → Prop, (∀ σ' H', N σ' H' → ∃ m', m' < m ∧ W (i + 1) m' σ' H') ∧ ∀ x H', (Itz K a b).yld i H x H' → g x σ H' fun σ2 H2 => tb { D with nx := N, ct := N, bk := D.nx } σ2 H2) := by
  refine ⟨fun i m σ H => m = xs.length - i ∧ i ≤ xs.length ∧ Pv i σ H, ⟨xs.length, by simp, Nat.zero_le _, h0⟩, ?_⟩
  rintro i m σ H ⟨rfl, hi, p⟩
  obtain ⟨q1, q2⟩ := hx i σ H p
  by_cases hlt : i < xs.length
  · refine .inr ⟨⟨xs, xs[i], ys, ys[i]'(by omega), q1, by simp [hlt], q2, by simp [show i < ys.length by omega]⟩, Pv (i + 1), fun σ' H' p' => ⟨xs.length - (i + 1), by omega, rfl, hlt, p'⟩, fun x H' y => ?_⟩
    obtain ⟨t, x1, y1, hn, rfl, rfl, e1, e2⟩ := y
    exact hs i x1 y1 σ H t (e1 xs q1) (e2 ys q2) p hn
  · have e : i = xs.length := by omega
    subst e
    exact .inl ⟨⟨xs, ys, q1, q2, .inl (Nat.le_refl _)⟩, hd σ H p⟩
end L2


set_option Elab.async false
set_option linter.all false
set_option maxRecDepth 100000
set_option maxHeartbeats 1000000
/-! EXCEPTIONS over the layer: raise, calls that may raise, try .. except C as e. -/
namespace L2
open PySem PySem.Spec PyProof.Rows
/-- what is wanted of an exception: its class, the names' values, the heap -/
abbrev XE := Value → St → Hp → Prop

/-- B holds all that counts in a body's state -/
structure Cov (X : Cx) (pins : List (Addr × Obj)) (H : Hp) (B : Heap) : Prop where
  old : ∀ b o, X.s₀.heap.get? b = some o → b ∉ X.fs → ∃ o', B.get? b = some o'
  trk : ∀ b u, H b = some u → ∃ o, B.get? b = some o
  pin : ∀ p ∈ X.pn ++ pins, ∃ o, B.get? p.1 = some o
section
variable {X : Cx} {pins : List (Addr × Obj)} {σ : St} {H : Hp} {s : Shared} {B h' : Heap}
theorem stay_eq {B h : Heap} {b : Addr} {o o' : Obj} (st : B.StaysIn h) (e : B.get? b = some o') (q : h.get? b = some o) : o' = o := by
  have := st b o' e
  rw [q] at this
  exact (Option.some.inj this).symm
/-- an exception is noted, or lands: what B holds is kept, the rest up to slots -/
theorem Inv.flown {t' : Nat} (I : Inv X pins σ H s) (hx : X.ex = []) (C : Cov X pins H B) (st0 : B.StaysIn s.heap) (st : B.StaysIn h') (up : s.heap.UpToSlots h') : Inv X pins σ H { s with heap := h', toks := t' } := by
  have inB : ∀ b o o', B.get? b = some o' → s.heap.get? b = some o → h'.get? b = some o := fun b o o' e q => by
    have := stay_eq st0 e q
    subst this
    exact st b _ e
  have nex : ∀ b, b ∉ X.ex := fun b z => by rw [hx] at z; cases z
  have cellK : ∀ c v, s.heap.IsCell c v → h'.IsCell c v := fun c v ⟨o, ho, hd⟩ => by
    obtain ⟨sl, e⟩ := up c o ho (fun vs z => by rw [hd] at z; cases z)
    exact ⟨_, e, hd⟩
  refine ⟨I.ok, I.os, I.bare, ⟨fun b o e n hb _ => ?_, fun b o e n hb _ => ?_, fun b o e n hb => I.base.free b o e n hb, fun b o e _ => ?_, I.base.tups, I.base.frzs, I.base.tbls⟩, ?_, fun x c e => ?_, I.free, I.freeC, fun p hp => ?_, fun b u e => ?_, I.len⟩
  · obtain ⟨o', e'⟩ := C.old b o e hb
    exact inB b o o' e' (I.base.keep b o e n hb (nex b))
  · obtain ⟨sl, e1⟩ := I.base.slot b o e n hb (nex b)
    obtain ⟨_, o2, ho2, hnf⟩ := I.funs.mem hb
    rw [e1] at ho2
    cases ho2
    obtain ⟨sl', e2⟩ := up b _ e1 hnf
    exact ⟨sl', e2⟩
  · by_cases hb : b ∈ X.fs
    · obtain ⟨_, o2, ho2, hnf⟩ := I.funs.mem hb
      obtain ⟨sl', e2⟩ := up b _ ho2 hnf
      exact ⟨_, e2⟩
    · obtain ⟨o', e'⟩ := C.old b o e hb
      exact ⟨o', st b o' e'⟩
  · obtain ⟨m, hn, hl⟩ := I.loc
    refine ⟨m, up.ns hn, fun i x v e1 e2 e3 => ?_⟩
    obtain ⟨u, r, l⟩ := hl i x v e1 e2 e3
    refine ⟨u, r, ?_⟩
    rcases l with l | ⟨k, c, e, z⟩
    · exact .inl l
    · exact .inr ⟨k, c, e, cellK c _ z⟩
  · obtain ⟨v, z⟩ := I.cell x c e
    exact ⟨v, cellK c v z⟩
  · obtain ⟨e, n, ne, nf, d⟩ := I.pin p hp
    obtain ⟨o', e'⟩ := C.pin p hp
    exact ⟨inB p.1 p.2 o' e' e, n, ne, nf, d⟩
  · refine (I.hok b u e).stay (fun c v hc q => ?_) (fun _ q => q) fun _ _ q => q
    have : ∃ u', H c = some u' := by
      rcases hc with rfl | hc
      · exact ⟨u, e⟩
      · exact ⟨_, hc⟩
    obtain ⟨u', e'⟩ := this
    obtain ⟨o', eb⟩ := C.trk c u' e'
    exact inB c v o' eb q
end

/-- an exception has been noted at this frame -/
def XAt (X : Cx) (pins : List (Addr × Obj)) (E : XE) (e : Value) (s : Shared) : Prop :=
  ∃ (a : Addr) (cls a0 : Value) (σ : St) (H : Hp) (B : Heap), e = .ref a ∧ Inv X pins σ H s ∧ Heap.HeldW B X.stack a cls a0 X.env.locals s.heap ∧ Cov X pins H B ∧ H a = none ∧ E cls σ H
/-- an exception on its way in this body -/
def XL (X : Cx) (pins : List (Addr × Obj)) (E : XE) (e : Value) (s : Shared) : Prop :=
  wpAny (model X.prog X.w) X.A (noteFrame e X.env) (fun _ s' => XAt X pins E e s') (fun _ _ => False) s
theorem XAt.imp {X : Cx} {pins : List (Addr × Obj)} {E E' : XE} {e : Value} {s : Shared} (h : XAt X pins E e s) (w : ∀ c σ H, E c σ H → E' c σ H) : XAt X pins E' e s := by
  obtain ⟨a, cls, a0, σ, H, B, rfl, I, hh, C, n, q⟩ := h
  exact ⟨a, cls, a0, σ, H, B, rfl, I, hh, C, n, w _ _ _ q⟩
theorem XL.imp {X : Cx} {pins : List (Addr × Obj)} {E E' : XE} {e : Value} {s : Shared} (h : XL X pins E e s) (w : ∀ c σ H, E c σ H → E' c σ H) : XL X pins E' e s :=
  wpAny_mono h (fun _ _ x => x.imp w) fun _ _ x => x

/-- how an exception lies behind a call -/
def CXr (P : Program) (w : World) : CXT := fun outer H s E e s' => ∃ (a : Addr) (cls a0 : Value) (H' : Hp) (B : Heap), e = .ref a ∧ s'.os = s.os ∧ AllBare s'.gens ∧ Un (frs outer) [] H H' s.heap s'.heap ∧ HOk P w H' s'.heap ∧
  Heap.FlyingW B outer a cls a0 s'.heap ∧ H' a = none ∧ (∀ b o, s.heap.get? b = some o → b ∉ frs outer → ∃ o', B.get? b = some o') ∧ (∀ b u, H' b = some u → ∃ o, B.get? b = some o) ∧ E cls none H'
/-- this frame is the top one -/
def OwnFr (X : Cx) : Prop := X.stack = X.env :: X.outer ∧ X.env.frame = some X.env.locals ∧ X.ex = []
section
variable {X : Cx} {pins : List (Addr × Obj)} {σ : St} {H : Hp} {s s' : Shared}
/-- a callee's exception comes to this body -/
theorem XL.of_call {E : XK} {e : Value} (ow : OwnFr X) (I : Inv X pins σ H s) (h : CXr X.prog X.w X.stack H s E e s') : XL X pins (fun c σ' H' => σ' = σ ∧ E c none H') e s' := by
  obtain ⟨a, cls, a0, H', B, rfl, os, bare, un, hok, fl, na, old, trk, q⟩ := h
  have I' : Inv X pins σ H' s' := I.call' os un hok bare fun b z => absurd z (by simp)
  have C : Cov X pins H' B := by
    refine ⟨fun b o e hb => ?_, trk, fun p hp => ?_⟩
    · obtain ⟨o1, e1⟩ := I.base.there b o e (by rw [ow.2.2]; simp)
      refine old b o1 e1 fun z => ?_
      rcases List.mem_cons.mp (I.stkSub b z) with z | z
      · exact Nat.ne_of_lt (Nat.lt_of_lt_of_le (Heap.lt_size e) I.ok.above) z
      · exact hb z
    · obtain ⟨e, n, ne, nf, _⟩ := I.pin p hp
      refine old p.1 p.2 e fun z => ?_
      rcases List.mem_cons.mp (I.stkSub p.1 z) with z | z
      · exact ne z
      · exact nf z
  have fl' := fl
  rw [ow.1] at fl'
  refine wpAny_looks_onW (by rw [I.ok.frames, ow.1]) ow.2.1 fl' fun h' hh up => ?_
  refine ⟨a, cls, a0, σ, H', B, rfl, I'.flown (t' := s'.toks) ow.2.2 C fl.1 hh.1 up, ?_, C, na, rfl, q⟩
  rw [ow.1]
  exact hh
/-- an exception made here -/
theorem XL.of_made {a : Addr} {cls : Value} {args : List Value} {h' : Heap} {E : XE} (ow : OwnFr X) (I : Inv X pins σ H s) (hx : Heap.MadeExcOf s.heap h' a cls args) (q : E cls σ H) : XL X pins E (.ref a) { s with heap := h' } := by
  obtain ⟨t, he, htn, ht⟩ := hx.there
  have fr := I.stack
  rw [ow.1] at fr
  -- all but the frames
  have hin : ∀ env ∈ (X.env :: X.outer), ∀ b, env.frame = some b → b ∈ frs X.stack := fun env hm b hb => by rw [ow.1]; exact List.mem_filterMap.mpr ⟨env, hm, hb⟩
  have st0 : (PySem.W.hideAll s.heap (frs X.stack)).StaysIn s.heap := fun b o e => PySem.W.of_hideAll _ e
  have I1 : Inv X pins σ H { s with heap := h' } := I.kept (t' := s.toks) hx.keeps
  have C : Cov X pins H (PySem.W.hideAll s.heap (frs X.stack)) := by
    refine ⟨fun b o e hb => ?_, fun b u e => ?_, fun p hp => ?_⟩
    · obtain ⟨o1, e1⟩ := I.base.there b o e (by rw [ow.2.2]; simp)
      refine ⟨o1, PySem.W.hideAll_get _ e1 fun z => ?_⟩
      rcases List.mem_cons.mp (I.stkSub b z) with z | z
      · exact Nat.ne_of_lt (Nat.lt_of_lt_of_le (Heap.lt_size e) I.ok.above) z
      · exact hb z
    · have lt := I.hok.lt e
      have : ∃ o, s.heap.get? b = some o := by
        have z := I.hok b u e
        cases q2 : s.heap.get? b with
        | some o => exact ⟨o, rfl⟩
        | none =>
          exfalso
          have k : ∀ o, s.heap.get? b = some o → False := fun o z => by rw [q2] at z; cases z
          cases u with
          | lst xs => obtain ⟨_, _, _, _, e⟩ := z; exact k _ e
          | tup xs => obtain ⟨_, _, _, o, e, _⟩ := z; exact k _ e
          | dK kvs => obtain ⟨_, _, _, _, o, _, _, e, _⟩ := z; exact k _ e
          | dT kvs => obtain ⟨_, _, _, _, o, _, _, e, _⟩ := z; exact k _ e
          | set S n => obtain ⟨o, _, _, _, e, _⟩ := z; exact k _ e
          | ins C dx fs => obtain ⟨_, _, _, e, _⟩ := z; exact k _ e
          | own y => obtain ⟨_, e⟩ := z; exact k _ e
          | xd fs => obtain ⟨_, ⟨_, _, _, e, _⟩, _⟩ := z; exact k _ e
          | rng lo hi => obtain ⟨_, _, _, e⟩ := z; exact k _ e
          | frz ob u => obtain ⟨e, _⟩ := z; exact k _ e
          | tbl ps => exact k _ (show s.heap.get? b = some _ from z)
          | met f y => exact k _ (show s.heap.get? b = some _ from z)
          | ext φ => obtain ⟨_, ⟨_, e⟩, _⟩ := z; exact k _ e
      obtain ⟨o, eo⟩ := this
      refine ⟨o, PySem.W.hideAll_get _ eo fun z => ?_⟩
      have := I.stkFree b z
      rw [e] at this
      cases this
    · obtain ⟨e, n, ne, nf, _⟩ := I.pin p hp
      refine ⟨p.2, PySem.W.hideAll_get _ e fun z => ?_⟩
      rcases List.mem_cons.mp (I.stkSub p.1 z) with z | z
      · exact ne z
      · exact nf z
  have na : H a = none := by
    cases z : H a with
    | none => rfl
    | some u =>
      obtain ⟨o, e⟩ := C.trk a u z
      have := st0 a o e
      rw [hx.new] at this
      cases this
  have hen : (PySem.W.hideAll s.heap (frs X.stack)).get? a = none := by
    cases z : (PySem.W.hideAll s.heap (frs X.stack)).get? a with
    | none => rfl
    | some o =>
      have := st0 a o z
      rw [hx.new] at this
      cases this
  have fr2 : h'.FunFrames (PySem.W.hideAll s.heap (frs X.stack)) (X.env :: X.outer) := by
    have z := PySem.W.funFrames_hide (base := X.base) fr hin
    exact z.of_keeps fun b o hb _ => ⟨o, hx.keeps b o hb, rfl⟩
  unfold XL noteFrame
  simp only [ow.2.1]
  refine wpAny_bind (wpAny_field he rfl (x := .none) rfl ?_)
  rw [if_neg (by decide)]
  refine wpAny_entryW (s := { s with heap := h' }) (a0 := .ref t) (by rw [I.ok.frames, ow.1]) fr2 ow.2.1 he (fun b o e => hx.keeps b o (st0 b o e)) hen rfl (by show 1 < 6; decide) rfl fun h2 ⟨k1, k2, k3, k4⟩ => ?_
  refine ⟨a, cls, .ref t, σ, H, _, rfl, I1.flown (t' := s.toks) ow.2.2 C (fun b o e => hx.keeps b o (st0 b o e)) k1 k4, ⟨k1, hen, ?_, k3⟩, C, na, q⟩
  have k2' := k2
  rw [← ow.1] at k2'
  exact k2'
end

/-! ### the judgement: a statement that may raise -/
abbrev TSX := Ends → XE → St → Hp → Prop
def PSX (X : Cx) (st : Stmt) (t : TSX) : Prop :=
  ∀ (pins : List (Addr × Obj)) (s : Shared) (σ : St) (H : Hp) (D : Ends) (E : XE), Inv X pins σ H s → t D E σ H → wpAny (model X.prog X.w) X.A (exec st X.env) (SP X pins D) (XL X pins E) s
def PSsX (X : Cx) (st : List Stmt) (t : TSX) : Prop :=
  ∀ (pins : List (Addr × Obj)) (s : Shared) (σ : St) (H : Hp) (D : Ends) (E : XE), Inv X pins σ H s → t D E σ H → wpAny (model X.prog X.w) X.A (execs st X.env) (SP X pins D) (XL X pins E) s
/-- an expression that may raise; where it does, the names are as they were -/
def PEX (X : Cx) (e : Expr) (t : St → Hp → VK → (Value → Hp → Prop) → Prop) : Prop :=
  ∀ (pins : List (Addr × Obj)) (s : Shared) (σ : St) (H : Hp) (Q : VK) (E : Value → Hp → Prop), Inv X pins σ H s → t σ H Q E → wpAny (model X.prog X.w) X.A (eval e X.env) (EP X pins σ Q) (XL X pins fun c σ' H' => σ' = σ ∧ E c H') s
section
variable {X : Cx} {st : Stmt} {rest : List Stmt} {t u : TSX} {e : Expr} {pos : Pos}
def tLift (t : TS) : TSX := fun D _ σ H => t D σ H
theorem sx (h : PS X.nox st t') : PSX X st (tLift t') := fun pins s σ H D E I hw =>
  wpAny_mono (h pins s σ H D (I.wish _) hw) (fun _ _ q => q.unwish) fun _ _ z => False.elim z
def tSeqX (t u : TSX) : TSX := fun D E σ H => t { D with nx := u D E } E σ H
def tNextX : TSX := fun D _ σ H => D.nx σ H
theorem ssx_nil : PSsX X [] tNextX := fun _ _ σ H _ _ I h => wpAny_execs_nil ⟨σ, H, I, h⟩
theorem ssx_cons (h1 : PSX X st t) (h2 : PSsX X rest u) : PSsX X (st :: rest) (tSeqX t u) := by
  intro pins s σ H D E I h
  refine wpAny_execs_cons (thn (h1 pins s σ H { D with nx := u D E } E I h) fun f s1 q => ?_)
  cases f with
  | next =>
    obtain ⟨σ', H', I', q⟩ := q
    exact h2 pins s1 σ' H' D E I' q
  | ret v => exact q
  | brk => exact q
  | cont => exact q
theorem ssx_one (h1 : PSX X st t) : PSsX X [st] t := by
  intro pins s σ H D E I h
  refine wpAny_execs_cons (thn (h1 pins s σ H D E I h) fun f s1 q => ?_)
  cases f with
  | next => exact wpAny_execs_nil q
  | ret v => exact q
  | brk => exact q
  | cont => exact q
/-- a test that raises nothing -/
theorem PT.lift {tc : TT} (h : PT X.nox e tc) : ∀ (pins : List (Addr × Obj)) (s : Shared) (σ : St) (H : Hp) (Q : Bool → Hp → Prop) (E : Value → Shared → Prop), Inv X pins σ H s → tc σ H Q →
    wpAny (model X.prog X.w) X.A (isTrue e X.env (eval e X.env)) (TP X pins σ Q) E s := fun pins s σ H Q E I hw =>
  wpAny_mono (h pins s σ H Q (I.wish _) hw) (fun _ _ ⟨H', I', q⟩ => ⟨H', I'.unwish, q⟩) fun _ _ z => False.elim z
def tIfX (c : TT) (t u : TSX) : TSX := fun D E σ H => c σ H fun b H1 => if b = true then t D E σ H1 else u D E σ H1
theorem sx_if {c : Expr} {a b : List Stmt} {tc : TT} (hc : PT X.nox c tc) (ha : PSsX X a t) (hb : PSsX X b u) : PSX X (.If c a b pos) (tIfX tc t u) := by
  intro pins s σ H D E I h
  refine wpAny_If (thn (hc.lift pins s σ H _ _ I h) fun d s1 ⟨H1, I1, q1⟩ => ?_)
  cases d with
  | true => exact ha pins s1 σ H1 D E I1 q1
  | false => exact hb pins s1 σ H1 D E I1 q1
def tJX (t : TSX) : TSX := fun D E σ H => ∃ M : St → Hp → Prop, t { D with nx := M } E σ H ∧ ∀ σ' H', M σ' H' → D.nx σ' H'
/-- statements whose expression may raise -/
theorem sx_expr {te : St → Hp → VK → (Value → Hp → Prop) → Prop} (he : PEX X e te) (hs : swapsWith e none pos.line X.env = pure false := by rfl) : PSX X (.Expr e pos) (fun D E σ H => te σ H (fun _ H1 => D.nx σ H1) fun c H1 => E c σ H1) := by
  intro pins s σ H D E I h
  exact wpAny_Expr_any (wpAny_mono (he pins s σ H _ _ I h) (fun v s1 ⟨x, H1, I1, r1, q1⟩ => ⟨σ, H1, I1, q1⟩) fun x s1 z => z.imp fun c σ' H' ⟨a, b⟩ => by rw [a]; exact b) I.quiet hs
theorem sx_set {i : Nat} {x : Str} {te : St → Hp → VK → (Value → Hp → Prop) → Prop} {pos' : Pos} (hN : X.N.Nodup) (hi : X.N[i]? = some x) (hx : Loc X.env.scope x) (he : PEX X e te) (hs : swapsWith e (some (.Name x pos')) pos.line X.env = pure false := by rfl)
    (hf : X.fn x = true ∨ X.env.scope.names.lookup x = some .local := by first | exact .inl rfl | exact .inr rfl | assumption) :
    PSX X (.Assign [.Name x pos'] e pos) (fun D E σ H => te σ H (fun v H1 => D.nx (σ.set i (some v)) H1) fun c H1 => E c σ H1) := by
  intro pins s σ H D E I h
  refine wpAny_Assign_Name (wpAny_mono (he pins s σ H _ _ I h) (fun v s1 ⟨y, H1, I1, r1, q1⟩ => ?_) fun x s1 z => z.imp fun c σ' H' ⟨a, b⟩ => by rw [a]; exact b) hs
  exact store_ok I1 hN hi hx r1 (fun s2 I2 => ⟨_, H1, I2, q1⟩) hf
/-- f(e, ..) of a def that may raise -/
def tCallX (sp : Sp) (t : TA) : St → Hp → VK → (Value → Hp → Prop) → Prop := fun σ H Q E => t σ H fun vs H1 => sp vs H1 Q fun c _ H' => E c H'
theorem AP.unwish {pins : List (Addr × Obj)} {σ : St} {Q : List V → Hp → Prop} {us : List Value} {s' : Shared} {Ex : Value → Shared → Prop} (h : AP (X.wish Ex) pins σ Q us s') : AP X pins σ Q us s' := by
  obtain ⟨vs, H', I, r, q⟩ := h
  exact ⟨vs, H', I.unwish, r, q⟩
theorem PA.lift {es : List Expr} {ta : TA} (h : PA X.nox es ta) : ∀ (pos : Pos) (pins : List (Addr × Obj)) (s : Shared) (σ : St) (H : Hp) (Q : List V → Hp → Prop) (E : Value → Shared → Prop), Inv X pins σ H s → ta σ H Q →
    wpAny (model X.prog X.w) X.A (spliced (backTo pos (starEach es X.env))) (AP X pins σ Q) E s := fun pos pins s σ H Q E I hw =>
  wpAny_mono (h pos pins s σ H Q (I.wish _) hw) (fun _ _ q => AP.unwish q) fun _ _ z => False.elim z
theorem run_fnX {f : Addr} {fd : FuncData} {ps : List Str} {sp : Sp} {k : Nat} {ds : List Value} {dvs : List V} {pins : List (Addr × Obj)} {σ : St} {H : Hp} {s : Shared} {Q : VK} {E : Value → Hp → Prop} {us : List Value} {vs : List V} (ow : OwnFr X)
    (F : FnOk X.prog X.w X.K X.mg X.base (CXr X.prog X.w) k f fd ps sp) (hr : Room k X.A) (hb : Binds X.K fd ps ds) (hd : Vals dvs ds)
    (I : Inv X pins σ H s) (r : Vals vs us) (h : sp (vs ++ dvs) H Q fun c _ H' => E c H') : wpAny (model X.prog X.w) X.A (call (.ref f) us) (EP X pins σ Q) (XL X pins fun c σ' H' => σ' = σ ∧ E c H') s := by
  have r2 : Vals (vs ++ dvs) (us ++ ds) := r.append hd
  have hl : (us ++ ds).length = ps.length := by rw [← r2.length]; exact F.len _ _ _ _ h
  refine wpAny_call (codeAny_mono (F.run X.A X.stack s H ⟨us, []⟩ (us ++ ds) (vs ++ dvs) Q _ hr I.env0 (hb s us I.kIn hl) r2 h) fun r s' hq => ?_)
  cases r with
  | error e => exact XL.of_call (E := fun c _ H' => E c H') ow I (show CXr X.prog X.w X.stack H s (fun c _ H' => E c H') e s' from hq)
  | ok fl =>
    cases fl with
    | ret u => exact I.after hq
    | next => exact False.elim hq
    | brk => exact False.elim hq
    | cont => exact False.elim hq
theorem pex_def {x : Str} {st : Stmt} {ps : List Str} {f : Addr} {fd : FuncData} {k : Nat} {sp : Sp} {p : Pos} {es : List Expr} {ta : TA} (ow : OwnFr X) (D : Def X.K X.mg x st ps f fd) (G : FnOk X.prog X.w X.K X.mg X.base (CXr X.prog X.w) k f fd ps sp) (hr : Room k X.A) (ha : PA X.nox (e :: es) ta)
    (hp : plainE e = true := by rfl) (hps : es.all plainE = true := by rfl) (hg : Gl X x := by rfl) (hdb : (x == ("__debug__" : Str)) = false := by decide) : PEX X (.Call (.Name x p) (e :: es) [] pos) (tCallX sp ta) := by
  intro pins s σ H Q E I h
  refine wpAny_Call_Name_kw (ld_glob I hg D.m ?_ hdb)
  refine PySem.W.callWith_K (h₀ := X.base) I.ok.mod.kin D.F.kp (thn (ha.lift pos pins s σ H _ _ I h) fun us s1 ⟨vs, H1, I1, r, q⟩ => ⟨I1.kIn, ?_⟩) (starEach_plain hp _ _) (starAny_plain hps _ _)
  exact run_fnX (dvs := []) ow G hr D.b .nil I1 r (by rw [List.append_nil]; exact q)
end

/-! ### a def that may raise -/
section
variable {P : Program} {w : World} {K : PySem.W.Frag} {mg : Str → Option Value} {base : Heap}
theorem ownFr_cx {CX : CXT} {N : List Str} {qual : Str} {scope : Scope} {f : Addr} {cd : Value} {A : Around} {outer : List Env} {s : Shared} {H : Hp} {E : XK} : OwnFr (cxOf CX P w K mg base N qual scope f cd A outer s H E) := ⟨rfl, rfl, rfl⟩
theorem Fun.okX {x qual : Str} {st : Stmt} {f : Addr} {fd : FuncData} {N ps : List Str} {k : Nat} {sp : Sp} (F : Fun K x qual st f fd) (S : FnScope N ps (defScope st)) (len : ∀ vs H Q E, sp vs H Q E → vs.length = ps.length)
    (hbody : ∀ (cdv : Value) (A : Around) (outer : List Env) (s : Shared) (H : Hp) (vs : List V) (Q : VK) (E : XK), Room k (A.deeper (envOfC qual (defScope st) s.heap.objs.size f cdv)) → sp vs H Q E →
      ∃ t : TSX, PSsX (cxOf (CXr P w) P w K mg base N qual (defScope st) f cdv A outer s H E) (defBody st) t ∧ t { nx := fun _ H' => Q .non H', rt := Q } (fun c _ H' => E c none H') (start N vs) H) : FnOk P w K mg base (CXr P w) (k + 1) f fd ps sp := by
  obtain ⟨oc, od, kV, doc, pm, an, cdv, ct, osl, rfl, lk, hcd⟩ := F.ex
  refine fn_of lk hcd S len fun A outer s H vs Q E hr hsp => ?_
  obtain ⟨t, h, q⟩ := hbody cdv A outer s H vs Q E hr hsp
  refine ⟨fun D σ H' => t D (fun c _ H' => E c none H') σ H', fun pins s1 σ H1 D I hw => ?_, q⟩
  refine wpAny_mono (h pins s1 σ H1 D _ I hw) (fun _ _ z => z) fun e s2 z => ?_
  -- the exception leaves the frame
  show wpAny (model P w) _ (leaving _ e) _ _ s2
  unfold leaving
  refine wpAny_bind (wpAny_mono z (fun _ s3 z3 => ?_) fun _ _ z => z.elim)
  obtain ⟨a, cls, a0, σ', H', B, rfl, I', hh, C, na, q'⟩ := z3
  refine wpAny_landsW hh fun h' fl up => ?_
  have I2 := I'.flown (t' := s3.toks) rfl C hh.1 fl.1 up
  obtain ⟨k1, k2, ⟨_, _, k3⟩, k4⟩ := fl
  exact ⟨a, cls, a0, H', B, rfl, I2.os, I2.bare, I2.base, I2.hok, ⟨k1, k2, k3, k4⟩, na, C.old, C.trk, q'⟩
end
end L2


set_option Elab.async false
set_option linter.all false
set_option maxRecDepth 100000
set_option maxHeartbeats 1000000
namespace PySem.W
open PySem PySem.Spec PySem.Calls PyProof.Rows
section
variable {prog : Program} {w : World} {A : Around} {E : Value → Shared → Prop} {h : Heap} {g : Array GenState} {d : Drawn} {t : Nat} {os : OsState} {a C : Addr} {o : Obj} {K : Frag}
theorem class_get_exc {R : Result → Shared → Prop} (X : K.In h) (hx : h.get? a = some o) (hc : o.cls = .ref C) (hm : mroIn K C (.type "object") = some true) (hq : R (.ok (.ret (.ref C))) ⟨h, g, d, t, os⟩) :
    codeAny (model prog w) A (.call (.builtin "getset_descriptor.__get__") ⟨[.builtin "object.__class__", .ref a, .ref C], []⟩) R ⟨h, g, d, t, os⟩ := by
  have hT5 : (⟨h, g, d, t, os⟩ : Shared).TypeIs (.builtin "object.__class__") "getset_descriptor" := F.typeOf_object_class
  have L : Looks (model prog w) h (isSubtype (.ref C) (.type (".".intercalate ("object.__class__".cutAt '.').dropLast))) true := by
    rw [F.owner_object_class]
    exact looks_subIn X hm
  refine codeAny_call_builtin F.slot_gs_get.plain F.entry_gs_get (F.slot_gs_get.check _ _ _ _ _ _ _ _ hT5 (F.args_gs_get _ _ _) ?_)
  repeat (any_goals (first | assumption | (with_reducible refine wpAny_loadPart_at hx ?_; rw [hc]) | with_reducible refine L.at ?_ | wp_step))
  refine ⟨Code.quiet_builtin _ (by decide +kernel), codeAny_builtin F.entry_object_class ?_⟩
  repeat (any_goals (first | assumption | (with_reducible refine wpAny_loadPart_at hx ?_; rw [hc]) | wp_step))
theorem class_entry_exc {tk : Tok} {Q : Fin → Shared → Prop} (X : K.In h) (hx : h.get? a = some o) (hc : o.cls = .ref C) (ha : findIn K (.ref C) "__class__" = some (some (.builtin "object.__class__"))) (hm : mroIn K C (.type "object") = some true) (hq : Q (.done (.ret (.ref C))) ⟨h, g, d, t, os⟩) :
    wpAny (model prog w) A (Builtin.«object.__getattribute__» ⟨[.ref a, .str "__class__" tk], []⟩) Q E ⟨h, g, d, t, os⟩ := by
  have f5 := F.typeOf_object_class
  have f6 := F.slot_gs_get.lookup
  have f7 := F.slot_gs_set.lookup
  have hT5 : (⟨h, g, d, t, os⟩ : Shared).TypeIs (.builtin "object.__class__") "getset_descriptor" := F.typeOf_object_class
  have L := looks_findIn (M := model prog w) X ha
  repeat (any_goals (first | assumption | (with_reducible refine wpAny_loadPart_at hx ?_; rw [hc]) | with_reducible refine L.at ?_ | wp_step))
  refine class_get_exc X hx hc hm ?_
  repeat (any_goals (first | assumption | wp_step))
theorem check_ga_exc {M : Model} {nameV : Value} {Q : Unit → Shared → Prop} (X : K.In h) (hx : h.get? a = some o) (hc : o.cls = .ref C) (hb : subIn K (.ref C) (.type "BaseException") = some true) (hq : Q () ⟨h, g, d, t, os⟩) :
    wpAny M A (checkBuiltinCall "BaseException.__getattribute__" ⟨[.ref a, nameV], []⟩) Q E ⟨h, g, d, t, os⟩ := by
  have hk : builtinKind "BaseException.__getattribute__" = some .slot := by decide +kernel
  have hsplit : splitId "BaseException.__getattribute__" = some ("BaseException", "__getattribute__") := by decide +kernel
  have L := looks_subIn (M := M) X hb
  have ha := F.args_bexc_ga (.ref a) nameV
  simp only [checkBuiltinCall, hk, hsplit]
  refine wpAny_bind ?_
  unfold isInstance
  repeat (first | (with_reducible refine wpAny_loadPart_at hx ?_; rw [hc]) | with_reducible refine L.at ?_ | wp_step)
  exact hq
structure ExcK (K : Frag) (C : Addr) : Prop where
  cl : findIn K (.ref C) "__class__" = some (some (.builtin "object.__class__"))
  ga : findIn K (.ref C) "__getattribute__" = some (some (.builtin "BaseException.__getattribute__"))
  gt : findIn K (.ref C) "__getattr__" = some none
  ob : mroIn K C (.type "object") = some true
  bx : subIn K (.ref C) (.type "BaseException") = some true
theorem class_call_exc {tk : Tok} {R : Result → Shared → Prop} (X : K.In h) (hx : h.get? a = some o) (hc : o.cls = .ref C) (F0 : ExcK K C) (hq : R (.ok (.ret (.ref C))) ⟨h, g, d, t, os⟩) :
    codeAny (model prog w) A (.call (.builtin "BaseException.__getattribute__") ⟨[.ref a, .str "__class__" tk], []⟩) R ⟨h, g, d, t, os⟩ :=
  codeAny_call_builtin F.attr_ValueError.ga.plain F.entry_bexc_ga (check_ga_exc X hx hc F0.bx (class_entry_exc X hx hc F0.cl F0.ob hq))
theorem class_by_exc {tk : Tok} {Q : Value → Shared → Prop} (X : K.In h) (hx : h.get? a = some o) (hc : o.cls = .ref C) (F0 : ExcK K C) (hq : Q (.ref C) ⟨h, g, d, t, os⟩) :
    wpAny (model prog w) A (getAttrBy (.ref a) (.str "__class__" tk) false) Q E ⟨h, g, d, t, os⟩ := by
  have f3 := F.attr_ValueError.ga.bind (.ref a)
  have L1 := looks_findIn (M := model prog w) X F0.ga
  have L2 := looks_findIn (M := model prog w) X F0.gt
  have hx2 : (Value.builtin "BaseException.__getattribute__" == Value.builtin "object.__getattribute__") = false := by decide +kernel
  have hx1 : (onTheHeap (Value.ref C) && Value.builtin "BaseException.__getattribute__" == Value.builtin "object.__getattribute__") = false := by rw [hx2]; rfl
  repeat (any_goals (first | assumption | (with_reducible refine wpAny_loadPart_at hx ?_; rw [hc]) | with_reducible refine L1.at ?_ | with_reducible refine L2.at ?_ | wp_step))
  refine class_call_exc X hx hc F0 ?_
  repeat (any_goals (first | assumption | wp_step))
theorem class_attr_exc {Q : Option Value → Shared → Prop} (X : K.In h) (hx : h.get? a = some o) (hc : o.cls = .ref C) (F0 : ExcK K C) (hq : Q (some (.ref C)) ⟨h, g, d, t + 1, os⟩) : wpAny (model prog w) A (getAttr? (.ref a) "__class__") Q E ⟨h, g, d, t, os⟩ := by
  unfold getAttr? getAttrBy?
  repeat (any_goals (first | assumption | with_reducible apply class_by_exc X hx hc F0 | wp_step))
end
/-- an exception of an own class, for isinstance -/
theorem kitx_exc {K : Frag} {a C : Addr} (F0 : ExcK K C) (hcl : (clsIn K C).isSome = true) : KitX K (.ref a) (.ref C) (fun h => ∃ o, h.get? a = some o ∧ o.cls = .ref C) where
  ty := fun M h X ⟨o, e, c⟩ => by
    rw [← c]
    exact (Looks.ld e).andThen .now
  it := fun _ _ X _ => by
    unfold clsIn at hcl
    split at hcl
    · rename_i c' d' cd' sl' ho
      intro A' Q' E' s' k q
      unfold isType loadHead
      exact wpAny_bind (wpAny_loadPart (k _ _ (X _ _ ho)) (wpAny_pure q))
    · cases hcl
  ne := fun h tp dd its n sl X htp => by
    refine Bool.eq_false_iff.mpr fun q => ?_
    have e : C = tp := Value.ref.inj (beq_iff_eq.mp q)
    subst e
    unfold clsIn at hcl
    split at hcl
    · rename_i c' d' cd' sl' ho
      have z := (X _ _ ho).symm.trans htp
      cases z
    · cases hcl
  ca := fun {prog w A E Q s} X p k => by
    obtain ⟨o, e, c⟩ := p
    exact class_attr_exc X e c F0 k
end PySem.W


set_option Elab.async false
set_option linter.all false
set_option maxRecDepth 100000
set_option maxHeartbeats 1000000
namespace L2
open PySem PySem.Spec PyProof.Rows
/-! ### within an except suite -/
abbrev Cx.hand (X : Cx) (e : Value) : Cx := { X with A := X.A.mark (some e), calm := false, xe := fun _ _ => False }
section
variable {X : Cx} {pins : List (Addr × Obj)} {σ : St} {H : Hp} {s : Shared}
theorem Inv.hand (I : Inv X pins σ H s) (e : Value) : Inv (X.hand e) pins σ H s :=
  ⟨⟨I.ok.mod, I.ok.kind, I.ok.glob, I.ok.blt, I.ok.above, I.ok.inj, I.ok.has, I.ok.cab, (fun z => by cases z), I.ok.frames, I.ok.stk, I.ok.exf, I.ok.bs, I.ok.bsz, I.ok.noex, I.ok.exfs, I.ok.funs, I.ok.frf⟩, I.os, I.bare, I.base, I.loc, I.cell, I.free, I.freeC, I.pin, I.hok, I.len⟩
theorem Inv.unhand {e : Value} (ok : X.Ok) (I : Inv (X.hand e) pins σ H s) : Inv X pins σ H s :=
  ⟨ok, I.os, I.bare, I.base, I.loc, I.cell, I.free, I.freeC, I.pin, I.hok, I.len⟩
/-- a thing that stands there, new since the entry, is tracked from now on -/
theorem Inv.track {a : Addr} {o : Obj} {vs : Array Value} {φ : Heap → Prop} {B : Heap} (I : Inv X pins σ H s) (hx : X.ex = []) (C : Cov X pins H B) (st : B.StaysIn s.heap) (na : H a = none) (nb : B.get? a = none) (ho : s.heap.get? a = some o) (hd : o.data = .fields vs)
    (p : φ s.heap) (stb : ∀ h1 h2 : Heap, φ h1 → (∀ o, h1.get? a = some o → h2.get? a = some o) → φ h2) : Inv X pins σ (upd H a (.ext φ)) s := by
  have nl : a ≠ X.env.locals := by
    rintro rfl
    obtain ⟨m, ⟨o', es, ep, e, d, _⟩, _⟩ := I.loc
    rw [ho] at e; cases e
    rw [hd] at d; cases d
  have nfs : a ∉ X.fs := fun z => by
    obtain ⟨_, o', e, d⟩ := I.funs.mem z
    rw [ho] at e; cases e
    exact d _ hd
  have n0 : X.s₀.heap.get? a = none := by
    cases z : X.s₀.heap.get? a with
    | none => rfl
    | some o' =>
      obtain ⟨o2, e2⟩ := C.old a o' z nfs
      rw [nb] at e2; cases e2
  have nc : ∀ x c, X.env.cells.lookup x = some c → c ≠ a := fun x c e z => by
    obtain ⟨v, o', e', d⟩ := I.cell x c e
    rw [z, ho] at e'; cases e'
    rw [hd] at d; cases d
  have np : ∀ q ∈ X.pn ++ pins, q.1 ≠ a := fun q hq z => by
    obtain ⟨o', e⟩ := C.pin q hq
    rw [z, nb] at e; cases e
  refine ⟨I.ok, I.os, I.bare, ⟨I.base.keep |> fun k b o e n hb hx => k b o e n hb hx, I.base.slot, fun b o' e n hb => ?_, I.base.there, fun b xs e => ?_, fun b ob u e => ?_, fun b ps e => ?_⟩, I.loc, I.cell, ?_, fun x c e => ?_, fun q hq => ?_, fun b u e => ?_, I.len⟩
  · rw [upd_ne (fun z => by subst z; rw [n0] at e; cases e)]
    exact I.base.free b o' e n hb
  · exact upd_old (I.base.tups b xs e) na
  · exact upd_old (I.base.frzs b ob u e) na
  · obtain ⟨more, e'⟩ := I.base.tbls b ps e
    exact ⟨more, upd_old e' na⟩
  · rw [upd_ne (Ne.symm nl)]
    exact I.free
  · rw [upd_ne (nc x c e)]
    exact I.freeC x c e
  · obtain ⟨e, n, r⟩ := I.pin q hq
    exact ⟨e, by rw [upd_ne (np q hq)]; exact n, r⟩
  · by_cases z : b = a
    · subst z
      rw [upd_same] at e
      cases e
      exact ⟨p, ⟨o, ho⟩, stb⟩
    · rw [upd_ne z] at e
      exact (I.hok b u e).stay (fun _ _ _ q => q) (fun c q => upd_old q na) fun c xs q => upd_old q na
/-- the name in slot i is taken away -/
theorem Inv.unbind {i : Nat} {x : Str} {h' : Heap} {u : Option Value} {m : Str → Option Value} (I : Inv X pins σ H s) (hN : X.N.Nodup) (hi : X.N[i]? = some x)
    (hm : s.heap.Ns X.env.locals m) (hl : ∀ (j : Nat) (y : Str) (v : V), X.N[j]? = some y → σ[j]? = some (some v) → Vis X.env.scope y → ∃ u, RelV v u ∧ Look X.env s.heap m y u)
    (hn' : h'.Ns X.env.locals (fun y => if y = x then u else m y)) (hs : Heap.SameBut X.env.locals s.heap h') : Inv X pins (σ.set i none) H { s with heap := h' } := by
  have cne := I.cne
  obtain ⟨oL, _, _, hoL, _⟩ := id hm
  refine ⟨I.ok, I.os, I.bare, ⟨fun b o e n hb hx => ?_, fun b o e n hb hx => ?_, I.base.free, fun b o e hx => ?_, I.base.tups, I.base.frzs, I.base.tbls⟩, ⟨_, hn', fun j y v' e1 e2 e3 => ?_⟩, fun y c e => ?_, I.free, I.freeC, fun p hp => ?_, fun b ob e => ?_, by simpa using I.len⟩
  · exact (hs.2 b (Nat.ne_of_lt (Nat.lt_of_lt_of_le (Heap.lt_size e) I.ok.above))).trans (I.base.keep b o e n hb hx)
  · obtain ⟨sl, e1⟩ := I.base.slot b o e n hb hx
    exact ⟨sl, (hs.2 b (Nat.ne_of_lt (Nat.lt_of_lt_of_le (Heap.lt_size e) I.ok.above))).trans e1⟩
  · obtain ⟨o', e1⟩ := I.base.there b o e hx
    exact ⟨o', (hs.2 b (Nat.ne_of_lt (Nat.lt_of_lt_of_le (Heap.lt_size e) I.ok.above))).trans e1⟩
  · by_cases hj : j = i
    · subst hj
      have : j < σ.length := by rw [I.len]; exact (List.getElem?_eq_some_iff.mp hi).1
      rw [List.getElem?_set_self this] at e2
      cases e2
    · rw [List.getElem?_set_ne (Ne.symm hj)] at e2
      obtain ⟨u', r', q⟩ := hl j y v' e1 e2 e3
      refine ⟨u', r', ?_⟩
      rcases q with ⟨k, e⟩ | ⟨k, c, e, z⟩
      · refine .inl ⟨k, ?_⟩
        have : y ≠ x := fun e => hj (nodup_ix hN e1 (e ▸ hi))
        simp [this, e]
      · exact .inr ⟨k, c, e, z.sameBut hs (cne y c e)⟩
  · obtain ⟨w', z⟩ := I.cell y c e
    exact ⟨w', z.sameBut hs (cne y c e)⟩
  · obtain ⟨e, n, ne, nf, d⟩ := I.pin p hp
    exact ⟨(hs.2 p.1 ne).trans e, n, ne, nf, d⟩
  · refine (I.hok b ob e).stay (fun c w' hc q => (hs.2 c ?_).trans q) (fun _ q => q) fun _ _ q => q
    rintro rfl
    rcases hc with rfl | hc
    · rw [I.free] at e; cases e
    · rw [I.free] at hc; cases hc
end
/-- an exception of the class cls, as a tracked thing -/
def excHO (a : Addr) (cls : Value) : HO := .ext fun h => ∃ o, h.get? a = some o ∧ o.cls = cls

/-! ### try: .. except C as n: .. -/
section
variable {X : Cx}
/-- what is wanted of the body's exception (class, names, heap): the handler takes it -/
def tTry (K : PySem.W.Frag) (D0 : Addr) (i : Nat) (tb : TSX) (th : TS) : TSX := fun D _ σ H =>
  tb D (fun c σ' H' => PySem.W.exmOne K c (.ref D0) = some true ∧ ∀ a, H' a = none →
    th { nx := fun σ2 H2 => D.nx (σ2.set i none) H2, rt := D.rt, bk := fun σ2 H2 => D.bk (σ2.set i none) H2, ct := fun σ2 H2 => D.ct (σ2.set i none) H2 } (σ'.set i (some (.ref a))) (upd H' a (excHO a c))) σ H
theorem sx_try {D0 : Addr} {body : List Stmt} {b₀ : Stmt} {suite : List Stmt} {x n : Str} {np hpos pos : Pos} {i : Nat} {tb : TSX} {th : TS} (ow : OwnFr X) (hN : X.N.Nodup) (hb : PSsX X body tb) (hh : ∀ e, PSs (X.hand e) (b₀ :: suite) th)
    (hm : X.mg x = some (.ref D0)) (hi : X.N[i]? = some n) (hl : X.env.scope.names.lookup n = some .local := by rfl) (hg : Gl X x := by rfl) (hd : (x == ("__debug__" : Str)) = false := by decide) :
    PSX X (.Try body [.ExceptHandler (some (.Name x np)) (some n) (b₀ :: suite) hpos] [] [] pos) (tTry X.K D0 i tb th) := by
  intro pins s σ H D E I h
  refine wpAny_Try_except (wpAny_mono (hb pins s σ H D _ I h) (fun f s1 q => ?_) fun e s1 z => ?_)
  · cases f with
    | next => exact wpAny_execs_nil q
    | ret v => exact q
    | brk => exact q
    | cont => exact q
  refine wpAny_mono z (fun _ s2 z2 => ?_) fun _ _ z => z.elim
  obtain ⟨a, cls, a0, σ', H', B, rfl, I2, held, C, na, em, k⟩ := z2
  refine wpAny_landsW held fun h3 fl3 up3 => ?_
  have I3 := I2.flown (t' := s2.toks) ow.2.2 C held.1 fl3.1 up3
  refine wpAny_handleBy_cons (codeAny_handlers_test ?_) (by intro q; cases q)
  refine ld_glob (X := X.hand (.ref a)) (I3.hand (.ref a)) hg hm ?_ hd
  obtain ⟨ob, hob, hoc⟩ := fl3.there
  have LT : PySem.W.Looks (model X.prog X.w) h3 (typeOf (.ref a)) cls := by
    rw [← hoc]
    exact (PySem.W.Looks.ld hob).andThen .now
  refine PySem.W.Looks.here (s := { s2 with heap := h3 }) (PySem.W.exm_one I3.kIn LT em) ?_
  refine codeAny_handlers_suite_as ?_
  refine lands_againW fl3 fun h4 fl4 up4 => ?_
  have I4 := I3.flown (t' := s2.toks) ow.2.2 C fl3.1 fl4.1 up4
  obtain ⟨oe, ws, hoe, hoec, hoed, _⟩ := fl4.first
  have I5 : Inv X pins σ' (upd H' a (excHO a cls)) _ := I4.track (B := B) ow.2.2 C fl4.1 na fl4.2.1 hoe hoed (φ := fun h => ∃ o, h.get? a = some o ∧ o.cls = cls) ⟨oe, hoe, hoec⟩ fun h1 h2 ⟨o, e, c⟩ q => ⟨o, q o e, c⟩
  refine store_ok (X := X.hand (.ref a)) (I5.hand (.ref a)) hN hi (.inl hl) (v := .ref a) rfl (fun s6 I6 => ?_) (.inr hl)
  refine wpAny_mono (hh (.ref a) pins s6 _ _ _ I6 (k a na)) (fun f s7 q7 => ?_) fun _ _ z => z.elim
  -- behind the suite the name is taken away
  have out : ∀ {σ7 : St} {H7 : Hp} {R : St → Hp → Prop} {Q : Unit → Shared → Prop}, Inv (X.hand (.ref a)) pins σ7 H7 s7 → (∀ s9, Inv X pins (σ7.set i none) H7 s9 → Q () s9) →
      wpAny (model X.prog X.w) X.A (do bindName X.env n .none; unbindBehindTheSuite X.env n hpos) Q (XL X pins E) s7 := fun {σ7 H7 R Q} I7 kk => by
    have I7' := Inv.unhand I.ok I7
    refine wpAny_bind (wpAny_bindName (store_ok I7' hN hi (.inl hl) (v := .non) rfl (fun s8 I8 => ?_) (.inr hl)))
    unfold unbindBehindTheSuite
    obtain ⟨m, hn, hlk⟩ := I8.loc
    have hiσ : i < σ7.length := by rw [I7'.len]; exact (List.getElem?_eq_some_iff.mp hi).1
    obtain ⟨u8, r8, l8⟩ := hlk i n .non hi (by rw [List.getElem?_set_self hiσ]) (.inl hl)
    have hmn : m n = some u8 := by
      rcases l8 with ⟨_, e⟩ | ⟨kd, _⟩
      · exact e
      · rcases kd with kd | kd
        · have z : X.env.scope.names.lookup n = some .cell := kd
          rw [hl] at z; cases z
        · have z : X.env.scope.names.lookup n = some .free := kd
          rw [hl] at z; cases z
    refine wpAny_onRaise (wpAny_unbindName_local (v := u8) hl hn hmn (by rw [I.ok.kind]; rfl) fun h9 u9 hn9 hs9 => ?_)
    have I9 := I8.unbind hN hi hn hlk hn9 hs9
    rw [List.set_set] at I9
    exact kk _ I9
  cases f with
  | next =>
    obtain ⟨σ7, H7, I7, q⟩ := q7
    exact out (R := fun _ _ => True) I7 fun s9 I9 => ⟨_, _, I9, q⟩
  | brk =>
    obtain ⟨σ7, H7, I7, q⟩ := q7
    exact out (R := fun _ _ => True) I7 fun s9 I9 => ⟨_, _, I9, q⟩
  | cont =>
    obtain ⟨σ7, H7, I7, q⟩ := q7
    exact out (R := fun _ _ => True) I7 fun s9 I9 => ⟨_, _, I9, q⟩
  | ret v =>
    obtain ⟨v7, σ7, H7, I7, r7, q⟩ := q7
    exact out (R := fun _ _ => True) I7 fun s9 I9 => ⟨_, _, _, I9, r7, q⟩
end
end L2


set_option Elab.async false
set_option linter.all false
set_option maxRecDepth 100000
set_option maxHeartbeats 1000000
namespace L2
open PySem PySem.Spec PyProof.Rows
/-! ### isinstance(e, C) of a caught exception -/
section
variable {X : Cx}
theorem call_isinstE : CallR X (.builtin "isinstance") (fun xs H Q => ∃ a C y cv b, xs = [.ref a, y] ∧ H a = some (excHO a (.ref C)) ∧ RelV y cv ∧ PySem.W.ExcK X.K C ∧ (PySem.W.clsIn X.K C).isSome = true ∧ PySem.W.kitOne X.K (.ref C) cv = some b ∧ Q (.bl b) H) := by
  intro pins s σ H xs us Q I r h
  obtain ⟨a, C, y, cv, b, rfl, ha, ry, F0, hcl, e, q⟩ := h
  obtain ⟨u, w', rfl, rx, rt⟩ := vals2 r
  cases rx
  have : cv = w' := by
    cases y with
    | ref p => cases ry; cases rt; rfl
    | ty n => cases ry; cases rt; rfl
    | non => cases ry; cases rt; rfl
    | bl p => cases ry; cases rt; rfl
    | int p =>
      exfalso
      obtain ⟨t, rfl⟩ := ry
      simp [PySem.W.kitOne, PySem.W.kitCls] at e
    | str p =>
      exfalso
      obtain ⟨t, rfl⟩ := ry
      simp [PySem.W.kitOne, PySem.W.kitCls] at e
    | byt p =>
      exfalso
      obtain ⟨t, rfl⟩ := ry
      simp [PySem.W.kitOne, PySem.W.kitCls] at e
    | flt p =>
      exfalso
      obtain ⟨t, rfl⟩ := ry
      simp [PySem.W.kitOne, PySem.W.kitCls] at e
  subst this
  obtain ⟨p, _, _⟩ : (∃ o, s.heap.get? a = some o ∧ o.cls = .ref C) ∧ (∃ o, s.heap.get? a = some o) ∧ _ := I.hok a _ ha
  exact PySem.W.kia_one (PySem.W.kitx_exc F0 hcl) I.kIn p e (fun z => nomatch z) fun tk => ⟨.bl b, H, I.tok _, rfl, q⟩
end

/-! ### raise C(..) -/
theorem exc_obj {K : PySem.W.Frag} {h : Heap} {C : Addr} {bmB : List Value} {newId : String} (X : K.In h) (q : PySem.W.excIn K C bmB newId = true) :
    ∃ bm N nm q bs hdct sn sub ab col dd k0 k1 k2 k3 k5 mN, h.get? C = some (excClassObj nm q C N bs bm hdct sn sub ab col dd k0 k1 k2 k3 k5 newId) ∧ h.Ns N mN ∧ mN "__init__" = none ∧ OwnTail h bmB bm := by
  unfold PySem.W.excIn at q
  split at q
  · rename_i dd cd sl ho
    split at q
    · rename_i C' bm k0 k1 k2 k3 n k5 hm hs
      simp only [Bool.and_eq_true, beq_iff_eq, Bool.not_eq_true'] at q
      obtain ⟨⟨⟨⟨⟨rfl, rfl⟩, hdel⟩, ht⟩, hok⟩, hni⟩ := q
      obtain ⟨nm, bs, mro, ns, qn, hd, sn, sub, ab, col, del⟩ := cd
      dsimp only at hm hdel hok hni
      subst hm hdel
      have hsl : sl = #[k0, k1, k2, k3, some (.builtin n), k5] := by
        obtain ⟨l⟩ := sl
        simp only at hs
        rw [hs]
      subst hsl
      exact ⟨bm, ns, nm, qn, bs, hd, sn, sub, ab, col, dd, k0, k1, k2, k3, k5, _, X _ _ ho, .of_isNs (PySem.W.isNs_of_in X hok), PySem.W.nsMap_none_of_in X hok hni, PySem.W.tail_of_in X ht⟩
    · cases q
  · cases q
/-- an own error class under ValueError -/
def veTail : List Value := [.type "ValueError", .type "Exception", .type "BaseException", .type "object"]
structure ExcC (K : PySem.W.Frag) (mg : Str → Option Value) (x : Str) (C : Addr) : Prop where
  m : mg x = some (.ref C)
  q : PySem.W.excIn K C veTail "ValueError.__new__" = true
  k : PySem.W.ExcK K C
  c : (PySem.W.clsIn K C).isSome = true
section
variable {X : Cx}
theorem sx_raise {x : Str} {C : Addr} {e : Expr} {es : List Expr} {ta : TA} {np cpos pos : Pos} (ow : OwnFr X) (hc : X.calm = true) (K0 : ExcC X.K X.mg x C) (ha : PA X.nox (e :: es) ta) (hp : plainE e = true := by rfl) (hps : es.all plainE = true := by rfl) (hg : Gl X x := by rfl)
    (hd : (x == ("__debug__" : Str)) = false := by decide) :
    PSX X (.Raise (some (.Call (.Name x np) (e :: es) [] cpos)) none pos) (fun D E σ H => ta σ H fun vs H1 => vs.length ≤ sizeLine ∧ E (.ref C) σ H1) := by
  intro pins s σ H D E I h
  obtain ⟨tl, N, nm, q, bs, hdct, sn, sub, ab, col, dd, k0, k1, k2, k3, k5, mN, hC, hN, hni, T⟩ := exc_obj I.ok.mod.kin K0.q
  refine wpAny_Raise_call_subT (C := C) (nm := nm) (q := q) (N := N) (bs := bs) (bm := tl) (hdct := hdct) (sn := sn) (sub := sub) (ab := ab) (col := col) (dd := dd) (k0 := k0) (k1 := k1) (k2 := k2) (k3 := k3) (k5 := k5)
    PySem.F.excBase_ValueError (mN := mN) (T.hasType PySem.F.excBase_ValueError.hasBase) (I.ok.hd hc) (starAny_plain (es := e :: es) (by rw [List.all_cons, hp, hps]; rfl) _ _) hni (ld_glob I hg K0.m ⟨rfl, ?_⟩ hd)
  have hA := ha.lift cpos pins s σ H (fun vs H1 => vs.length ≤ sizeLine ∧ E (.ref C) σ H1) (XL X pins E) I h
  rw [starEach_plain hp] at hA ⊢
  refine Calls.evalArgs_plain (wpAny_mono hA (fun us s2 ⟨vs, H2, I2, r, z, q2⟩ => ?_) fun _ _ y => y)
  have kp : ∀ b o, X.base.get? b = some o → s2.heap.get? b = some o := I2.bk
  exact ⟨rfl, by rw [← r.length]; exact z, kp _ _ hC, hN.keeps kp, T.keeps kp, fun h' a hx => XL.of_made ow I2 hx q2⟩
end

/-! ### for, in a body that may raise -/
section
variable {X : Cx} {tg : Expr}
def tForX (wi : TI) (g : TG) (tb : TSX) : TSX := fun D E σ H => wi σ H fun J H1 => ∃ W : Nat → Nat → St → Hp → Prop, (∃ m, W 0 m σ H1) ∧ ∀ i m σ H, W i m σ H →
  (J.stop i H ∧ D.nx σ H) ∨ (J.go i H ∧ ∃ N : St → Hp → Prop, (∀ σ' H', N σ' H' → ∃ m', m' < m ∧ W (i + 1) m' σ' H') ∧ ∀ x H', J.yld i H x H' → g x σ H' fun σ2 H2 => tb { D with nx := N, ct := N, bk := D.nx } E σ2 H2)
/-- while, in a body that may raise -/
def tWhileX (c : TT) (tb : TSX) : TSX := fun D E σ H => ∃ W : Nat → St → Hp → Prop, (∃ m, W m σ H) ∧ ∀ m σ H, W m σ H →
  c σ H fun b H1 => if b = true then ∃ N : St → Hp → Prop, (∀ σ' H', N σ' H' → ∃ m', m' < m ∧ W m' σ' H') ∧ tb { D with nx := N, ct := N, bk := D.nx } E σ H1 else D.nx σ H1
end
end L2


set_option Elab.async false
set_option linter.all false
set_option maxRecDepth 100000
set_option maxHeartbeats 1000000
namespace L2
open PySem PySem.Spec PyProof.Rows
/-! ### a[lo:hi:st] of a list -/
def idxOf (n : Nat) (lo hi st : Option Int) : List Nat := sliceRange (sliceBounds lo hi st n).1 (sliceBounds lo hi st n).2.1 (sliceBounds lo hi st n).2.2
def cut3 {α : Type} (xs : List α) (lo hi st : Option Int) : List α := (idxOf xs.length lo hi st).filterMap (xs[·]?)
section
variable {X : Cx} {e : Expr} {te : TE} {lo hi : Option Expr} {st : Expr} {tl th ts : TO} {pos p2 : Pos}
def tSl3 (K : PySem.W.Frag) (te : TE) (tl th ts : TO) : TE := fun σ H Q => te σ H fun x H1 => tl σ H1 fun l H2 => th σ H2 fun u H3 => ts σ H3 fun c H4 => ∃ a xs, x = .ref a ∧ SqL K H4 a xs ∧ c ≠ some 0 ∧ ∀ p, H4 p = none → (cut3 xs l u c).length ≤ xs.length → Q (.ref p) (upd H4 p (.lst (cut3 xs l u c)))
end
/-! ### a call of a def that may raise, where it does not -/
theorem passN {X : Cx} {P : Program} {w : World} : Passes (CXr P w) X E0 := fun _ _ _ _ _ _ _ h => by
  obtain ⟨_, _, _, _, _, _, _, _, _, _, _, _, _, _, z⟩ := h
  exact z.elim
theorem pe_defN {X : Cx} {x : Str} {st : Stmt} {ps : List Str} {f : Addr} {fd : FuncData} {k : Nat} {sp : Sp} {p pos : Pos} {e : Expr} {es : List Expr} {t : TA} (D : Def X.K X.mg x st ps f fd) (G : FnOk X.prog X.w X.K X.mg X.base (CXr X.prog X.w) k f fd ps sp) (hr : Room k X.A) (ha : PA X (e :: es) t)
    (hp : plainE e = true := by rfl) (hps : es.all plainE = true := by rfl) (hg : Gl X x := by rfl) (hdb : (x == ("__debug__" : Str)) = false := by decide) :
    PE X (.Call (.Name x p) (e :: es) [] pos) (tCall sp [] E0 t) := pe_call G hr hg D.m D.F.kp D.b .nil passN ha hdb (starEach_plain hp _ _) (starAny_plain hps _ _)
/-! ### tests that may raise -/
def PTX (X : Cx) (e : Expr) (t : St → Hp → (Bool → Hp → Prop) → (Value → Hp → Prop) → Prop) : Prop :=
  ∀ (pins : List (Addr × Obj)) (s : Shared) (σ : St) (H : Hp) (Q : Bool → Hp → Prop) (E : Value → Hp → Prop), Inv X pins σ H s → t σ H Q E → wpAny (model X.prog X.w) X.A (isTrue e X.env (eval e X.env)) (TP X pins σ Q) (XL X pins fun c σ' H' => σ' = σ ∧ E c H') s
section
variable {X : Cx} {e : Expr} {pos : Pos}
/-- e is not None -/
def tNotNX (te : St → Hp → VK → (Value → Hp → Prop) → Prop) : St → Hp → (Bool → Hp → Prop) → (Value → Hp → Prop) → Prop := fun σ H Q E => te σ H (fun v H1 => Q (!decide (v = .non)) H1) E
theorem ptx_notN {te : St → Hp → VK → (Value → Hp → Prop) → Prop} {k : Nat} {cp : Pos} (he : PEX X e te) : PTX X (.Compare e [.IsNot] [.Constant .none k cp] pos) (tNotNX te) := by
  intro pins s σ H Q E I h
  refine wpAny_isTrue_Compare1 (wpAny_mono (he pins s σ H _ E I h) (fun v s1 ⟨x, H1, I1, r1, q1⟩ => ?_) fun _ _ z => z)
  have hb : PE X.nox (.Constant .none k cp) (tC .non) := pe_non
  refine wpAny_mono (hb pins s1 σ H1 (fun v H2 => v = .non ∧ Q (!decide (x = .non)) H2) (I1.wish _) ⟨rfl, q1⟩) (fun u s2 ⟨y, H2, I2, r2, ey, q2⟩ => ?_) fun _ _ z => False.elim z
  subst ey
  have ho := op_notN (X := X.nox) pins s2 σ H2 x .non v u (fun b H3 => ∃ c, b = .bl c ∧ Q c H3) I2 r1 r2 ⟨rfl, _, rfl, q2⟩
  refine wpAny_mono ho (fun b s3 ⟨z, H3, I3, r3, c, ez, q3⟩ => ?_) fun _ _ z => False.elim z
  subst ez
  cases r3
  exact wpAny_truthy_bool ⟨H3, I3.unwish, q3⟩
def tIfXX (c : St → Hp → (Bool → Hp → Prop) → (Value → Hp → Prop) → Prop) (t u : TSX) : TSX := fun D E σ H => c σ H (fun b H1 => if b = true then t D E σ H1 else u D E σ H1) fun c H1 => E c σ H1
theorem sx_ifX {c : Expr} {a b : List Stmt} {tc : St → Hp → (Bool → Hp → Prop) → (Value → Hp → Prop) → Prop} {t u : TSX} (hc : PTX X c tc) (ha : PSsX X a t) (hb : PSsX X b u) : PSX X (.If c a b pos) (tIfXX tc t u) := by
  intro pins s σ H D E I h
  refine wpAny_If (wpAny_mono (hc pins s σ H _ _ I h) (fun d s1 ⟨H1, I1, q1⟩ => ?_) fun x s1 z => z.imp fun c σ' H' ⟨a, b⟩ => by rw [a]; exact b)
  cases d with
  | true => rw [if_pos rfl] at q1 ⊢; exact ha pins s1 σ H1 D E I1 q1
  | false => rw [if_neg (by decide)] at q1 ⊢; exact hb pins s1 σ H1 D E I1 q1
end
/-- isinstance(e, C) within the except suite -/
theorem call_isinstH {X : Cx} {ev : Value} : CallR (X.hand ev) (.builtin "isinstance") (fun xs H Q => ∃ a C y cv b, xs = [.ref a, y] ∧ H a = some (excHO a (.ref C)) ∧ RelV y cv ∧ PySem.W.ExcK X.K C ∧ (PySem.W.clsIn X.K C).isSome = true ∧ PySem.W.kitOne X.K (.ref C) cv = some b ∧ Q (.bl b) H) := call_isinstE (X := X.hand ev)
/-! ### the walk through readings -/
section
variable {σ : St} {H : Hp} {Q : VK} {D : Ends} {E : XE} {K : PySem.W.Frag}
theorem rd_seqX {t u : TSX} (q : t { D with nx := u D E } E σ H) : tSeqX t u D E σ H := q
theorem rd_lift {t : TS} (q : t D σ H) : tLift t D E σ H := q
theorem rd_nextX (q : D.nx σ H) : tNextX D E σ H := q
theorem rd_ifX {c : TT} {t u : TSX} (q : c σ H fun b H1 => if b = true then t D E σ H1 else u D E σ H1) : tIfX c t u D E σ H := q
theorem rd_callX {sp : Sp} {ta : TA} {E : Value → Hp → Prop} (q : ta σ H fun vs H1 => sp vs H1 Q fun c _ H' => E c H') : tCallX sp ta σ H Q E := q
theorem rd_ifXX {c : St → Hp → (Bool → Hp → Prop) → (Value → Hp → Prop) → Prop} {t u : TSX} (q : c σ H (fun b H1 => if b = true then t D E σ H1 else u D E σ H1) fun c H1 => E c σ H1) : tIfXX c t u D E σ H := q
theorem rd_notNX {te : St → Hp → VK → (Value → Hp → Prop) → Prop} {Q : Bool → Hp → Prop} {E : Value → Hp → Prop} (q : te σ H (fun v H1 => Q (!decide (v = .non)) H1) E) : tNotNX te σ H Q E := q
theorem rd_try {D0 : Addr} {i : Nat} {tb : TSX} {th : TS} (q : tb D (fun c σ' H' => PySem.W.exmOne K c (.ref D0) = some true ∧ ∀ a, H' a = none →
    th { nx := fun σ2 H2 => D.nx (σ2.set i none) H2, rt := D.rt, bk := fun σ2 H2 => D.bk (σ2.set i none) H2, ct := fun σ2 H2 => D.ct (σ2.set i none) H2 } (σ'.set i (some (.ref a))) (upd H' a (excHO a c))) σ H) : tTry K D0 i tb th D E σ H := q
end
end L2


set_option linter.all false
set_option maxRecDepth 100000
/-! A walk through readings: one rule for each head; `rd` goes on until something must be said. -/
namespace L2
open PySem PySem.Spec
section
variable {σ : St} {H : Hp} {Q : VK} {D : Ends} {K : PySem.W.Frag}
theorem rd_var {i : Nat} {v : V} (h : σ[i]? = some (some v)) (q : Q v H) : tVar i σ H Q := ⟨v, h, q⟩
theorem rd_c {v : V} (q : Q v H) : tC v σ H Q := q
theorem rd_op {r : R2} {ta tb : TE} (q : ta σ H fun x H1 => tb σ H1 fun y H2 => r x y H2 Q) : tOp r ta tb σ H Q := q
theorem rd_un {r : V → Hp → VK → Prop} {ta : TE} (q : ta σ H fun x H1 => r x H1 Q) : tUn r ta σ H Q := q
theorem rd_i0 {g : Int → Int → V} {i j : Int} (q : Q (g i j) H) : rI0 g (.int i) (.int j) H Q := ⟨i, j, rfl, rfl, q⟩
theorem rd_i {C : Int → Int → Prop} {g : Int → Int → V} {i j : Int} (c : C i j) (q : Q (g i j) H) : rI C g (.int i) (.int j) H Q := ⟨i, j, rfl, rfl, c, q⟩
theorem rd_u {g : Int → V} {i : Int} (q : Q (g i) H) : rU g (.int i) H Q := ⟨i, rfl, q⟩
theorem rd_eqI {i j : Int} (q : Q (.bl (decide (i = j))) H) : rEq (.int i) (.int j) H Q := ⟨rfl, by rw [show decide (V.int i = V.int j) = decide (i = j) by rw [dec_int]; by_cases h : i = j <;> simp [h]]; exact q⟩
theorem rd_neI {i j : Int} (q : Q (.bl (!decide (i = j))) H) : rNe (.int i) (.int j) H Q := ⟨rfl, by rw [show decide (V.int i = V.int j) = decide (i = j) by rw [dec_int]; by_cases h : i = j <;> simp [h]]; exact q⟩
theorem rd_nn {P : Prop} (q : P) : V.non = V.non ∧ P := ⟨rfl, q⟩
theorem rd_test {t : TE} {Q : Bool → Hp → Prop} (q : t σ H fun x H' => ∃ k, x = .bl k ∧ Q k H') : tTest t σ H Q := q
theorem rd_tB {t : TE} {Q : Bool → Hp → Prop} (q : t σ H fun x H' => ∃ k, x = .bl k ∧ Q k H') : tB t σ H Q := q
theorem rd_ex {k : Bool} {P : Bool → Prop} (q : P k) : ∃ k', V.bl k = .bl k' ∧ P k' := ⟨k, rfl, q⟩
theorem rd_next (q : D.nx σ H) : tNext D σ H := q
theorem rd_seq {t u : TS} (q : t { D with nx := u D } σ H) : tSeq t u D σ H := q
theorem rd_drop {te : TE} (q : te σ H fun _ H1 => D.nx σ H1) : tDrop te D σ H := q
theorem rd_ret {te : TE} (q : te σ H D.rt) : tRet te D σ H := q
theorem rd_if {c : TT} {t u : TS} (q : c σ H fun b H1 => if b = true then t D σ H1 else u D σ H1) : tIfS c t u D σ H := q
theorem rd_asg {te : TE} {g : TG} (q : te σ H fun x H1 => g x σ H1 D.nx) : tAsg te g D σ H := q
theorem rd_gname {i : Nat} {v : V} {Q : St → Hp → Prop} (q : Q (σ.set i (some v)) H) : gName i v σ H Q := q
theorem rd_gsub {to ti : TE} {t : TSet} {v : V} {Q : St → Hp → Prop} (q : to σ H fun o H1 => ti σ H1 fun i H2 => t o i v H2 fun H3 => Q σ H3) : gSub to ti t v σ H Q := q
theorem rd_gtup {n : Nat} {t : TGs} {a : Addr} {xs : List V} {Q : St → Hp → Prop} (h : SqT K H a xs) (hn : xs.length = n) (q : t xs σ H Q) : gTup K n t (.ref a) σ H Q := ⟨a, xs, rfl, h, hn, q⟩
theorem rd_gcons {t : TG} {u : TGs} {v : V} {r : List V} {Q : St → Hp → Prop} (q : t v σ H fun σ' H' => u r σ' H' Q) : gCons t u (v :: r) σ H Q := ⟨v, r, rfl, q⟩
theorem rd_gnil {Q : St → Hp → Prop} (q : Q σ H) : gNil [] σ H Q := ⟨rfl, q⟩
theorem rd_nil {Q : List V → Hp → Prop} (q : Q [] H) : tNil σ H Q := q
theorem rd_cons {ta : TE} {tr : TA} {Q : List V → Hp → Prop} (q : ta σ H fun x H1 => tr σ H1 fun xs H2 => Q (x :: xs) H2) : tCons ta tr σ H Q := q
theorem rd_call {sp : Sp} {E : XK} {t : TA} (q : t σ H fun vs H1 => sp vs H1 Q E) : tCall sp [] E t σ H Q := by
  unfold tCall
  have e : ∀ vs : List V, vs ++ [] = vs := fun vs => List.append_nil vs
  simp only [e]
  exact q
theorem rd_cb {r : List V → Hp → VK → Prop} {t : TA} (q : t σ H fun vs H1 => r vs H1 Q) : tCB r t σ H Q := q
theorem rd_andV {ta tb : TE} (q : ta σ H fun x H1 => ∃ c, x = .bl c ∧ if c = true then tb σ H1 Q else Q (.bl false) H1) : tAndV ta tb σ H Q := q
theorem rd_orV {ta tb : TE} (q : ta σ H fun x H1 => ∃ c, x = .bl c ∧ if c = true then Q (.bl true) H1 else tb σ H1 Q) : tOrV ta tb σ H Q := q
theorem rd_notV {ta : TE} (q : ta σ H fun x H1 => ∃ c, x = .bl c ∧ Q (.bl (!c)) H1) : tNotV ta σ H Q := q
theorem rd_and {t u : TT} {Q : Bool → Hp → Prop} (q : t σ H fun c H1 => if c = true then u σ H1 Q else Q false H1) : tAnd t u σ H Q := q
theorem rd_or {t u : TT} {Q : Bool → Hp → Prop} (q : t σ H fun c H1 => if c = true then Q true H1 else u σ H1 Q) : tOr t u σ H Q := q
theorem rd_not {t : TT} {Q : Bool → Hp → Prop} (q : t σ H fun c H1 => Q (!c) H1) : tNot t σ H Q := q
theorem rd_tIf {t : TT} {ta tb : TE} (q : t σ H fun c H1 => if c = true then ta σ H1 Q else tb σ H1 Q) : tIf t ta tb σ H Q := q
theorem rd_lst {t : TA} (q : t σ H fun xs H1 => xs.length ≤ sizeLine ∧ ∀ p, H1 p = none → Q (.ref p) (upd H1 p (.lst xs))) : tLst t σ H Q := q
theorem rd_tup {t : TA} (q : t σ H fun xs H1 => xs.length ≤ sizeLine ∧ ∀ p, H1 p = none → Q (.ref p) (upd H1 p (.tup xs))) : tTup t σ H Q := q
theorem rd_ixL {p : Addr} {xs : List V} {i : Int} {v : V} (h : SqL K H p xs) (a : atI xs i = some v) (q : Q v H) : rIxL K (.ref p) (.int i) H Q := ⟨p, xs, i, v, rfl, rfl, h, a, q⟩
theorem rd_setL {p : Addr} {xs : List V} {k : Int} {j : Nat} {v : V} {Q : Hp → Prop} (h : H p = some (.lst xs)) (a : ixN xs.length k = some j) (q : Q (upd H p (.lst (xs.set j v)))) : rSetL (.ref p) (.int k) v H Q := ⟨p, xs, k, j, rfl, rfl, h, a, q⟩
theorem rd_aug {i : Nat} {te : TE} {ti : TIp} {x : V} (h : σ[i]? = some (some x)) (q : te σ H fun y H1 => ti x y H1 fun z H2 => D.nx (σ.set i (some z)) H2) : tAug i te ti D σ H := ⟨x, h, q⟩
theorem rd_ip {f : Int → Int → Int} {i j : Int} (q : Q (.int (f i j)) H) : ipI f (.int i) (.int j) H Q := ⟨i, j, rfl, rfl, q⟩
theorem rd_chain {r r' : R2} {ta tb tc : TE} (q : ta σ H fun x H1 => tb σ H1 fun y H2 => r x y H2 fun z H3 => ∃ k, z = .bl k ∧ (if k = true then tc σ H3 fun w' H4 => r' y w' H4 Q else Q (.bl false) H3)) : tChain r r' ta tb tc σ H Q := q
theorem rd_sl {r : V → Option Int → Option Int → Hp → VK → Prop} {te : TE} {tl th : TO} (q : te σ H fun x H1 => tl σ H1 fun l H2 => th σ H2 fun u H3 => r x l u H3 Q) : tSl r te tl th σ H Q := q
theorem rd_nopart {Q : Option Int → Hp → Prop} (q : Q none H) : tNoPart σ H Q := q
theorem rd_part {t : TE} {Q : Option Int → Hp → Prop} (q : t σ H fun x H1 => ∃ i, x = .int i ∧ Q (some i) H1) : tPart t σ H Q := q
theorem rd_exI {k : Int} {P : Int → Prop} (q : P k) : ∃ k', V.int k = .int k' ∧ P k' := ⟨k, rfl, q⟩
theorem rd_slL {a : Addr} {xs : List V} {lo hi : Option Int} (h : SqL K H a xs) (q : ∀ p, H p = none → Q (.ref p) (upd H p (.lst (cutV xs lo hi)))) : rSlL K (.ref a) lo hi H Q := ⟨a, xs, rfl, h, q⟩
theorem rd_iList {tl : TE} {R : It → Hp → Prop} (q : tl σ H fun x H1 => ∃ a, x = .ref a ∧ (∃ xs, SqL K H1 a xs) ∧ R (Itl K a) H1) : iList K tl σ H R := q
theorem rd_iRng1 {ta : TA} {R : It → Hp → Prop} (q : ta σ H fun vs H1 => ∃ j : Int, vs = [.int j] ∧ -(2 ^ 62) ≤ j ∧ j < 2 ^ 62 ∧ R (Itr 0 j.toNat) H1) : iRng1 ta σ H R := q
theorem rd_exR {j : Int} {P : Int → Prop} (h1 : -(2 ^ 62) ≤ j) (h2 : j < 2 ^ 62) (q : P j) : ∃ j' : Int, [V.int j] = [.int j'] ∧ -(2 ^ 62) ≤ j' ∧ j' < 2 ^ 62 ∧ P j' := ⟨j, rfl, h1, h2, q⟩
theorem rd_for {wi : TI} {g : TG} {tb : TS} (q : wi σ H fun J H1 => ∃ W : Nat → Nat → St → Hp → Prop, (∃ m, W 0 m σ H1) ∧ ∀ i m σ H, W i m σ H →
  (J.stop i H ∧ D.nx σ H) ∨ (J.go i H ∧ ∃ N : St → Hp → Prop, (∀ σ' H', N σ' H' → ∃ m', m' < m ∧ W (i + 1) m' σ' H') ∧ ∀ x H', J.yld i H x H' → g x σ H' fun σ2 H2 => tb { D with nx := N, ct := N, bk := D.nx } σ2 H2)) : tFor wi g tb D σ H := q
theorem rd_tyL {l : Addr} {xs : List V} {T : String} (hT : T = "list") (h : SqL K H l xs) : tyV K T (.ref l) H := .inl ⟨hT, _, h⟩
theorem rd_bm {T : String} {r : V → List V → Hp → VK → Prop} {to : TE} {t : TA} (q : to σ H fun x H1 => tyV K T x H1 ∧ t σ H1 fun xs H2 => r x xs H2 Q) : tBM K T r to t σ H Q := q
theorem rd_bm0 {T : String} {r : V → List V → Hp → VK → Prop} {to : TE} (q : to σ H fun x H1 => tyV K T x H1 ∧ r x [] H1 Q) : tBM0 K T r to σ H Q := q
theorem rd_rep {l : Addr} {k : Int} {xs : List V} (h : H l = some (.lst xs)) (h1 : -(2 ^ 63) ≤ k) (h2 : k < 2 ^ 63) (h3 : xs.length * k.toNat ≤ sizeLine) (q : ∀ p, H p = none → Q (.ref p) (upd H p (.lst (List.replicate k.toNat xs).flatten))) : rRep (.ref l) (.int k) H Q := ⟨l, k, xs, rfl, rfl, h, h1, h2, h3, q⟩
theorem rd_cat {l b : Addr} {xs zs : List V} (h : H l = some (.lst xs)) (h1 : H b = some (.lst zs)) (h3 : xs.length + zs.length ≤ sizeLine) (q : ∀ p, H p = none → Q (.ref p) (upd H p (.lst (xs ++ zs)))) : rCat (.ref l) (.ref b) H Q := ⟨l, b, xs, zs, rfl, rfl, h, h1, h3, q⟩
theorem rd_join {t : TS} (M : St → Hp → Prop) (h : t { D with nx := M } σ H) (q : ∀ σ' H', M σ' H' → D.nx σ' H') : tJ t D σ H := ⟨M, h, q⟩
theorem rd_in {x : V} {p : Addr} {xs : List V} (h : SqL K H p xs) (fx : flatV x = true) (fs : xs.all flatV = true) (q : Q (.bl (inV x xs)) H) : rIn K false x (.ref p) H Q := ⟨p, xs, rfl, .inl h, fx, fs, q⟩
theorem rd_notIn {x : V} {p : Addr} {xs : List V} (h : SqL K H p xs) (fx : flatV x = true) (fs : xs.all flatV = true) (q : Q (.bl (!inV x xs)) H) : rIn K true x (.ref p) H Q := ⟨p, xs, rfl, .inl h, fx, fs, q⟩
theorem rd_comp {own : Nat} {fr : List Nat} {wi : TI} {g : TG} {tt : TT} {te : TE} (q : wi σ H fun J H1 => ∀ l, H1 l = none →
  ∃ W : Nat → Nat → List V → St → Hp → Prop, (∃ m, W 0 m [] (blkσ own fr σ) (upd H1 l (.lst []))) ∧ ∀ i m ys σ H, W i m ys σ H →
    (J.stop i H ∧ Q (.ref l) H) ∨ (J.go i H ∧ ∀ x H', J.yld i H x H' → g x σ H' fun σ2 H2 => tt σ2 H2 fun b H3 =>
      if b = true then te σ2 H3 fun v H4 => H4 l = some (.lst ys) ∧ ys.length < sizeLine ∧ ∃ m', m' < m ∧ W (i + 1) m' (ys ++ [v]) σ2 (upd H4 l (.lst (ys ++ [v])))
      else ∃ m', m' < m ∧ W (i + 1) m' ys σ2 H3)) : tComp own fr wi g tt te σ H Q := q
theorem rd_iZip {ta : TA} {R : It → Hp → Prop} (q : ta σ H fun vs H1 => ∃ a b xs ys, vs = [.ref a, .ref b] ∧ SqL K H1 a xs ∧ SqL K H1 b ys ∧ R (Itz K a b) H1) : iZip K ta σ H R := q
theorem rd_dput {td ty tv : TE} (q : tv σ H fun v H1 => td σ H1 fun x H2 => ty σ H2 fun y H3 => ∃ a H4, x = .ref a ∧ DPut H3 a y v H4 ∧ D.nx σ H4) : sDPut td ty tv D σ H := q
end
end L2

local macro_rules | `(tactic| tm_at "rd1") => `(tactic| first
  | ((with_reducible refine L2.rd_seq ?_))
  | ((with_reducible refine L2.rd_var (v := ?v) ?h ?q); (case h => rfl))
  | ((with_reducible refine L2.rd_c ?_))
  | ((with_reducible refine L2.rd_asg ?_))
  | ((with_reducible refine L2.rd_gname ?_))
  | ((with_reducible refine L2.rd_op ?_))
  | ((with_reducible refine L2.rd_i0 ?_))
  | ((with_reducible refine L2.rd_cons ?_))
  | ((with_reducible refine L2.rd_nil ?_))
  | ((with_reducible refine L2.rd_call ?_))
  | ((with_reducible refine L2.rd_cb ?_))
  | ((with_reducible refine L2.rd_if ?_))
  | ((with_reducible refine L2.rd_test ?_))
  | ((with_reducible refine L2.rd_tB ?_))
  | ((with_reducible refine L2.rd_ex ?_))
  | ((with_reducible refine L2.rd_eqI ?_))
  | ((with_reducible refine L2.rd_neI ?_))
  | ((with_reducible refine L2.rd_eqB ?_))
  | ((with_reducible refine L2.rd_neB ?_))
  | ((with_reducible refine L2.rd_un ?_))
  | ((with_reducible refine L2.rd_u ?_))
  | ((with_reducible refine L2.rd_ret ?_))
  | ((with_reducible refine L2.rd_retN ?_))
  | ((with_reducible refine L2.rd_drop ?_))
  | ((with_reducible refine L2.rd_next ?_))
  | ((with_reducible refine L2.rd_gsub ?_))
  | ((with_reducible refine L2.rd_gcons ?_))
  | ((with_reducible refine L2.rd_gnil ?_))
  | ((with_reducible refine L2.rd_andV ?_))
  | ((with_reducible refine L2.rd_orV ?_))
  | ((with_reducible refine L2.rd_notV ?_))
  | ((with_reducible refine L2.rd_and ?_))
  | ((with_reducible refine L2.rd_or ?_))
  | ((with_reducible refine L2.rd_not ?_))
  | ((with_reducible refine L2.rd_tIf ?_))
  | ((with_reducible refine L2.rd_lst ?_))
  | ((with_reducible refine L2.rd_tup ?_))
  | ((with_reducible refine L2.rd_chain ?_))
  | ((with_reducible refine L2.rd_sl ?_))
  | ((with_reducible refine L2.rd_nopart ?_))
  | ((with_reducible refine L2.rd_part ?_))
  | ((with_reducible refine L2.rd_exI ?_))
  | ((with_reducible refine L2.rd_iList ?_))
  | ((with_reducible refine L2.rd_iRng1 ?_))
  | ((with_reducible refine L2.rd_for ?_))
  | ((with_reducible refine L2.rd_bm ?_))
  | ((with_reducible refine L2.rd_bm0 ?_))
  | ((with_reducible refine L2.rd_ip ?_))
  | ((with_reducible refine L2.rd_aug (x := ?v) ?h ?q); (case h => rfl))
  | ((with_reducible refine L2.rd_nn ?_))
  | ((with_reducible refine L2.rd_iTup ?_))
  | ((with_reducible refine L2.rd_dni ?_))
  | ((with_reducible refine L2.rd_din ?_))
  | ((with_reducible refine L2.rd_dput ?_))
  | ((with_reducible refine L2.rd_dget ?_))
  | ((with_reducible refine L2.rd_comp ?_))
  | ((with_reducible refine L2.rd_yes ?_))
  | ((with_reducible refine L2.rd_iEnum ?_))
  | ((with_reducible refine L2.rd_iZip ?_))
  | ((with_reducible refine L2.rd_maxD ?_))
  | ((with_reducible refine L2.rd_i ?_ ?_); (· (first | assumption | exact ⟨by decide, by decide⟩ | exact ⟨by decide, by decide, by decide⟩ | exact Or.inl ⟨by decide, by decide⟩ | exact Or.inr ⟨by decide, by decide⟩ | (show (0 : Int) < _; first | decide | omega)))))
local macro_rules | `(tactic| tm_at "rd") => `(tactic| repeat tm_at "rd1")

/-! The mathematics of seats on a ring: no program in it. -/
set_option linter.all false
namespace Ring
/-- how far one goes on from a to p on a ring of n -/
def dist (n a p : Nat) : Nat := if a ≤ p then p - a else p + n - a
def nxt (n p : Nat) : Nat := if p + 1 < n then p + 1 else 0
def prv (n p : Nat) : Nat := if p = 0 then n - 1 else p - 1
def back (n p j : Nat) : Nat := if j ≤ p then p - j else p + n - j
abbrev Seats := List (Option Int)
/-- who sits on seat p -/
def sat (s : Seats) (p : Nat) : Option Int := s.getD p none
/-- x goes ahead of y at p; h: the homes -/
def Ahead (n : Nat) (h : Int → Nat) (x y : Int) (p : Nat) : Prop :=
  dist n (h y) p < dist n (h x) p ∨ (dist n (h x) p = dist n (h y) p ∧ x < y)
instance (n : Nat) (h : Int → Nat) (x y : Int) (p : Nat) : Decidable (Ahead n h x y p) := by unfold Ahead; infer_instance

section
variable {n : Nat} {h : Int → Nat} {x y z : Int} {p q e j i : Nat} {a b : Nat}
theorem dist_lt (ha : a < n) (hp : p < n) : dist n a p < n := by unfold dist; split <;> omega
theorem dist_self : dist n a a = 0 := by unfold dist; rw [if_pos (Nat.le_refl _)]; omega
theorem dist_zero (ha : a < n) (hp : p < n) (e : dist n a p = 0) : a = p := by unfold dist at e; split at e <;> omega
theorem dist_inj (ha : a < n) (hp : p < n) (hq : q < n) (e : dist n a p = dist n a q) : p = q := by
  unfold dist at e; split at e <;> split at e <;> omega
theorem nxt_lt (hp : p < n) : nxt n p < n := by unfold nxt; split <;> omega
theorem prv_lt (hp : p < n) : prv n p < n := by unfold prv; split <;> omega
theorem prv_nxt (hp : p < n) : prv n (nxt n p) = p := by unfold prv nxt; split <;> split <;> omega
theorem nxt_prv (hp : p < n) : nxt n (prv n p) = p := by unfold prv nxt; split <;> split <;> omega
/-- on from p, not yet at the home -/
theorem dist_nxt (ha : a < n) (hp : p < n) (hne : nxt n p ≠ a) : dist n a (nxt n p) = dist n a p + 1 := by
  unfold dist nxt at *; split at hne <;> (repeat' split) <;> omega
theorem dist_nxt' (ha : a < n) (hp : p < n) (hl : dist n a p + 1 < n) : dist n a (nxt n p) = dist n a p + 1 := by
  apply dist_nxt ha hp
  intro e
  unfold dist at hl; unfold nxt at e
  split at e <;> split at hl <;> omega
theorem dist_prv (ha : a < n) (hp : p < n) (hne : p ≠ a) : dist n a p = dist n a (prv n p) + 1 := by
  unfold dist prv; split <;> split <;> split <;> omega
theorem dist_to_nxt (hp : p < n) (he : e < n) (hne : p ≠ e) : dist n p e = dist n (nxt n p) e + 1 := by
  unfold dist nxt; split <;> split <;> split <;> omega
theorem back_one (hp : p < n) : back n p 1 = prv n p := by unfold back prv; split <;> split <;> omega
theorem back_back (hp : p < n) (hi : i + j < n) : back n (back n p j) i = back n p (j + i) := by
  unfold back; split <;> split <;> split <;> omega
theorem back_dist (ha : a < n) (hp : p < n) : back n p (dist n a p) = a := by
  unfold back dist; split <;> split <;> omega
theorem dist_back (ha : a < n) (hp : p < n) (hj : j ≤ dist n a p) : dist n a (back n p j) = dist n a p - j := by
  unfold back dist at *; split at hj <;> split <;> split <;> omega
/-- a seat on the way from a to p: q lies back from p -/
theorem back_of (ha : a < n) (hp : p < n) (hq : q < n) (hl : dist n a q ≤ dist n a p) : back n p (dist n a p - dist n a q) = q := by
  unfold back dist at *; split at hl <;> split at hl <;> (repeat' split) <;> omega
theorem ahead_irrefl : ¬ Ahead n h x x p := by unfold Ahead; omega
theorem ahead_asymm (u : Ahead n h x y p) : ¬ Ahead n h y x p := by unfold Ahead at *; omega
theorem ahead_trans (u : Ahead n h x y p) (v : Ahead n h y z p) : Ahead n h x z p := by unfold Ahead at *; omega
theorem ahead_total (d : x ≠ y) : Ahead n h x y p ∨ Ahead n h y x p := by unfold Ahead; omega
theorem ahead_ne (u : Ahead n h x y p) : x ≠ y := by rintro rfl; exact ahead_irrefl u
theorem ahead_le (u : Ahead n h x y p) : dist n (h y) p ≤ dist n (h x) p := by unfold Ahead at u; omega
variable (hh : ∀ g, h g < n)
include hh
/-- who goes ahead at p goes ahead on every seat that both passed -/
theorem ahead_back (hp : p < n) (u : Ahead n h x y p) (hj : j ≤ dist n (h y) p) : Ahead n h x y (back n p j) := by
  have := ahead_le u
  unfold Ahead at *
  rw [dist_back (hh x) hp (by omega), dist_back (hh y) hp hj]
  omega
end

/-! ### settled: by the seat before alone, and by all seats on the way -/
def Loc (n : Nat) (h : Int → Nat) (f : Nat → Option Int) : Prop :=
  ∀ p g, p < n → f p = some g → h g ≠ p → ∃ g', f (prv n p) = some g' ∧ Ahead n h g' g (prv n p)
def Glo (n : Nat) (h : Int → Nat) (f : Nat → Option Int) : Prop :=
  ∀ p g, p < n → f p = some g → ∀ j, 1 ≤ j → j ≤ dist n (h g) p → ∃ g', f (back n p j) = some g' ∧ Ahead n h g' g (back n p j)
theorem glo_of_loc {n : Nat} {h : Int → Nat} {f : Nat → Option Int} (hh : ∀ g, h g < n) (L : Loc n h f) : Glo n h f := by
  have all : ∀ j p g, p < n → f p = some g → j + 1 ≤ dist n (h g) p → ∃ g', f (back n p (j + 1)) = some g' ∧ Ahead n h g' g (back n p (j + 1)) := by
    intro j
    induction j with
    | zero =>
      intro p g hp hg hd
      rw [show (0 + 1) = 1 from rfl, back_one hp]
      refine L p g hp hg fun e => ?_
      rw [e, dist_self] at hd; omega
    | succ j ih =>
      intro p g hp hg hd
      have hne : h g ≠ p := fun e => by rw [e, dist_self] at hd; omega
      obtain ⟨g1, h1, a1⟩ := L p g hp hg hne
      have hq := prv_lt hp
      have d1 := dist_prv (hh g) hp (Ne.symm hne)
      have le1 := ahead_le a1
      obtain ⟨g2, h2, a2⟩ := ih (prv n p) g1 hq h1 (by omega)
      have lt1 := dist_lt (hh g1) hq
      have eb : back n (prv n p) (j + 1) = back n p (j + 1 + 1) := by
        rw [← back_one hp, back_back hp (by have := dist_lt (hh g) hp; omega)]
        congr 1; omega
      rw [eb] at h2 a2
      refine ⟨g2, h2, ahead_trans a2 ?_⟩
      rw [← eb]
      exact ahead_back hh hq a1 (by omega)
  intro p g hp hg j h1 hj
  obtain ⟨i, rfl⟩ : ∃ i, j = i + 1 := ⟨j - 1, by omega⟩
  exact all i p g hp hg hj
/-! ### one settled seating of the same guests -/
section
variable {n : Nat} {h : Int → Nat} {A B : Nat → Option Int}
theorem chain (hh : ∀ g, h g < n) (GA : Glo n h A) (GB : Glo n h B) (sub : ∀ q g, q < n → B q = some g → ∃ p, p < n ∧ A p = some g) :
    ∀ (i p : Nat) (a b : Int), p < n → A p = some a → B p = some b → Ahead n h b a p → 1 ≤ i → i < n → B (back n p i) ≠ none := by
  intro i
  induction i using Nat.strongRecOn with
  | ind i ih =>
    intro p a b hp ha hb u h1 hi
    obtain ⟨q, hq, hqb⟩ := sub p b hp hb
    have hne : q ≠ p := by
      rintro rfl
      rw [ha] at hqb
      exact ahead_ne u (Option.some.inj hqb).symm
    have hd : dist n (h b) q < dist n (h b) p := by
      rcases Nat.lt_trichotomy (dist n (h b) q) (dist n (h b) p) with l | l | l
      · exact l
      · exact absurd (dist_inj (hh b) hq hp l) hne
      · obtain ⟨g', hg', u'⟩ := GA q b hq hqb (dist n (h b) q - dist n (h b) p) (by omega) (by omega)
        rw [back_of (hh b) hq hp (by omega)] at hg' u'
        rw [ha] at hg'
        cases hg'
        exact absurd u' (ahead_asymm u)
    by_cases hij : i ≤ dist n (h b) p - dist n (h b) q
    · obtain ⟨g', hg', _⟩ := GB p b hp hb i h1 (by omega)
      rw [hg']; simp
    · obtain ⟨b', hb', u'⟩ := GB p b hp hb (dist n (h b) p - dist n (h b) q) (by omega) (by omega)
      have eq := back_of (hh b) hp hq (by omega)
      rw [eq] at hb' u'
      have r := ih (i - (dist n (h b) p - dist n (h b) q)) (by omega) q b b' hq hqb hb' u' (by omega) (by omega)
      generalize hd' : dist n (h b) p - dist n (h b) q = d at *
      subst eq
      rw [back_back hp (by omega), show d + (i - d) = i by omega] at r
      exact r
theorem no_chain (hh : ∀ g, h g < n) (GA : Glo n h A) (GB : Glo n h B) (sub : ∀ q g, q < n → B q = some g → ∃ p, p < n ∧ A p = some g)
    (em : ∃ e, e < n ∧ B e = none) {p : Nat} {a b : Int} (hp : p < n) (ha : A p = some a) (hb : B p = some b) : ¬ Ahead n h b a p := by
  intro u
  obtain ⟨e, he, hn⟩ := em
  have hne : p ≠ e := by rintro rfl; rw [hb] at hn; cases hn
  have := chain hh GA GB sub (dist n e p) p a b hp ha hb u
    (by rcases Nat.eq_zero_or_pos (dist n e p) with z | z
        · exact absurd (dist_zero he hp z).symm hne
        · exact z) (dist_lt he hp)
  rw [back_dist he hp] at this
  exact this hn
theorem half (hh : ∀ g, h g < n) (GA : Glo n h A) (GB : Glo n h B) (sab : ∀ q g, q < n → A q = some g → ∃ p, p < n ∧ B p = some g) (sba : ∀ q g, q < n → B q = some g → ∃ p, p < n ∧ A p = some g)
    (ea : ∃ e, e < n ∧ A e = none) (eb : ∃ e, e < n ∧ B e = none) {p : Nat} {g : Int} (hp : p < n) (hg : A p = some g) : B p = some g := by
  obtain ⟨q, hq, hqg⟩ := sab p g hp hg
  rcases Nat.lt_trichotomy (dist n (h g) p) (dist n (h g) q) with l | l | l
  · obtain ⟨b, hb, u⟩ := GB q g hq hqg (dist n (h g) q - dist n (h g) p) (by omega) (by omega)
    rw [back_of (hh g) hq hp (by omega)] at hb u
    exact absurd u (no_chain hh GA GB sba eb hp hg hb)
  · have := dist_inj (hh g) hp hq l
    rw [this]; exact hqg
  · obtain ⟨a, ha, u⟩ := GA p g hp hg (dist n (h g) p - dist n (h g) q) (by omega) (by omega)
    rw [back_of (hh g) hp hq (by omega)] at ha u
    exact absurd u (no_chain hh GB GA sab ea hq hqg ha)
/-- THE one settled seating -/
theorem unique (hh : ∀ g, h g < n) (LA : Loc n h A) (LB : Loc n h B) (same : ∀ g, (∃ p, p < n ∧ A p = some g) ↔ (∃ p, p < n ∧ B p = some g))
    (ea : ∃ e, e < n ∧ A e = none) (eb : ∃ e, e < n ∧ B e = none) {p : Nat} (hp : p < n) : A p = B p := by
  have GA := glo_of_loc hh LA
  have GB := glo_of_loc hh LB
  have sab : ∀ q g, q < n → A q = some g → ∃ p, p < n ∧ B p = some g := fun q g hq hg => (same g).mp ⟨q, hq, hg⟩
  have sba : ∀ q g, q < n → B q = some g → ∃ p, p < n ∧ A p = some g := fun q g hq hg => (same g).mpr ⟨q, hq, hg⟩
  cases ha : A p with
  | some g => exact (half hh GA GB sab sba ea eb hp ha).symm
  | none =>
    cases hb : B p with
    | none => rfl
    | some g =>
      have := half hh GB GA sba sab eb ea hp hb
      rw [ha] at this; cases this
/-- in a settled seating nobody sits twice -/
theorem once (hh : ∀ g, h g < n) (L : Loc n h A) {p q : Nat} {g : Int} (hp : p < n) (hq : q < n) (h1 : A p = some g) (h2 : A q = some g) : p = q := by
  have G := glo_of_loc hh L
  rcases Nat.lt_trichotomy (dist n (h g) p) (dist n (h g) q) with l | l | l
  · obtain ⟨b, hb, u⟩ := G q g hq h2 (dist n (h g) q - dist n (h g) p) (by omega) (by omega)
    rw [back_of (hh g) hq hp (by omega), h1] at hb
    cases hb
    exact absurd u ahead_irrefl
  · exact dist_inj (hh g) hp hq l
  · obtain ⟨b, hb, u⟩ := G p g hp h1 (dist n (h g) p - dist n (h g) q) (by omega) (by omega)
    rw [back_of (hh g) hp hq (by omega), h2] at hb
    cases hb
    exact absurd u ahead_irrefl
end

/-! ### lists of seats -/
def who (s : Seats) : List Int := s.filterMap id
theorem fm_some (g : Int) (r : Seats) : List.filterMap id (some g :: r) = g :: List.filterMap id r := rfl
theorem fm_none (r : Seats) : List.filterMap id (none :: r) = List.filterMap id r := rfl
section
variable {n : Nat} {h : Int → Nat} {s : Seats} {p q : Nat} {v : Option Int} {x y : Int}
theorem sat_set (hp : p < s.length) : sat (s.set p v) q = if q = p then v else sat s q := by
  unfold sat
  by_cases e : q = p
  · subst e
    rw [if_pos rfl]
    simp [List.getD, hp]
  · rw [if_neg e]
    simp [List.getD, List.getElem?_set_ne (Ne.symm e)]
theorem sat_same (hp : p < s.length) : sat (s.set p v) p = v := by rw [sat_set hp, if_pos rfl]
theorem sat_ne (hp : p < s.length) (e : q ≠ p) : sat (s.set p v) q = sat s q := by rw [sat_set hp, if_neg e]
theorem sat_get (hp : p < s.length) : s[p]? = some (sat s p) := by
  unfold sat; simp [List.getD, hp]
theorem sat_get' (hp : p < s.length) : s[p] = sat s p := by
  unfold sat; simp [List.getD, hp]
theorem cut_at (hp : p < s.length) : s = s.take p ++ sat s p :: s.drop (p + 1) := by
  rw [← sat_get' hp, List.getElem_cons_drop, List.take_append_drop]
theorem cut_set (hp : p < s.length) : s.set p v = s.take p ++ v :: s.drop (p + 1) := List.set_eq_take_append_cons_drop ▸ by rw [if_pos hp]
theorem who_none (hp : p < s.length) (e : sat s p = none) : List.Perm (who (s.set p (some x))) (x :: who s) := by
  have e1 : who s = who (s.take p) ++ who (s.drop (p + 1)) := by
    conv => lhs; rw [cut_at hp, e]
    unfold who; rw [List.filterMap_append, fm_none]
  have e2 : who (s.set p (some x)) = who (s.take p) ++ x :: who (s.drop (p + 1)) := by
    rw [cut_set hp]
    unfold who; rw [List.filterMap_append, fm_some]
  rw [e1, e2]
  exact List.perm_middle
theorem who_some (hp : p < s.length) (e : sat s p = some y) : ∃ r, List.Perm (who s) (y :: r) ∧ List.Perm (who (s.set p (some x))) (x :: r) ∧ who (s.set p none) = r := by
  refine ⟨who (s.take p) ++ who (s.drop (p + 1)), ?_, ?_, ?_⟩
  · have : who s = who (s.take p) ++ y :: who (s.drop (p + 1)) := by
      conv => lhs; rw [cut_at hp, e]
      unfold who; rw [List.filterMap_append, fm_some]
    rw [this]; exact List.perm_middle
  · have : who (s.set p (some x)) = who (s.take p) ++ x :: who (s.drop (p + 1)) := by
      rw [cut_set hp]
      unfold who; rw [List.filterMap_append, fm_some]
    rw [this]; exact List.perm_middle
  · rw [cut_set hp]
    unfold who; rw [List.filterMap_append, fm_none]
theorem mem_who {g : Int} : g ∈ who s ↔ ∃ p, p < s.length ∧ sat s p = some g := by
  unfold who
  rw [List.mem_filterMap]
  constructor
  · rintro ⟨o, ho, e⟩
    obtain ⟨i, hi, rfl⟩ := List.getElem_of_mem ho
    exact ⟨i, hi, by rw [← sat_get' hi]; exact e⟩
  · rintro ⟨p, hp, e⟩
    refine ⟨s[p], List.getElem_mem hp, ?_⟩
    rw [sat_get' hp, e]; rfl
theorem sat_rep {m : Nat} : sat (List.replicate m none) p = none := by
  unfold sat
  rw [List.getD]
  cases e : (List.replicate m (none : Option Int))[p]? with
  | none => rfl
  | some u =>
    have := List.getElem?_replicate (n := m) (a := (none : Option Int)) (i := p)
    rw [e] at this
    split at this
    · cases this; rfl
    · cases this
theorem who_rep {m : Nat} : who (List.replicate m none) = [] := by
  unfold who
  induction m with
  | zero => rfl
  | succ m ih => rw [List.replicate_succ, fm_none, ih]
theorem loc_rep {m : Nat} : Loc n h (sat (List.replicate m none)) := by
  intro p g hp hg
  rw [sat_rep] at hg; cases hg
/-- as many guests as filled seats -/
theorem who_len (s : Seats) : (who s).length + s.count none = s.length := by
  unfold who
  induction s with
  | nil => rfl
  | cons o r ih =>
    cases o with
    | none => rw [fm_none, List.count_cons_self, List.length_cons]; omega
    | some g => rw [fm_some, List.count_cons_of_ne (by simp), List.length_cons, List.length_cons]; omega
theorem empty_of (hl : (who s).length < s.length) : ∃ e, e < s.length ∧ sat s e = none := by
  have := who_len s
  have hc : 0 < s.count none := by omega
  have hm : none ∈ s := List.count_pos_iff.mp hc
  obtain ⟨i, hi, e⟩ := List.getElem_of_mem hm
  exact ⟨i, hi, by rw [← sat_get' hi]; exact e⟩
theorem ext_sat {s t : Seats} (hl : s.length = t.length) (e : ∀ p, p < s.length → sat s p = sat t p) : s = t := by
  apply List.ext_getElem hl
  intro i h1 h2
  rw [sat_get' h1, sat_get' h2]
  exact e i h1
end

/-! ### a guest comes: who goes ahead keeps the seat -/
def put (n : Nat) (h : Int → Nat) : Nat → Seats → Int → Nat → Seats
  | 0, s, _, _ => s
  | k + 1, s, x, p =>
    match sat s p with
    | none => s.set p (some x)
    | some y => if Ahead n h x y p then put n h k (s.set p (some x)) y (nxt n p) else put n h k s x (nxt n p)
/-- x comes to p: it is at home, or the one on the seat before goes ahead of it there -/
def Arr (n : Nat) (h : Int → Nat) (s : Seats) (x : Int) (p : Nat) : Prop := h x = p ∨ ∃ g', sat s (prv n p) = some g' ∧ Ahead n h g' x (prv n p)
section
variable {n : Nat} {h : Int → Nat}
theorem prv_ne {p : Nat} (h2 : 2 ≤ n) (hp : p < n) : prv n p ≠ p := by unfold prv; split <;> omega
theorem loc_put (h2 : 2 ≤ n) {s : Seats} {x : Int} {p : Nat} (hl : s.length = n) (L : Loc n h (sat s)) (hp : p < n) (ar : Arr n h s x p)
    (ok : ∀ y, sat s p = some y → Ahead n h x y p) : Loc n h (sat (s.set p (some x))) := by
  intro q g hq hg hne
  have hps : p < s.length := by omega
  by_cases e : q = p
  · subst e
    rw [sat_same hps] at hg
    cases hg
    rcases ar with z | ⟨g', e', u⟩
    · exact absurd z hne
    · exact ⟨g', by rw [sat_ne hps (prv_ne h2 hq)]; exact e', u⟩
  · rw [sat_ne hps e] at hg
    obtain ⟨g', e', u⟩ := L q g hq hg hne
    by_cases e2 : prv n q = p
    · rw [e2] at e' u ⊢
      exact ⟨x, sat_same hps, ahead_trans (ok g' e') u⟩
    · exact ⟨g', by rw [sat_ne hps e2]; exact e', u⟩
theorem put_ok (h2 : 2 ≤ n) (hh : ∀ g, h g < n) : ∀ (k : Nat) (s : Seats) (x : Int) (p e : Nat), s.length = n → Loc n h (sat s) → x ∉ who s → (who s).Nodup → p < n → e < n → sat s e = none →
    dist n (h x) p + dist n p e < n → Arr n h s x p → dist n p e < k →
    (put n h k s x p).length = n ∧ Loc n h (sat (put n h k s x p)) ∧ List.Perm (who (put n h k s x p)) (x :: who s) := by
  intro k
  induction k with
  | zero => intro s x p e _ _ _ _ _ _ _ _ _ hk; omega
  | succ k ih =>
    intro s x p e hl L hx nd hp he hn hd ar hk
    have hps : p < s.length := by omega
    unfold put
    cases hy : sat s p with
    | none =>
      exact ⟨by simpa using hl, loc_put h2 hl L hp ar (fun y z => by rw [hy] at z; cases z), who_none hps hy⟩
    | some y =>
      dsimp only
      have hpe : p ≠ e := by rintro rfl; rw [hy] at hn; cases hn
      have d1 := dist_to_nxt hp he hpe
      have hyx : x ≠ y := by
        rintro rfl
        exact hx (mem_who.mpr ⟨p, hps, hy⟩)
      by_cases u : Ahead n h x y p
      · rw [if_pos u]
        obtain ⟨r, r1, r2, _⟩ := who_some (x := x) hps hy
        have nd1 : (y :: r).Nodup := r1.nodup_iff.mp nd
        have hxr : x ∉ r := fun z => hx (r1.symm.subset (List.mem_cons_of_mem _ z))
        have hle := ahead_le u
        have := ih (s.set p (some x)) y (nxt n p) e (by simpa using hl) (loc_put h2 hl L hp ar (fun y' z => by rw [hy] at z; cases z; exact u))
          (fun z => by
            rcases List.mem_cons.mp (r2.subset z) with e | e
            · exact hyx e.symm
            · exact (List.nodup_cons.mp nd1).1 e)
          (r2.nodup_iff.mpr (List.nodup_cons.mpr ⟨hxr, (List.nodup_cons.mp nd1).2⟩))
          (nxt_lt hp) he (by rw [sat_ne hps (Ne.symm hpe)]; exact hn)
          (by rw [dist_nxt' (hh y) hp (by omega)]; omega)
          (.inr ⟨x, by rw [prv_nxt hp]; exact sat_same hps, by rw [prv_nxt hp]; exact u⟩) (by omega)
        refine ⟨this.1, this.2.1, this.2.2.trans ?_⟩
        exact ((List.Perm.cons y r2).trans (List.Perm.swap x y r)).trans (List.Perm.cons x r1.symm)
      · rw [if_neg u]
        have u' : Ahead n h y x p := (ahead_total hyx).resolve_left u
        exact ih s x (nxt n p) e hl L hx nd (nxt_lt hp) he hn (by rw [dist_nxt' (hh x) hp (by omega)]; omega)
          (.inr ⟨y, by rw [prv_nxt hp]; exact hy, by rw [prv_nxt hp]; exact u'⟩) (by omega)
/-- a settled seating on n seats of just these guests -/
structure Settled (n : Nat) (h : Int → Nat) (s : Seats) : Prop where
  len : s.length = n
  loc : Loc n h (sat s)
  emp : (who s).length < n
theorem Settled.nodup (hh : ∀ g, h g < n) {s : Seats} (S : Settled n h s) : (who s).Nodup := by
  have inj : ∀ p q g, p < s.length → q < s.length → sat s p = some g → sat s q = some g → p = q := fun p q g hp hq a b =>
    once hh S.loc (by have := S.len; omega) (by have := S.len; omega) a b
  clear S
  induction s with
  | nil => exact List.nodup_nil
  | cons o r ih =>
    have tl := ih fun p q g hp hq a b => by
      have := inj (p + 1) (q + 1) g (by simpa using hp) (by simpa using hq) (by simpa [sat] using a) (by simpa [sat] using b)
      omega
    cases o with
    | none => unfold who; rw [fm_none]; exact tl
    | some g =>
      unfold who; rw [fm_some]
      refine List.nodup_cons.mpr ⟨fun m => ?_, tl⟩
      obtain ⟨p, hp, e⟩ := mem_who.mp m
      have := inj 0 (p + 1) g (by simp) (by simpa using hp) (by simp [sat]) (by simpa [sat] using e)
      omega
theorem Settled.empty {s : Seats} (S : Settled n h s) : ∃ e, e < n ∧ sat s e = none := by
  have := empty_of (s := s) (by rw [S.len]; exact S.emp)
  rwa [S.len] at this
theorem Settled.unique (hh : ∀ g, h g < n) {s t : Seats} (S : Settled n h s) (T : Settled n h t) (same : ∀ g, g ∈ who s ↔ g ∈ who t) : s = t := by
  refine ext_sat (by rw [S.len, T.len]) fun p hp => ?_
  rw [S.len] at hp
  refine Ring.unique hh S.loc T.loc (fun g => ?_) S.empty T.empty hp
  have := same g
  rw [mem_who, mem_who, S.len, T.len] at this
  exact this
/-- the guest x comes -/
def comes (n : Nat) (h : Int → Nat) (s : Seats) (x : Int) : Seats := put n h n s x (h x)
theorem comes_ok (h2 : 2 ≤ n) (hh : ∀ g, h g < n) {s : Seats} {x : Int} (S : Settled n h s) (hx : x ∉ who s) :
    (comes n h s x).length = n ∧ Loc n h (sat (comes n h s x)) ∧ List.Perm (who (comes n h s x)) (x :: who s) := by
  obtain ⟨e, he, hn⟩ := S.empty
  have hd := dist_lt (hh x) he
  exact put_ok h2 hh n s x (h x) e S.len S.loc hx (S.nodup hh) (hh x) he hn (by rw [dist_self]; omega) (.inl rfl) hd
theorem comes_settled (h2 : 2 ≤ n) (hh : ∀ g, h g < n) {s : Seats} {x : Int} (S : Settled n h s) (hx : x ∉ who s) (room : (who s).length + 1 < n) : Settled n h (comes n h s x) := by
  obtain ⟨a, b, c⟩ := comes_ok h2 hh S hx
  exact ⟨a, b, by rw [c.length_eq, List.length_cons]; exact room⟩
end
end Ring


set_option linter.all false
namespace Ring
/-! ### strain: sums over the seats -/
def costAt (n : Nat) (h : Int → Nat) (f : Nat → Nat) (o : Option Int) (p : Nat) : Nat := match o with
  | none => 0
  | some g => f (dist n (h g) p)
def cost (n : Nat) (h : Int → Nat) (f : Nat → Nat) (s : Seats) : Nat → Nat
  | 0 => 0
  | k + 1 => cost n h f s k + costAt n h f (sat s k) k
def most (n : Nat) (h : Int → Nat) (s : Seats) : Nat → Nat
  | 0 => 0
  | k + 1 => max (most n h s k) (costAt n h id (sat s k) k)
section
variable {n : Nat} {h : Int → Nat} {f : Nat → Nat} {s t : Seats} {p q k e : Nat} {x y : Int} {v : Option Int}
theorem most_ge (hq : q < k) : costAt n h id (sat s q) q ≤ most n h s k := by
  induction k with
  | zero => omega
  | succ k ih =>
    unfold most
    by_cases e : q = k
    · subst e; omega
    · have := ih (by omega); omega
/-! ### the first empty seat from p on -/
def firstE (n : Nat) : Nat → Seats → Nat → Nat
  | 0, _, p => p
  | k + 1, s, p => if sat s p = none then p else firstE n k s (nxt n p)
/-- as they come: x sits on the first empty seat from its home on -/
def fcome (n : Nat) (h : Int → Nat) (s : Seats) (x : Int) : Seats := s.set (firstE n n s (h x)) (some x)
/-- of two seatings with the same seats filled: one settled by turns, one as they come -/
structure Pair (n : Nat) (h : Int → Nat) (A F : Seats) : Prop where
  la : A.length = n
  lf : F.length = n
  em : ∀ q, sat A q = none ↔ sat F q = none
  tot : cost n h id A n = cost n h id F n
  sq : cost n h (fun c => c * c) A n ≤ cost n h (fun c => c * c) F n
  mx : most n h A n ≤ most n h F n
end
end Ring


set_option linter.all false
namespace Ring
/-! ### the words of the program: rests -/
theorem far_eq {n a p : Nat} (ha : a < n) (hp : p < n) : ((p : Int) - (a : Int)) % (n : Int) = (dist n a p : Int) := by
  unfold dist
  by_cases e : a ≤ p
  · rw [if_pos e, Int.emod_eq_of_lt (by omega) (by omega)]; omega
  · rw [if_neg e]
    have : ((p : Int) - (a : Int)) % (n : Int) = ((p : Int) - (a : Int) + (n : Int)) % (n : Int) := by rw [Int.add_emod_right]
    rw [this, Int.emod_eq_of_lt (by omega) (by omega)]; omega
theorem on_eq {n p : Nat} (hp : p < n) : ((p : Int) + 1) % (n : Int) = (nxt n p : Int) := by
  unfold nxt
  by_cases e : p + 1 < n
  · rw [if_pos e, Int.emod_eq_of_lt (by omega) (by omega)]; omega
  · rw [if_neg e]
    have : p + 1 = n := by omega
    rw [show ((p : Int) + 1) = (n : Int) by omega, Int.emod_self]; rfl
/-- the home of point 3 -/
def mark (g : Int) : Int := (g * 40503 + g / 65536) % 65536
def hm (n : Nat) (g : Int) : Nat := (mark g % (n : Int)).toNat
theorem hm_eq {n : Nat} (hn : 0 < n) (g : Int) : ((hm n g : Nat) : Int) = mark g % (n : Int) := by
  unfold hm
  have := Int.emod_nonneg (mark g) (show (n : Int) ≠ 0 by omega)
  omega
theorem hm_lt {n : Nat} (hn : 0 < n) (g : Int) : hm n g < n := by
  have h1 := hm_eq hn g
  have h2 := Int.emod_lt_of_pos (mark g) (show (0 : Int) < (n : Int) by omega)
  omega
/-! ### a look -/
def look (n : Nat) (h : Int → Nat) : Nat → Seats → Int → Nat → Nat → Nat × Option Nat
  | 0, _, _, _, c => (c, none)
  | k + 1, s, g, p, c => match sat s p with
    | none => (c + 1, none)
    | some y => if y = g then (c + 1, some p) else if Ahead n h y g p then look n h k s g (nxt n p) (c + 1) else (c + 1, none)
section
variable {n : Nat} {h : Int → Nat} {s : Seats} {g : Int}
theorem look_found (hh : ∀ g, h g < n) (G : Glo n h (sat s)) {q : Nat} (hq : q < n) (hs : sat s q = some g) : ∀ (k p c : Nat), p < n → dist n (h g) p + dist n p q = dist n (h g) q → dist n p q < k →
    look n h k s g p c = (c + dist n p q + 1, some q) := by
  intro k
  induction k with
  | zero => intro p c _ _ hk; omega
  | succ k ih =>
    intro p c hp hd hk
    unfold look
    by_cases e : p = q
    · subst e
      rw [hs, dist_self]
      simp
    · have dpq : dist n p q ≠ 0 := fun z => e (dist_zero hp hq z)
      obtain ⟨y, hy, u⟩ := G q g hq hs (dist n (h g) q - dist n (h g) p) (by omega) (by omega)
      rw [back_of (hh g) hq hp (by omega)] at hy u
      rw [hy]
      dsimp only
      rw [if_neg (ahead_ne u), if_pos u]
      have d1 := dist_to_nxt hp hq e
      have lt := dist_lt (hh g) hq
      have d2 : dist n (h g) (nxt n p) = dist n (h g) p + 1 := dist_nxt' (hh g) hp (by omega)
      rw [ih (nxt n p) (c + 1) (nxt_lt hp) (by omega) (by omega)]
      congr 1
      omega
theorem look_absent (hh : ∀ g, h g < n) (ab : ∀ q, q < n → sat s q ≠ some g) {e : Nat} (he : e < n) (hn : sat s e = none) : ∀ (k p c : Nat), p < n → dist n (h g) p = c → c ≤ most n h s n + 1 → dist n (h g) p + dist n p e < n → dist n p e < k →
    (look n h k s g p c).2 = none ∧ (look n h k s g p c).1 ≤ most n h s n + 2 := by
  intro k
  induction k with
  | zero => intro p c _ _ _ _ hk; omega
  | succ k ih =>
    intro p c hp hc hm hd hk
    unfold look
    cases hy : sat s p with
    | none => exact ⟨rfl, by dsimp only; omega⟩
    | some y =>
      dsimp only
      rw [if_neg (fun z => ab p hp (by rw [hy, z]))]
      by_cases u : Ahead n h y g p
      · rw [if_pos u]
        have hpe : p ≠ e := by rintro rfl; rw [hy] at hn; cases hn
        have d1 := dist_to_nxt hp he hpe
        have d2 : dist n (h g) (nxt n p) = dist n (h g) p + 1 := dist_nxt' (hh g) hp (by omega)
        have le := ahead_le u
        have mg := most_ge (n := n) (h := h) (s := s) hp
        rw [hy] at mg
        simp only [costAt, id] at mg
        exact ih (nxt n p) (c + 1) (nxt_lt hp) (by omega) (by omega) (by omega) (by omega)
      · rw [if_neg u]
        exact ⟨rfl, by dsimp only; omega⟩
theorem look_in (hh : ∀ g, h g < n) (S : Settled n h s) {q : Nat} (hq : q < n) (hs : sat s q = some g) : look n h n s g (h g) 0 = (dist n (h g) q + 1, some q) := by
  have := look_found hh (glo_of_loc hh S.loc) hq hs n (h g) 0 (hh g) (by rw [dist_self]; omega) (dist_lt (hh g) hq)
  rw [this]; simp
theorem look_out (hh : ∀ g, h g < n) (S : Settled n h s) (hg : g ∉ who s) : (look n h n s g (h g) 0).2 = none ∧ (look n h n s g (h g) 0).1 ≤ most n h s n + 2 := by
  obtain ⟨e, he, hn⟩ := S.empty
  refine look_absent hh (fun q hq z => hg (mem_who.mpr ⟨q, by rw [S.len]; exact hq, z⟩)) he hn n (h g) 0 (hh g) dist_self (by omega) ?_ (dist_lt (hh g) he)
  rw [dist_self]
  have := dist_lt (hh g) he
  omega
end
end Ring


set_option linter.all false
namespace Ring
/-! ### a guest goes: those behind move up -/
def shift (n : Nat) (h : Int → Nat) : Nat → Seats → Nat → Seats
  | 0, s, _ => s
  | k + 1, s, p => match sat s (nxt n p) with
    | none => s.set p none
    | some y => if h y = nxt n p then s.set p none else shift n h k (s.set p (some y)) (nxt n p)
section
variable {n : Nat} {h : Int → Nat}
theorem nxt_ne {p : Nat} (h2 : 2 ≤ n) (hp : p < n) : nxt n p ≠ p := by unfold nxt; split <;> omega
theorem shift_ok (h2 : 2 ≤ n) (hh : ∀ g, h g < n) : ∀ (k : Nat) (s : Seats) (p e : Nat) (x : Int) (R : List Int), s.length = n → p < n → e < n → sat s e = none → sat s p = some x →
    (∀ q g, q < n → q ≠ p → sat s q = some g → h g ≠ q → ∃ g', sat s (prv n q) = some g' ∧ Ahead n h g' g (prv n q)) →
    (∀ w, Ahead n h x w p → h w ≠ p → ∃ g', sat s (prv n p) = some g' ∧ Ahead n h g' w (prv n p)) →
    List.Perm (who s) (x :: R) → dist n p e ≤ k →
    (shift n h k s p).length = n ∧ Loc n h (sat (shift n h k s p)) ∧ List.Perm (who (shift n h k s p)) R := by
  intro k
  induction k with
  | zero =>
    intro s p e x R hl hp he hn hx _ _ _ hk
    have : p = e := dist_zero hp he (by omega)
    subst this
    rw [hx] at hn; cases hn
  | succ k ih =>
    intro s p e x R hl hp he hn hx ha hb hw hk
    have hps : p < s.length := by omega
    have hpe : p ≠ e := by rintro rfl; rw [hx] at hn; cases hn
    have d1 := dist_to_nxt hp he hpe
    -- the end: p is emptied
    have fin : (∀ y, sat s (nxt n p) = some y → h y = nxt n p) → (s.set p none).length = n ∧ Loc n h (sat (s.set p none)) ∧ List.Perm (who (s.set p none)) R := by
      intro hnx
      refine ⟨by simpa using hl, fun q g hq hg hne => ?_, ?_⟩
      · by_cases e1 : q = p
        · subst e1; rw [sat_same hps] at hg; cases hg
        · rw [sat_ne hps e1] at hg
          obtain ⟨g', e', u⟩ := ha q g hq e1 hg hne
          by_cases e2 : prv n q = p
          · have : q = nxt n p := by rw [← e2, nxt_prv hq]
            subst this
            exact absurd (hnx g hg) hne
          · exact ⟨g', by rw [sat_ne hps e2]; exact e', u⟩
      · obtain ⟨r, r1, _, r3⟩ := who_some (x := x) hps hx
        rw [r3]
        exact (List.perm_cons x).mp (r1.symm.trans hw)
    unfold shift
    cases hy : sat s (nxt n p) with
    | none => exact fin fun y z => by rw [hy] at z; cases z
    | some y =>
      dsimp only
      by_cases e1 : h y = nxt n p
      · rw [if_pos e1]
        exact fin fun z hz => by rw [hy] at hz; cases hz; exact e1
      · rw [if_neg e1]
        have hq := nxt_lt hp
        have hqp := nxt_ne h2 hp
        obtain ⟨g0, e0, u0⟩ := ha (nxt n p) y hq hqp hy e1
        rw [prv_nxt hp, hx] at e0
        cases e0
        rw [prv_nxt hp] at u0
        obtain ⟨r, r1, r2, _⟩ := who_some (x := y) hps hx
        have hr : List.Perm r R := (List.perm_cons x).mp (r1.symm.trans hw)
        have hqs : nxt n p < s.length := by omega
        refine ih (s.set p (some y)) (nxt n p) e y R (by simpa using hl) hq he (by rw [sat_ne hps (Ne.symm hpe)]; exact hn) (by rw [sat_ne hps hqp]; exact hy) ?_ ?_ (r2.trans (List.Perm.cons y hr)) (by omega)
        · intro q g hqn hne hg hgn
          by_cases e2 : q = p
          · subst e2
            rw [sat_same hps] at hg
            cases hg
            obtain ⟨g', e', u⟩ := hb y u0 hgn
            exact ⟨g', by rw [sat_ne hps (prv_ne h2 hqn)]; exact e', u⟩
          · rw [sat_ne hps e2] at hg
            obtain ⟨g', e', u⟩ := ha q g hqn e2 hg hgn
            have e3 : prv n q ≠ p := fun z => hne (by rw [← z, nxt_prv hqn])
            exact ⟨g', by rw [sat_ne hps e3]; exact e', u⟩
        · intro w u hwn
          rw [prv_nxt hp]
          refine ⟨y, sat_same hps, ?_⟩
          have dw := dist_prv (hh w) hq (Ne.symm hwn)
          have := ahead_back hh hq u (j := 1) (by omega)
          rw [back_one hq, prv_nxt hp] at this
          exact this
theorem goes_ok (h2 : 2 ≤ n) (hh : ∀ g, h g < n) {s : Seats} {x : Int} {p : Nat} {R : List Int} (S : Settled n h s) (hp : p < n) (hx : sat s p = some x) (hw : List.Perm (who s) (x :: R)) :
    Settled n h (shift n h n s p) ∧ List.Perm (who (shift n h n s p)) R := by
  obtain ⟨e, he, hn⟩ := S.empty
  have := shift_ok h2 hh n s p e x R S.len hp he hn hx (fun q g hq _ hg hne => S.loc q g hq hg hne) (fun w u hwn => ?_) hw (Nat.le_of_lt (dist_lt hp he))
  · obtain ⟨a, b, c⟩ := this
    refine ⟨⟨a, b, ?_⟩, c⟩
    have := S.emp
    have l := hw.length_eq
    rw [List.length_cons] at l
    rw [c.length_eq]
    omega
  · by_cases e1 : h x = p
    · have : dist n (h x) p = 0 := by rw [e1, dist_self]
      have le := ahead_le u
      exact absurd (dist_zero (hh w) hp (by omega)) hwn
    · obtain ⟨g', e', u'⟩ := S.loc p x hp hx e1
      refine ⟨g', e', ahead_trans u' ?_⟩
      have dw := dist_prv (hh w) hp (Ne.symm hwn)
      have := ahead_back hh hp u (j := 1) (by omega)
      rw [back_one hp] at this
      exact this
end
end Ring


set_option linter.all false
namespace Ring
/-! ### the words of the program, in whole numbers -/
def far (g p m : Int) : Int := (p - mark g % m) % m
def aheadF (x y p m : Int) : Bool := decide (far y p m < far x p m) || (decide (far x p m = far y p m) && decide (x < y))
theorem far_dist {n p : Nat} (hp : p < n) (g : Int) : far g (p : Int) (n : Int) = (dist n (hm n g) p : Int) := by
  unfold far
  have h0 : 0 < n := by omega
  rw [← hm_eq h0 g]
  exact far_eq (hm_lt h0 g) hp
theorem aheadF_eq {n p : Nat} (hp : p < n) (x y : Int) : aheadF x y (p : Int) (n : Int) = decide (Ahead n (hm n) x y p) := by
  unfold aheadF Ahead
  rw [far_dist hp, far_dist hp]
  by_cases h1 : dist n (hm n y) p < dist n (hm n x) p
  · have : ((dist n (hm n y) p : Nat) : Int) < (dist n (hm n x) p : Nat) := by omega
    simp [h1]
  · by_cases h2 : dist n (hm n x) p = dist n (hm n y) p
    · simp [h2]
    · have : ¬ (((dist n (hm n x) p : Nat) : Int) = (dist n (hm n y) p : Nat)) := by omega
      simp [h1, h2]
      intro e
      exact absurd e this
/-! ### well seated -/
def WellAt (n : Nat) (s : Seats) (p : Nat) : Prop := ∀ g, sat s p = some g → hm n g ≠ p → ∃ g', sat s (prv n p) = some g' ∧ Ahead n (hm n) g' g (prv n p)
open Classical in
noncomputable def wellB (n : Nat) (s : Seats) (p : Nat) : Bool := decide (WellAt n s p)
open Classical in
noncomputable def setB (s : Seats) : Bool := decide (none ∈ s ∧ Loc s.length (hm s.length) (sat s))
/-! ### strain -/
def ways (n : Nat) (s : Seats) (k : Nat) : List Int := ((List.range k).filter fun i => (sat s i).isSome).map fun i => ((costAt n (hm n) id (sat s i) i : Nat) : Int)
/-! ### a walk of the look: put, step by step -/
theorem put_none {n : Nat} {h : Int → Nat} {k : Nat} {s : Seats} {x : Int} {p : Nat} (e : sat s p = none) : put n h (k + 1) s x p = s.set p (some x) := by
  unfold put
  rw [e]
theorem put_yes {n : Nat} {h : Int → Nat} {k : Nat} {s : Seats} {x y : Int} {p : Nat} (e : sat s p = some y) (a : Ahead n h x y p) : put n h (k + 1) s x p = put n h k (s.set p (some x)) y (nxt n p) := by
  rw [put, e]
  exact if_pos a
theorem put_no {n : Nat} {h : Int → Nat} {k : Nat} {s : Seats} {x y : Int} {p : Nat} (e : sat s p = some y) (a : ¬ Ahead n h x y p) : put n h (k + 1) s x p = put n h k s x (nxt n p) := by
  rw [put, e]
  exact if_neg a
theorem none_mem {s : Seats} : none ∈ s ↔ ∃ e, e < s.length ∧ sat s e = none := by
  constructor
  · intro h
    obtain ⟨i, hi, e⟩ := List.mem_iff_getElem.mp h
    exact ⟨i, hi, by unfold sat; simp [List.getD, hi, e]⟩
  · rintro ⟨e, he, h⟩
    have : s[e] = none := by rw [sat_get' he]; exact h
    rw [← this]
    exact List.getElem_mem he
end Ring
namespace Ring
theorem sorted_eq : ∀ {a b : List Int}, a.Perm b → a.Pairwise (· ≤ ·) → b.Pairwise (· ≤ ·) → a = b
  | [], b, h, _, _ => (List.Perm.nil_eq h)
  | x :: a, [], h, _, _ => by simpa using h.length_eq
  | x :: a, y :: b, h, ha, hb => by
    obtain ⟨a1, a2⟩ := List.pairwise_cons.mp ha
    obtain ⟨b1, b2⟩ := List.pairwise_cons.mp hb
    have hxy : x = y := by
      have h1 : x ∈ y :: b := h.mem_iff.mp List.mem_cons_self
      have h2 : y ∈ x :: a := h.mem_iff.mpr List.mem_cons_self
      rcases List.mem_cons.mp h1 with e | e
      · exact e
      · rcases List.mem_cons.mp h2 with e' | e'
        · exact e'.symm
        · exact Int.le_antisymm (a1 y e') (b1 x e)
    subst hxy
    rw [sorted_eq (List.Perm.cons_inv h) a2 b2]
theorem who_append (s t : Seats) : who (s ++ t) = who s ++ who t := by
  unfold who
  rw [List.filterMap_append]
theorem who_take (s : Seats) (f : Option Int → Int) (hf : ∀ g, f (some g) = g) : ∀ k, k ≤ s.length → ((List.range k).filter fun i => (sat s i).isSome).map (fun i => f (sat s i)) = who (s.take k)
  | 0, _ => by simp [who]
  | k + 1, hk => by
    have ih := who_take s f hf k (by omega)
    have hk' : k < s.length := by omega
    rw [List.range_succ, List.filter_append, List.map_append, ih, List.take_succ_eq_append_getElem hk', who_append, sat_get' hk']
    congr 1
    cases h : sat s k with
    | none => simp [h, who]
    | some g => simp [h, who, hf]
theorem who_range (s : Seats) : ((List.range s.length).filter fun i => (sat s i).isSome).map (fun i => (sat s i).getD 0) = who s := by
  have := who_take s (fun o => o.getD 0) (fun _ => rfl) s.length (Nat.le_refl _)
  rw [List.take_length] at this
  exact this
end Ring


set_option linter.all false
set_option maxRecDepth 100000
/-! The promises of the program's defs and of the laws' helpers, in values. -/
namespace Law
open PySem L2 Ring
def sv : Option Int → V
  | none => .non
  | some g => .int g
theorem sv_some (g : Int) : sv (some g) = .int g := rfl
theorem sv_none : sv none = .non := rfl
abbrev svs (s : Seats) : List V := s.map sv
theorem sv_flat (o : Option Int) : flatV (sv o) = true := by cases o <;> rfl
theorem svs_flat (s : Seats) : (svs s).all flatV = true := by
  rw [List.all_eq_true]
  intro v hv
  obtain ⟨o, _, rfl⟩ := List.mem_map.mp hv
  exact sv_flat o
theorem svs_at {s : Seats} {p : Nat} (hp : p < s.length) : atI (svs s) (p : Int) = some (sv (sat s p)) := by
  refine atI_nat ?_
  rw [List.getElem?_map, sat_get hp]
  rfl
theorem svs_len (s : Seats) : (svs s).length = s.length := List.length_map _
theorem ixN_nat {n p : Nat} (hp : p < n) : ixN n (p : Int) = some p := by
  unfold ixN
  rw [if_pos (by omega), if_pos (by omega)]
  simp
theorem svs_set {s : Seats} {p : Nat} {o : Option Int} : (svs s).set p (sv o) = svs (s.set p o) := by
  unfold svs
  rw [List.map_set]
theorem svs_setI {s : Seats} {p : Nat} {g : Int} : (svs s).set p (.int g) = svs (s.set p (some g)) := svs_set (o := some g)
theorem svs_setN {s : Seats} {p : Nat} : (svs s).set p .non = svs (s.set p none) := svs_set (o := none)
theorem inV_non {s : Seats} : inV .non (svs s) = decide (none ∈ s) := by
  unfold inV
  rw [Bool.eq_iff_iff]
  simp only [List.any_eq_true, decide_eq_true_eq]
  constructor
  · rintro ⟨v, hv, e⟩
    obtain ⟨o, ho, rfl⟩ := List.mem_map.mp hv
    cases o with
    | none => exact ho
    | some g => cases e
  · intro h
    exact ⟨.non, List.mem_map.mpr ⟨none, h, rfl⟩, rfl⟩
theorem eqVs_ints : ∀ {s t : List Int}, eqVs (s.map V.int) (t.map V.int) = decide (s = t)
  | [], [] => by simp [eqVs]
  | [], _ :: _ => by simp [eqVs]
  | _ :: _, [] => by simp [eqVs]
  | a :: s, b :: t => by
    have ih := @eqVs_ints s t
    show (eqV (.int a) (.int b) && eqVs (s.map V.int) (t.map V.int)) = _
    rw [ih, Bool.eq_iff_iff]
    simp [eqV]
theorem ints_flat (s : List Int) : (s.map V.int).all flatV = true := by
  rw [List.all_eq_true]
  intro v hv
  obtain ⟨o, _, rfl⟩ := List.mem_map.mp hv
  rfl
theorem atI_ints {ns : List Int} {j : Nat} (h : j < ns.length) : atI (ns.map V.int) (j : Int) = some (.int ns[j]) := by
  refine atI_nat ?_
  rw [List.getElem?_map, List.getElem?_eq_getElem h]
  rfl
theorem cut_ints (ns : List Int) (lo hi : Option Int) : cutV (ns.map V.int) lo hi = ((ns.drop (HT.sIx ns.length 0 lo)).take (HT.sIx ns.length ns.length hi - HT.sIx ns.length 0 lo)).map V.int := by
  unfold cutV
  rw [List.length_map, ← List.map_drop, ← List.map_take]
def spLaw (K : PySem.W.Frag) : Sp := fun vs H Q _ => ∃ (a : Addr) (ns : List Int), vs = [.ref a] ∧ SqL K H a (ns.map V.int) ∧ ns.length ≤ 63 ∧ ∀ H', Q (.bl true) H'
/-! ### numbers -/
def P60 : Int := 1000000000000000000000000000000000000000000000000000000000000
theorem p60 : (10 : Int) ^ (60 : Int).toNat = P60 := by decide +kernel
def cellF (ns : List Int) (k : Int) : Int := ns.getD k.toNat 0
/-! ### promises -/
def spHome : Sp := fun vs H Q _ => ∃ g m : Int, vs = [.int g, .int m] ∧ 0 < m ∧ Q (.int (mark g % m)) H
def spCarried : Sp := fun vs H Q _ => ∃ g p m : Int, vs = [.int g, .int p, .int m] ∧ 0 < m ∧ Q (.int (far g p m)) H
def spAhead : Sp := fun vs H Q _ => ∃ x y p m : Int, vs = [.int x, .int y, .int p, .int m] ∧ 0 < m ∧ Q (.bl (aheadF x y p m)) H
def spCell (K : PySem.W.Frag) : Sp := fun vs H Q _ => ∃ (a : Addr) (ns : List Int) (k : Int), vs = [.ref a, .int k] ∧ SqL K H a (ns.map V.int) ∧ 0 ≤ k ∧ Q (.int (cellF ns k)) H
def spWhole : Sp := fun vs H Q _ => ∃ i : Int, vs = [.int i] ∧ Q (.bl true) H
theorem rd_home {g m : Int} {H : Hp} {Q : VK} {E : XK} (h : 0 < m) (q : Q (.int (mark g % m)) H) : spHome [.int g, .int m] H Q E := ⟨g, m, rfl, h, q⟩
theorem rd_carried {g p m : Int} {H : Hp} {Q : VK} {E : XK} (h : 0 < m) (q : Q (.int (far g p m)) H) : spCarried [.int g, .int p, .int m] H Q E := ⟨g, p, m, rfl, h, q⟩
/-- at a seat of the ring -/
theorem rd_homeN {g : Int} {n : Nat} {H : Hp} {Q : VK} {E : XK} (h : 0 < n) (q : Q (.int ((hm n g : Nat) : Int)) H) : spHome [.int g, .int (n : Int)] H Q E := by
  rw [hm_eq h] at q
  exact ⟨g, n, rfl, by omega, q⟩
theorem rd_carriedN {g : Int} {p n : Nat} {H : Hp} {Q : VK} {E : XK} (h : p < n) (q : Q (.int ((dist n (hm n g) p : Nat) : Int)) H) : spCarried [.int g, .int (p : Int), .int (n : Int)] H Q E := by
  rw [← far_dist h] at q
  exact ⟨g, p, n, rfl, by omega, q⟩
theorem rd_aheadN {x y : Int} {p n : Nat} {H : Hp} {Q : VK} {E : XK} (h : p < n) (q : Q (.bl (decide (Ahead n (hm n) x y p))) H) : spAhead [.int x, .int y, .int (p : Int), .int (n : Int)] H Q E := by
  rw [← aheadF_eq h] at q
  exact ⟨x, y, p, n, rfl, by omega, q⟩
theorem rd_whole {i : Int} {H : Hp} {Q : VK} {E : XK} (q : Q (.bl true) H) : spWhole [.int i] H Q E := ⟨i, rfl, q⟩
/-- seats -/
def spWell (K : PySem.W.Frag) : Sp := fun vs H Q _ => ∃ (a : Addr) (s : Seats) (p : Nat), vs = [.ref a, .int (p : Int)] ∧ SqL K H a (svs s) ∧ p < s.length ∧ Q (.bl (wellB s.length s p)) H
def spSettled (K : PySem.W.Frag) : Sp := fun vs H Q _ => ∃ (a : Addr) (s : Seats), vs = [.ref a] ∧ SqL K H a (svs s) ∧ s.length ≤ 1024 ∧ ∀ H', Same H H' → Q (.bl (setB s)) H'
def strainV (s : Seats) : List V := [.int ((cost s.length (hm s.length) id s s.length : Nat) : Int), .int ((most s.length (hm s.length) s s.length : Nat) : Int), .int ((cost s.length (hm s.length) (fun x => x * x) s s.length : Nat) : Int)]
def spStrain : Sp := fun vs H Q _ => ∃ (a : Addr) (s : Seats), vs = [.ref a] ∧ H a = some (.lst (svs s)) ∧ s.length ≤ 1024 ∧ ∀ t H', Same H H' → H' t = some (.tup (strainV s)) → Q (.ref t) H'
def spPut : Sp := fun vs H Q _ => ∃ (a : Addr) (s : Seats) (x : Int), vs = [.ref a, .int x] ∧ H a = some (.lst (svs s)) ∧ (∃ e, e < s.length ∧ sat s e = none) ∧ Q .non (upd H a (.lst (svs (comes s.length (hm s.length) s x))))
def spGuestBy : Sp := fun vs H Q _ => ∃ c b : Int, vs = [.int c, .int b] ∧ 0 ≤ b ∧ b < P60 - 10000000000000 ∧ ∀ g : Int, 0 ≤ g → g < P60 → Q (.int g) H
def spManyBy : Sp := fun vs H Q _ => ∃ c : Int, vs = [.int c] ∧ ∀ n : Nat, 2 ≤ n → n ≤ 1024 → Q (.int (n : Int)) H
def spSeated (K : PySem.W.Frag) : Sp := fun vs H Q _ => ∃ (a : Addr) (cs : List Int) (b : Int) (n : Nat), vs = [.ref a, .int b, .int (n : Int)] ∧ SqL K H a (cs.map V.int) ∧ cs.length ≤ 63 ∧ 0 ≤ b ∧ b < P60 - 10000000000000 ∧ 2 ≤ n ∧ n ≤ 1024 ∧
  ∀ l s H', Settled n (hm n) s → (∀ g ∈ who s, 0 ≤ g ∧ g < P60) → (who s).length ≤ 63 → Same H H' → H' l = some (.lst (svs s)) → H l = none → Q (.ref l) H'
end Law

local macro_rules | `(tactic| tm_at "rd1") => `(tactic| first
  | ((with_reducible refine Law.rd_whole ?_))
  | ((with_reducible refine Law.rd_homeN ?_ ?_); (· (first | assumption | omega)))
  | ((with_reducible refine Law.rd_carriedN ?_ ?_); (· (first | assumption | omega)))
  | ((with_reducible refine Law.rd_aheadN ?_ ?_); (· (first | assumption | omega))))

set_option linter.all false
set_option maxRecDepth 100000
namespace L2
end L2

local macro_rules | `(tactic| tm_at "rd1") => `(tactic| first
  | ((with_reducible refine L2.rd_seqX ?_))
  | ((with_reducible refine L2.rd_lift ?_))
  | ((with_reducible refine L2.rd_nextX ?_))
  | ((with_reducible refine L2.rd_ifX ?_))
  | ((with_reducible refine L2.rd_callX ?_))
  | ((with_reducible refine L2.rd_ifXX ?_))
  | ((with_reducible refine L2.rd_notNX ?_))
  | ((with_reducible refine L2.rd_try ?_))
  | ((with_reducible refine L2.rd_sl3 ?_)))

set_option linter.all false
set_option maxRecDepth 100000
/-! The promises of the program's defs that may raise. NG, TW, FU, AW, NS: the refusals' classes. -/
namespace Law
open PySem L2 Ring
def Odd (K : PySem.W.Frag) (H : Hp) (x : V) : Prop := (∃ b, x = .bl b) ∨ ∃ t, TyOf K H x t ∧ PySem.W.kitOne K t (.type "bool") = some false ∧ PySem.W.kitOne K t (.type "int") = some false
/-- no guest -/
def Bad (K : PySem.W.Frag) (H : Hp) (x : V) : Prop := (∃ i : Int, x = .int i ∧ ¬ (0 ≤ i ∧ i < P60)) ∨ Odd K H x
def spIW (K : PySem.W.Frag) : Sp := fun vs H Q _ => (∃ i : Int, vs = [.int i] ∧ Q (.bl true) H) ∨ (∃ x, vs = [x] ∧ Odd K H x ∧ Q (.bl false) H)
def spIs (K : PySem.W.Frag) : Sp := fun vs H Q _ => (∃ i : Int, vs = [.int i] ∧ Q (.bl (decide (0 ≤ i ∧ i < P60))) H) ∨ (∃ x, vs = [x] ∧ Odd K H x ∧ Q (.bl false) H)
def spCheck (K : PySem.W.Frag) (NG : Addr) : Sp := fun vs H Q E => (∃ i : Int, vs = [.int i] ∧ 0 ≤ i ∧ i < P60 ∧ Q .non H) ∨ (∃ x, vs = [x] ∧ Bad K H x ∧ E (.ref NG) none H)
/-- what a look finds -/
def placeV (s : Seats) (g : Int) : V := match (look s.length (hm s.length) s.length s g (hm s.length g) 0).2 with
  | none => .non
  | some p => .int (p : Int)
def looksN (s : Seats) (g : Int) : Nat := (look s.length (hm s.length) s.length s g (hm s.length g) 0).1
def spPassed (K : PySem.W.Frag) : Sp := fun vs H Q _ => ∃ (a : Addr) (s : Seats) (g : Int), vs = [.ref a, .int g] ∧ SqL K H a (svs s) ∧ none ∈ s ∧
  ∀ c p : Nat, p < s.length → (((hm s.length g : Nat) : Int) + (c : Int)) % (s.length : Int) = (p : Int) → look s.length (hm s.length) s.length s g (hm s.length g) 0 = (c + 1, if sat s p = some g then some p else none) → Q (.int (c : Int)) H
def spPlace (K : PySem.W.Frag) (NG : Addr) : Sp := fun vs H Q E => (∃ (a : Addr) (s : Seats) (g : Int), vs = [.ref a, .int g] ∧ SqL K H a (svs s) ∧ none ∈ s ∧ 0 ≤ g ∧ g < P60 ∧ Q (placeV s g) H) ∨ (∃ (a : Addr) (x : V), vs = [.ref a, x] ∧ Bad K H x ∧ E (.ref NG) none H)
def spLooks (K : PySem.W.Frag) (NG : Addr) : Sp := fun vs H Q E => (∃ (a : Addr) (s : Seats) (g : Int), vs = [.ref a, .int g] ∧ SqL K H a (svs s) ∧ none ∈ s ∧ 0 ≤ g ∧ g < P60 ∧ Q (.int (looksN s g : Int)) H) ∨ (∃ (a : Addr) (x : V), vs = [.ref a, x] ∧ Bad K H x ∧ E (.ref NG) none H)
/-- a guest comes into a settled seating -/
def spSeatIn (K : PySem.W.Frag) (NG TW FU : Addr) : Sp := fun vs H Q E => (∃ (a : Addr) (s : Seats) (g : Int), vs = [.ref a, .int g] ∧ SqL K H a (svs s) ∧ Settled s.length (hm s.length) s ∧ s.length ≤ 1024 ∧ 0 ≤ g ∧ g < P60 ∧
  (g ∈ who s → E (.ref TW) none H) ∧ (g ∉ who s → s.length ≤ (who s).length + 1 → E (.ref FU) none H) ∧ (g ∉ who s → (who s).length + 1 < s.length → ∀ l, H l = none → Q (.ref l) (upd H l (.lst (svs (comes s.length (hm s.length) s g)))))) ∨
  (∃ (a : Addr) (x : V), vs = [.ref a, x] ∧ Bad K H x ∧ E (.ref NG) none H)
theorem place_in {s : Seats} (St : Settled s.length (hm s.length) s) {g : Int} (h : g ∈ who s) : ∃ p : Nat, p < s.length ∧ sat s p = some g ∧ placeV s g = .int (p : Int) := by
  obtain ⟨p, hp, hs⟩ := mem_who.mp h
  have n0 : 0 < s.length := by omega
  have := look_in (fun g => hm_lt n0 g) St hp hs
  refine ⟨p, hp, hs, ?_⟩
  unfold placeV
  rw [this]
theorem place_out {s : Seats} (St : Settled s.length (hm s.length) s) {g : Int} (h : g ∉ who s) : placeV s g = .non := by
  have n0 : 0 < s.length := by have := St.emp; omega
  have := (look_out (fun g => hm_lt n0 g) St h).1
  unfold placeV
  rw [this]
theorem settled_none {s : Seats} (St : Settled s.length (hm s.length) s) : none ∈ s := none_mem.mpr St.empty
theorem count_none (s : Seats) : (svs s).countP (fun z => eqV z .non) = s.count none := by
  induction s with
  | nil => rfl
  | cons o s ih =>
    show (sv o :: svs s).countP _ = _
    rw [List.countP_cons, ih, List.count_cons]
    cases o with
    | none => rfl
    | some g => rfl
def flNG : List Bool := [true, false, false, true, false, false]
def flTW : List Bool := [false, true, false, true, false, false]
def flFU : List Bool := [false, false, true, true, false, false]
theorem eqVs_bls : ∀ {s t : List Bool}, eqVs (s.map V.bl) (t.map V.bl) = decide (s = t)
  | [], [] => by simp [eqVs]
  | [], _ :: _ => by simp [eqVs]
  | _ :: _, [] => by simp [eqVs]
  | a :: s, b :: t => by
    have ih := @eqVs_bls s t
    show (eqV (.bl a) (.bl b) && eqVs (s.map V.bl) (t.map V.bl)) = _
    rw [ih, Bool.eq_iff_iff]
    simp [eqV]
theorem bls_flat (s : List Bool) : (s.map V.bl).all flatV = true := by
  rw [List.all_eq_true]
  intro v hv
  obtain ⟨o, _, rfl⟩ := List.mem_map.mp hv
  rfl
theorem inV_ints {ds : List Int} {g : Int} : inV (.int g) (ds.map V.int) = decide (g ∈ ds) := by
  unfold inV
  rw [Bool.eq_iff_iff]
  simp only [List.any_eq_true, decide_eq_true_eq]
  constructor
  · rintro ⟨v, hv, e⟩
    obtain ⟨o, ho, rfl⟩ := List.mem_map.mp hv
    have : o = g := by simpa [eqV] using e
    rw [← this]; exact ho
  · intro h
    exact ⟨.int g, List.mem_map.mpr ⟨_, h, rfl⟩, by simp [eqV]⟩
/-- a guest goes out of a settled seating -/
def spSeatOut (K : PySem.W.Frag) (NG AW : Addr) : Sp := fun vs H Q E => (∃ (a : Addr) (s : Seats) (g : Int), vs = [.ref a, .int g] ∧ SqL K H a (svs s) ∧ Settled s.length (hm s.length) s ∧ 2 ≤ s.length ∧ s.length ≤ 1024 ∧ 0 ≤ g ∧ g < P60 ∧
  (g ∉ who s → E (.ref AW) none H) ∧ (g ∈ who s → ∀ l r, H l = none → Settled s.length (hm s.length) r → (∀ R, (who s).Perm (g :: R) → (who r).Perm R) → Q (.ref l) (upd H l (.lst (svs r))))) ∨
  (∃ (a : Addr) (x : V), vs = [.ref a, x] ∧ Bad K H x ∧ E (.ref NG) none H)
def P58 : Int := 10000000000000000000000000000000000000000000000000000000000
theorem p58 : (10 : Int) ^ (58 : Int).toNat = P58 := by decide +kernel
def P40 : Int := 10000000000000000000000000000000000000000
theorem p40 : (10 : Int) ^ (40 : Int).toNat = P40 := by decide +kernel
theorem p32 : (2 : Int) ^ (32 : Int).toNat = 4294967296 := by decide +kernel
def spBase7 : Sp := fun vs H Q _ => ∃ c : Int, vs = [.int c] ∧ ∀ b : Int, 0 ≤ b → b < P58 → Q (.int b) H
def spGuest7 : Sp := fun vs H Q _ => ∃ c b : Int, vs = [.int c, .int b] ∧ 0 ≤ b ∧ b < P58 ∧ ∀ g : Int, 0 ≤ g → g < P60 → Q (.int g) H
def spDrawn (K : PySem.W.Frag) : Sp := fun vs H Q _ => ∃ (a : Addr) (cs : List Int) (b : Int), vs = [.ref a, .int b] ∧ SqL K H a (cs.map V.int) ∧ cs.length ≤ 63 ∧ 0 ≤ b ∧ b < P58 ∧
  ∀ (l : Addr) (ds : List Int) (H' : Hp), ds.Nodup → (∀ g ∈ ds, 0 ≤ g ∧ g < P60) → ds.length ≤ cs.length → Same H H' → H' l = some (.lst (ds.map V.int)) → H l = none → Q (.ref l) H'
def spSett3 (K : PySem.W.Frag) : Sp := fun vs H Q _ => ∃ (a b : Addr) (s : Seats) (ds : List Int), vs = [.ref a, .int (s.length : Int), .ref b] ∧ H a = some (.lst (svs s)) ∧ SqL K H b (ds.map V.int) ∧ s.length ≤ 1024 ∧ Settled s.length (hm s.length) s ∧ (who s).Perm ds ∧ ds.length < 64 ∧ ∀ H', Same H H' → Q (.bl true) H'
def spSame (K : PySem.W.Frag) : Sp := fun vs H Q _ => ∃ (a b : Addr) (s : Seats), vs = [.ref a, .ref b] ∧ H a = some (.lst (svs s)) ∧ H b = some (.lst (svs s)) ∧ ∀ H', Same H H' → Q (.bl true) H'
def spOdd (K : PySem.W.Frag) : Sp := fun vs H Q _ => ∃ c : Int, vs = [.int c] ∧ ∀ x H', Bad K H' x → Same H H' → Q x H'
/-- the steps of a look -/
theorem look_none {n : Nat} {h : Int → Nat} {k : Nat} {s : Seats} {g : Int} {p c : Nat} (e : sat s p = none) : look n h (k + 1) s g p c = (c + 1, none) := by
  rw [look, e]
theorem look_here {n : Nat} {h : Int → Nat} {k : Nat} {s : Seats} {g : Int} {p c : Nat} (e : sat s p = some g) : look n h (k + 1) s g p c = (c + 1, some p) := by
  rw [look, e]
  exact if_pos rfl
theorem look_on {n : Nat} {h : Int → Nat} {k : Nat} {s : Seats} {g y : Int} {p c : Nat} (e : sat s p = some y) (hy : y ≠ g) (a : Ahead n h y g p) : look n h (k + 1) s g p c = look n h k s g (nxt n p) (c + 1) := by
  rw [look, e]
  show (if y = g then _ else _) = _
  rw [if_neg hy, if_pos a]
theorem look_end {n : Nat} {h : Int → Nat} {k : Nat} {s : Seats} {g y : Int} {p c : Nat} (e : sat s p = some y) (hy : y ≠ g) (a : ¬ Ahead n h y g p) : look n h (k + 1) s g p c = (c + 1, none) := by
  rw [look, e]
  show (if y = g then _ else _) = _
  rw [if_neg hy, if_neg a]
end Law
theorem PyProof.Rows.boot_ValueError : PySem.bootBuiltins "ValueError" = some (.type "ValueError") := by decide +kernel


set_option linter.all false
set_option maxRecDepth 100000
/-! Lists of guests: cut, drawn, one taken out; a stranger is found. -/
namespace Law
open PySem L2 Ring
theorem countP_lt {p q : Int → Bool} {d : Int} : ∀ {l : List Int}, (∀ x, q x = true → p x = true) → d ∈ l → p d = true → q d = false → l.countP q < l.countP p
  | [], _, h, _, _ => nomatch h
  | x :: l, hm, h, h1, h2 => by
    rw [List.countP_cons, List.countP_cons]
    have le : l.countP q ≤ l.countP p := List.countP_mono_left fun x _ => hm x
    rcases List.mem_cons.mp h with rfl | h'
    · rw [h1, h2]
      show l.countP q + 0 < l.countP p + 1
      omega
    · have := countP_lt hm h' h1 h2
      cases hq : q x with
      | false => rw [if_neg (by decide)]; omega
      | true => rw [hm x hq, if_pos rfl]; omega
/-- how many of the guests lie from the i-th number behind s0 on -/
def offs (gs : List Int) (s0 : Int) (i : Nat) : Nat := gs.countP fun d => decide ((i : Int) ≤ (d - s0) % P60)
theorem offs_lt {gs : List Int} {s0 : Int} {i : Nat} (hi : i < 1000) (h : (s0 + (i : Int)) % P60 ∈ gs) : offs gs s0 (i + 1) < offs gs s0 i := by
  have e : ((s0 + (i : Int)) % P60 - s0) % P60 = (i : Int) := by unfold P60; omega
  refine countP_lt (fun x hx => ?_) h ?_ ?_
  · have := of_decide_eq_true hx
    exact decide_eq_true (by omega)
  · rw [e]
    exact decide_eq_true (Int.le_refl _)
  · rw [e]
    exact decide_eq_false (by omega)
theorem offs_le {gs : List Int} {s0 : Int} {i : Nat} : offs gs s0 i ≤ gs.length := List.countP_le_length
theorem next_stranger {s0 : Int} {i : Nat} : ((s0 + (i : Int)) % P60 + 1) % P60 = (s0 + ((i + 1 : Nat) : Int)) % P60 := by unfold P60; omega
/-- the cells from the k-th on -/
theorem cut_from (ns : List Int) (k : Nat) (j : Nat) : ((ns.drop (HT.sIx ns.length 0 (some (k : Int)))).take j).length ≤ ns.length - k := by
  rw [HT.sIx_nat, List.length_take, List.length_drop]
  omega
/-- the first k -/
theorem cut_to (ds : List Int) (k : Nat) : (ds.drop (HT.sIx ds.length 0 none)).take (HT.sIx ds.length ds.length (some (k : Int)) - HT.sIx ds.length 0 none) = ds.take k := by
  rw [HT.sIx_none, HT.sIx_nat, List.drop_zero, Nat.sub_zero]
  rcases Nat.le_total k ds.length with h | h
  · rw [Nat.min_eq_left h]
  · rw [Nat.min_eq_right h, List.take_of_length_le h, List.take_length]
theorem take_sub {ds : List Int} {k : Nat} {g : Int} (h : g ∈ ds.take k) : g ∈ ds := List.mem_of_mem_take h
theorem nodup_take {ds : List Int} {k : Nat} (h : ds.Nodup) : (ds.take k).Nodup := h.sublist (List.take_sublist k ds)
theorem take_succ_get {ds : List Int} {i : Nat} {g : Int} (h : ds[i]? = some g) : ds.take (i + 1) = ds.take i ++ [g] := by
  rw [List.take_succ, h]
  rfl
theorem not_in_take {ds : List Int} {i : Nat} {g : Int} (nd : ds.Nodup) (h : ds[i]? = some g) : g ∉ ds.take i := by
  have h1 := nodup_take (k := i + 1) nd
  rw [take_succ_get h] at h1
  intro m
  exact (List.nodup_append.mp h1).2.2 g m g (List.mem_singleton.mpr rfl) rfl
theorem range_getD (l : List Int) : (List.range l.length).map (fun i => l.getD i 0) = l := by
  refine List.ext_getElem (by rw [List.length_map, List.length_range]) fun i h1 h2 => ?_
  rw [List.getElem_map, List.getElem_range, List.getD_eq_getElem?_getD, List.getElem?_eq_getElem h2]
  rfl
theorem filter_range (l : List Int) (p : Int → Bool) : ((List.range l.length).filter fun i => p (l.getD i 0)).map (fun i => V.int (l.getD i 0)) = (l.filter p).map V.int := by
  have h : (l.filter p) = ((List.range l.length).filter fun i => p (l.getD i 0)).map fun i => l.getD i 0 := by
    have e := List.filter_map (f := fun i => l.getD i 0) (p := p) (l := List.range l.length)
    rw [range_getD] at e
    exact e
  rw [h, List.map_map]
  rfl
theorem perm_out {l : List Int} {g : Int} (nd : l.Nodup) (h : g ∈ l) : l.Perm (g :: l.filter fun x => !decide (x = g)) := by
  have h1 := List.perm_cons_erase h
  rw [nd.erase_eq_filter] at h1
  have : (fun x : Int => !decide (x = g)) = fun x => x != g := by
    funext x
    rw [Bool.eq_iff_iff]
    simp
  rw [this]
  exact h1
end Law


set_option Elab.async false
set_option linter.all false
set_option maxRecDepth 100000
set_option maxHeartbeats 1000000
namespace Law
open PySem L2 Ring
def top (i : Nat) : Stmt := PySem.Challenge.pw_ringseat_k07_going.main.body.getD i (.Pass ⟨0, 0, 0, 0⟩)
abbrev s_is_whole : Stmt := top 10
abbrev s_is_guest : Stmt := top 11
abbrev s_home : Stmt := top 12
abbrev s_carried : Stmt := top 13
abbrev s_ahead : Stmt := top 14
abbrev s_check_guest : Stmt := top 16
abbrev s_passed : Stmt := top 17
abbrev s_place_of : Stmt := top 18
abbrev s_seat_in : Stmt := top 20
abbrev s_put : Stmt := top 21
abbrev s_seat_out : Stmt := top 22
abbrev s_l_cell_at : Stmt := top 24
abbrev s_l_whole : Stmt := top 25
abbrev s_l_home : Stmt := top 26
abbrev s_l_base : Stmt := top 27
abbrev s_l_guest : Stmt := top 28
abbrev s_l_drawn : Stmt := top 29
abbrev s_l_put : Stmt := top 30
abbrev s_l_settled : Stmt := top 31
abbrev s_l_same : Stmt := top 32
abbrev s_l_odd : Stmt := top 33
abbrev s_l_refused : Stmt := top 34
abbrev s_law : Stmt := top 35
theorem sc_is_whole : FnScope ["thing"] ["thing"] (defScope s_is_whole) := ⟨rfl, rfl, rfl, by decide +kernel, rfl, by decide +kernel, by decide +kernel⟩
theorem sc_is_guest : FnScope ["thing"] ["thing"] (defScope s_is_guest) := ⟨rfl, rfl, rfl, by decide +kernel, rfl, by decide +kernel, by decide +kernel⟩
theorem sc_home : FnScope ["guest", "many"] ["guest", "many"] (defScope s_home) := ⟨rfl, rfl, rfl, by decide +kernel, rfl, by decide +kernel, by decide +kernel⟩
theorem sc_carried : FnScope ["guest", "at", "many"] ["guest", "at", "many"] (defScope s_carried) := ⟨rfl, rfl, rfl, by decide +kernel, rfl, by decide +kernel, by decide +kernel⟩
theorem sc_ahead : FnScope ["one", "other", "at", "many", "way_of_one", "way_of_other"] ["one", "other", "at", "many"] (defScope s_ahead) := ⟨rfl, rfl, rfl, by decide +kernel, rfl, by decide +kernel, by decide +kernel⟩
theorem sc_check_guest : FnScope ["thing"] ["thing"] (defScope s_check_guest) := ⟨rfl, rfl, rfl, by decide +kernel, rfl, by decide +kernel, by decide +kernel⟩
theorem sc_passed : FnScope ["seats", "guest", "many", "steps", "at"] ["seats", "guest"] (defScope s_passed) := ⟨rfl, rfl, rfl, by decide +kernel, rfl, by decide +kernel, by decide +kernel⟩
theorem sc_place_of : FnScope ["seats", "guest", "many", "at"] ["seats", "guest"] (defScope s_place_of) := ⟨rfl, rfl, rfl, by decide +kernel, rfl, by decide +kernel, by decide +kernel⟩
theorem sc_seat_in : FnScope ["seats", "guest", "answer"] ["seats", "guest"] (defScope s_seat_in) := ⟨rfl, rfl, rfl, by decide +kernel, rfl, by decide +kernel, by decide +kernel⟩
theorem sc_put : FnScope ["seats", "guest", "many", "moving", "at", "sitting"] ["seats", "guest"] (defScope s_put) := ⟨rfl, rfl, rfl, by decide +kernel, rfl, by decide +kernel, by decide +kernel⟩
theorem sc_seat_out : FnScope ["seats", "guest", "gap", "many", "answer", "at"] ["seats", "guest"] (defScope s_seat_out) := ⟨rfl, rfl, rfl, by decide +kernel, rfl, by decide +kernel, by decide +kernel⟩
theorem sc_l_cell_at : FnScope ["_law_script", "_law_k"] ["_law_script", "_law_k"] (defScope s_l_cell_at) := ⟨rfl, rfl, rfl, by decide +kernel, rfl, by decide +kernel, by decide +kernel⟩
theorem sc_l_whole : FnScope ["_law_found"] ["_law_found"] (defScope s_l_whole) := ⟨rfl, rfl, rfl, by decide +kernel, rfl, by decide +kernel, by decide +kernel⟩
theorem sc_l_home : FnScope ["_law_guest_here", "_law_many"] ["_law_guest_here", "_law_many"] (defScope s_l_home) := ⟨rfl, rfl, rfl, by decide +kernel, rfl, by decide +kernel, by decide +kernel⟩
theorem sc_l_base : FnScope ["_law_cell"] ["_law_cell"] (defScope s_l_base) := ⟨rfl, rfl, rfl, by decide +kernel, rfl, by decide +kernel, by decide +kernel⟩
theorem sc_l_guest : FnScope ["_law_cell", "_law_base_here", "_law_number"] ["_law_cell", "_law_base_here"] (defScope s_l_guest) := ⟨rfl, rfl, rfl, by decide +kernel, rfl, by decide +kernel, by decide +kernel⟩
theorem sc_l_drawn : FnScope ["_law_cells", "_law_base_here", "_law_seen", "_law_cell"] ["_law_cells", "_law_base_here"] (defScope s_l_drawn) := ⟨rfl, rfl, rfl, by decide +kernel, rfl, by decide +kernel, by decide +kernel⟩
theorem sc_l_put : FnScope ["_law_seats", "_law_guest_here", "_law_many", "_law_at", "_law_far", "_law_there", "_law_way"] ["_law_seats", "_law_guest_here"] (defScope s_l_put) := ⟨rfl, rfl, rfl, by decide +kernel, rfl, by decide +kernel, by decide +kernel⟩
theorem sc_l_settled : FnScope ["_law_seats", "_law_many", "_law_guests", "_law_at", "_law_way", "_law_before"] ["_law_seats", "_law_many", "_law_guests"] (defScope s_l_settled) := ⟨rfl, rfl, rfl, by decide +kernel, rfl, by decide +kernel, by decide +kernel⟩
theorem sc_l_same : FnScope ["_law_found", "_law_seats", "_law_one", "_law_other"] ["_law_found", "_law_seats"] (defScope s_l_same) := ⟨rfl, rfl, rfl, by decide +kernel, rfl, by decide +kernel, by decide +kernel⟩
theorem sc_l_odd : FnScope ["_law_cell", "_law_number", "_law_some"] ["_law_cell"] (defScope s_l_odd) := ⟨rfl, rfl, rfl, by decide +kernel, rfl, by decide +kernel, by decide +kernel⟩
theorem sc_l_refused : FnScope ["_law_seats", "_law_guest_here", "e", "_law_own", "_law_others"] ["_law_seats", "_law_guest_here"] (defScope s_l_refused) := ⟨rfl, rfl, rfl, by decide +kernel, rfl, by decide +kernel, by decide +kernel⟩
theorem sc_law : FnScope ["_law_script", "_law_many", "_law_base_here", "_law_guests", "_law_seats", "_law_guest_here", "_law_stranger", "_law_handed", "_law_thing", "_law_gone", "_law_found", "_law_others", "_law_kept", "_law_again", "_law_more"] ["_law_script"] (defScope s_law) := ⟨rfl, rfl, rfl, by decide +kernel, rfl, by decide +kernel, by decide +kernel⟩
structure Cs where
  RingError : Addr
  NoGuest : Addr
  NoSize : Addr
  Twice : Addr
  Away : Addr
  Full : Addr
structure Txt (K : PySem.W.Frag) (mg : Str → Option Value) (cs : Cs) : Prop where
  m_RingError : mg "RingError" = some (.ref cs.RingError)
  m_NoGuest : mg "NoGuest" = some (.ref cs.NoGuest)
  K_NoGuest : ExcC K mg "NoGuest" cs.NoGuest
  x_NoGuest : PySem.W.exmOne K (.ref cs.NoGuest) (.ref cs.RingError) = some true
  v_NoGuest : PySem.W.kitOne K (.ref cs.NoGuest) (.type "ValueError") = some true
  i_NoGuest_RingError : PySem.W.kitOne K (.ref cs.NoGuest) (.ref cs.RingError) = some true
  i_NoGuest_NoGuest : PySem.W.kitOne K (.ref cs.NoGuest) (.ref cs.NoGuest) = some true
  i_NoGuest_NoSize : PySem.W.kitOne K (.ref cs.NoGuest) (.ref cs.NoSize) = some false
  i_NoGuest_Twice : PySem.W.kitOne K (.ref cs.NoGuest) (.ref cs.Twice) = some false
  i_NoGuest_Away : PySem.W.kitOne K (.ref cs.NoGuest) (.ref cs.Away) = some false
  i_NoGuest_Full : PySem.W.kitOne K (.ref cs.NoGuest) (.ref cs.Full) = some false
  m_NoSize : mg "NoSize" = some (.ref cs.NoSize)
  K_NoSize : ExcC K mg "NoSize" cs.NoSize
  x_NoSize : PySem.W.exmOne K (.ref cs.NoSize) (.ref cs.RingError) = some true
  v_NoSize : PySem.W.kitOne K (.ref cs.NoSize) (.type "ValueError") = some true
  i_NoSize_RingError : PySem.W.kitOne K (.ref cs.NoSize) (.ref cs.RingError) = some true
  i_NoSize_NoGuest : PySem.W.kitOne K (.ref cs.NoSize) (.ref cs.NoGuest) = some false
  i_NoSize_NoSize : PySem.W.kitOne K (.ref cs.NoSize) (.ref cs.NoSize) = some true
  i_NoSize_Twice : PySem.W.kitOne K (.ref cs.NoSize) (.ref cs.Twice) = some false
  i_NoSize_Away : PySem.W.kitOne K (.ref cs.NoSize) (.ref cs.Away) = some false
  i_NoSize_Full : PySem.W.kitOne K (.ref cs.NoSize) (.ref cs.Full) = some false
  m_Twice : mg "Twice" = some (.ref cs.Twice)
  K_Twice : ExcC K mg "Twice" cs.Twice
  x_Twice : PySem.W.exmOne K (.ref cs.Twice) (.ref cs.RingError) = some true
  v_Twice : PySem.W.kitOne K (.ref cs.Twice) (.type "ValueError") = some true
  i_Twice_RingError : PySem.W.kitOne K (.ref cs.Twice) (.ref cs.RingError) = some true
  i_Twice_NoGuest : PySem.W.kitOne K (.ref cs.Twice) (.ref cs.NoGuest) = some false
  i_Twice_NoSize : PySem.W.kitOne K (.ref cs.Twice) (.ref cs.NoSize) = some false
  i_Twice_Twice : PySem.W.kitOne K (.ref cs.Twice) (.ref cs.Twice) = some true
  i_Twice_Away : PySem.W.kitOne K (.ref cs.Twice) (.ref cs.Away) = some false
  i_Twice_Full : PySem.W.kitOne K (.ref cs.Twice) (.ref cs.Full) = some false
  m_Away : mg "Away" = some (.ref cs.Away)
  K_Away : ExcC K mg "Away" cs.Away
  x_Away : PySem.W.exmOne K (.ref cs.Away) (.ref cs.RingError) = some true
  v_Away : PySem.W.kitOne K (.ref cs.Away) (.type "ValueError") = some true
  i_Away_RingError : PySem.W.kitOne K (.ref cs.Away) (.ref cs.RingError) = some true
  i_Away_NoGuest : PySem.W.kitOne K (.ref cs.Away) (.ref cs.NoGuest) = some false
  i_Away_NoSize : PySem.W.kitOne K (.ref cs.Away) (.ref cs.NoSize) = some false
  i_Away_Twice : PySem.W.kitOne K (.ref cs.Away) (.ref cs.Twice) = some false
  i_Away_Away : PySem.W.kitOne K (.ref cs.Away) (.ref cs.Away) = some true
  i_Away_Full : PySem.W.kitOne K (.ref cs.Away) (.ref cs.Full) = some false
  m_Full : mg "Full" = some (.ref cs.Full)
  K_Full : ExcC K mg "Full" cs.Full
  x_Full : PySem.W.exmOne K (.ref cs.Full) (.ref cs.RingError) = some true
  v_Full : PySem.W.kitOne K (.ref cs.Full) (.type "ValueError") = some true
  i_Full_RingError : PySem.W.kitOne K (.ref cs.Full) (.ref cs.RingError) = some true
  i_Full_NoGuest : PySem.W.kitOne K (.ref cs.Full) (.ref cs.NoGuest) = some false
  i_Full_NoSize : PySem.W.kitOne K (.ref cs.Full) (.ref cs.NoSize) = some false
  i_Full_Twice : PySem.W.kitOne K (.ref cs.Full) (.ref cs.Twice) = some false
  i_Full_Away : PySem.W.kitOne K (.ref cs.Full) (.ref cs.Away) = some false
  i_Full_Full : PySem.W.kitOne K (.ref cs.Full) (.ref cs.Full) = some true
  n_ValueError : mg "ValueError" = none
  n_len : mg "len" = none
  n_list : mg "list" = none
  n_range : mg "range" = none
  n_zip : mg "zip" = none
  n_isinstance : mg "isinstance" = none
  n_int : mg "int" = none
  n_sorted : mg "sorted" = none
  n_bool : mg "bool" = none
  k_int_int : PySem.W.kitOne K (.type "int") (.type "int") = some true
  k_int_bool : PySem.W.kitOne K (.type "int") (.type "bool") = some false
  k_bool_int : PySem.W.kitOne K (.type "bool") (.type "int") = some true
  k_bool_bool : PySem.W.kitOne K (.type "bool") (.type "bool") = some true
  k_NoneType_bool : PySem.W.kitOne K (.type "NoneType") (.type "bool") = some false
  k_NoneType_int : PySem.W.kitOne K (.type "NoneType") (.type "int") = some false
  k_str_bool : PySem.W.kitOne K (.type "str") (.type "bool") = some false
  k_str_int : PySem.W.kitOne K (.type "str") (.type "int") = some false
  k_tuple_bool : PySem.W.kitOne K (.type "tuple") (.type "bool") = some false
  k_tuple_int : PySem.W.kitOne K (.type "tuple") (.type "int") = some false
  k_list_bool : PySem.W.kitOne K (.type "list") (.type "bool") = some false
  k_list_int : PySem.W.kitOne K (.type "list") (.type "int") = some false
  k_dict_bool : PySem.W.kitOne K (.type "dict") (.type "bool") = some false
  k_dict_int : PySem.W.kitOne K (.type "dict") (.type "int") = some false
  k_list_list : PySem.W.kitOne K (.type "list") (.type "list") = some true
  g_FACTOR : ∃ t, mg "FACTOR" = some (.int 40503 t)
  g_SPREAD : ∃ t, mg "SPREAD" = some (.int 65536 t)
  d_is_whole : ∃ f fd, Def K mg "is_whole" s_is_whole ["thing"] f fd
  d_is_guest : ∃ f fd, Def K mg "is_guest" s_is_guest ["thing"] f fd
  d_home : ∃ f fd, Def K mg "home" s_home ["guest", "many"] f fd
  d_carried : ∃ f fd, Def K mg "carried" s_carried ["guest", "at", "many"] f fd
  d_ahead : ∃ f fd, Def K mg "ahead" s_ahead ["one", "other", "at", "many"] f fd
  d_check_guest : ∃ f fd, Def K mg "check_guest" s_check_guest ["thing"] f fd
  d_passed : ∃ f fd, Def K mg "passed" s_passed ["seats", "guest"] f fd
  d_place_of : ∃ f fd, Def K mg "place_of" s_place_of ["seats", "guest"] f fd
  d_seat_in : ∃ f fd, Def K mg "seat_in" s_seat_in ["seats", "guest"] f fd
  d_put : ∃ f fd, Def K mg "put" s_put ["seats", "guest"] f fd
  d_seat_out : ∃ f fd, Def K mg "seat_out" s_seat_out ["seats", "guest"] f fd
  d_l_cell_at : ∃ f fd, Def K mg "_law_cell_at" s_l_cell_at ["_law_script", "_law_k"] f fd
  d_l_whole : ∃ f fd, Def K mg "_law_whole" s_l_whole ["_law_found"] f fd
  d_l_home : ∃ f fd, Def K mg "_law_home" s_l_home ["_law_guest_here", "_law_many"] f fd
  d_l_base : ∃ f fd, Def K mg "_law_base" s_l_base ["_law_cell"] f fd
  d_l_guest : ∃ f fd, Def K mg "_law_guest" s_l_guest ["_law_cell", "_law_base_here"] f fd
  d_l_drawn : ∃ f fd, Def K mg "_law_drawn" s_l_drawn ["_law_cells", "_law_base_here"] f fd
  d_l_put : ∃ f fd, Def K mg "_law_put" s_l_put ["_law_seats", "_law_guest_here"] f fd
  d_l_settled : ∃ f fd, Def K mg "_law_settled" s_l_settled ["_law_seats", "_law_many", "_law_guests"] f fd
  d_l_same : ∃ f fd, Def K mg "_law_same" s_l_same ["_law_found", "_law_seats"] f fd
  d_l_odd : ∃ f fd, Def K mg "_law_odd" s_l_odd ["_law_cell"] f fd
  d_l_refused : ∃ f fd, Def K mg "_law_refused" s_l_refused ["_law_seats", "_law_guest_here"] f fd
seal L2.PE L2.PT L2.PW L2.PA L2.PS L2.PSs L2.PG L2.PGs L2.PI L2.PC L2.PK L2.PO L2.PIfs L2.PSX L2.PSsX L2.PEX L2.PTX
abbrev CXL : CXT := CX0
abbrev lawK : Nat := 14
abbrev LHP : List Str := ["_law_guest_here", "_law_many"]
section
variable {P : Program} {w : World} {K : PySem.W.Frag} {mg : Str → Option Value} {base : Heap} {f : Addr} {fd : FuncData} {cs : Cs}

theorem ok_home (D : Def K mg "home" s_home ["guest", "many"] f fd) (T : Txt K mg cs) : FnOk P w K mg base CX0 1 f fd ["guest", "many"] spHome := by
  refine D.F.ok sc_home (fun vs H Q E h => ?_) (fun cdv A outer s H vs Q E hr h => ?_)
  · obtain ⟨g, m, rfl, _⟩ := h
    rfl
  · obtain ⟨g, m, rfl, hm, q⟩ := h
    obtain ⟨t1, g_FACTOR⟩ := T.g_FACTOR
    obtain ⟨t2, g_SPREAD⟩ := T.g_SPREAD
    refine ⟨_, (pss_one (ps_ret (pe_op op_mod (pe_op op_mod (pe_op op_add (pe_op op_mul (pv 0) (pe_gint g_FACTOR)) (pe_op op_fdiv (pv 0) (pe_gint g_SPREAD))) (pe_gint g_SPREAD)) (pv 1)))), ?_⟩
    tm_at "rd"
    exact q
theorem ok_carried (D : Def K mg "carried" s_carried ["guest", "at", "many"] f fd) (T : Txt K mg cs) : FnOk P w K mg base CX0 2 f fd ["guest", "at", "many"] spCarried := by
  obtain ⟨f1, fd1, D_home⟩ := T.d_home
  have G_home : FnOk P w K mg base CX0 1 f1 fd1 _ _ := ok_home D_home T
  refine D.F.ok sc_carried (fun vs H Q E h => ?_) (fun cdv A outer s H vs Q E hr1 h => ?_)
  · obtain ⟨g, p, m, rfl, _⟩ := h
    rfl
  · obtain ⟨g, p, m, rfl, hm, q⟩ := h
    refine ⟨_, (pss_one (ps_ret (pe_op op_mod (pe_op op_sub (pv 1) (pe_def D_home G_home hr1 (pa_c (pv 0) (pa_c (pv 2) pa_nil)))) (pv 2)))), ?_⟩
    tm_at "rd"
    refine rd_home hm ?_
    tm_at "rd"
    exact q
theorem ok_ahead (D : Def K mg "ahead" s_ahead ["one", "other", "at", "many"] f fd) (T : Txt K mg cs) : FnOk P w K mg base CX0 3 f fd ["one", "other", "at", "many"] spAhead := by
  obtain ⟨f1, fd1, D_carried⟩ := T.d_carried
  have G_carried : FnOk P w K mg base CX0 2 f1 fd1 _ _ := ok_carried D_carried T
  refine D.F.ok sc_ahead (fun vs H Q E h => ?_) (fun cdv A outer s H vs Q E hr1 h => ?_)
  · obtain ⟨x, y, p, m, rfl, _⟩ := h
    rfl
  · obtain ⟨x, y, p, m, rfl, hm, q⟩ := h
    have nd := sc_ahead.nd
    refine ⟨_, (pss_cons (ps_set (i := 4) nd rfl (Or.inl rfl) (pe_def D_carried G_carried hr1 (pa_c (pv 0) (pa_c (pv 2) (pa_c (pv 3) pa_nil)))))
      (pss_cons (ps_set (i := 5) nd rfl (Or.inl rfl) (pe_def D_carried G_carried hr1 (pa_c (pv 1) (pa_c (pv 2) (pa_c (pv 3) pa_nil)))))
      (pss_cons (ps_if (pt_cmpR op_eq (pv 4) (pv 5) (nomark _)) (pss_one (ps_ret (pe_cmpR op_lt (pv 0) (pv 1) (nomark _)))) pss_nil)
      (pss_one (ps_ret (pe_cmpR op_gt (pv 4) (pv 5) (nomark _))))))), ?_⟩
    tm_at "rd"
    refine rd_carried hm ?_
    tm_at "rd"
    refine rd_carried hm ?_
    tm_at "rd"
    refine iteD (fun e => ?_) (fun e => ?_)
    · tm_at "rd"
      have : aheadF x y p m = decide (x < y) := by
        unfold aheadF
        rw [e, decide_eq_false (Int.lt_irrefl _), decide_eq_true rfl]
        rfl
      rw [this] at q
      exact q
    · tm_at "rd"
      have : aheadF x y p m = decide (far y p m < far x p m) := by
        unfold aheadF
        rw [decide_eq_false e, Bool.false_and, Bool.or_false]
      rw [this] at q
      exact q

theorem ok_l_home (D : Def K mg "_law_home" s_l_home LHP f fd) (T : Txt K mg cs) : FnOk P w K mg base CX0 1 f fd LHP spHome := by
  refine D.F.ok sc_l_home (fun vs H Q E h => ?_) (fun cdv A outer s H vs Q E hr h => ?_)
  · obtain ⟨g, m, rfl, _⟩ := h
    rfl
  · obtain ⟨g, m, rfl, hm, q⟩ := h
    refine ⟨_, (pss_one (ps_ret (pe_op op_mod (pe_op op_mod (pe_op op_add (pe_op op_mul (pv 0) pe_int) (pe_op op_fdiv (pv 0) pe_int)) pe_int) (pv 1)))), ?_⟩
    tm_at "rd"
    exact q
theorem ok_cell (D : Def K mg "_law_cell_at" s_l_cell_at ["_law_script", "_law_k"] f fd) (T : Txt K mg cs) : FnOk P w K mg base CX0 1 f fd ["_law_script", "_law_k"] (spCell K) := by
  refine D.F.ok sc_l_cell_at (fun vs H Q E h => ?_) (fun cdv A outer s H vs Q E hr h => ?_)
  · obtain ⟨a, ns, k, rfl, _⟩ := h
    rfl
  · obtain ⟨a, ns, k, rfl, hS, h0, q⟩ := h
    obtain ⟨j, rfl⟩ := Int.eq_ofNat_of_zero_le h0
    refine ⟨_, (pss_cons (ps_if (pt_cmpR op_lt (pv 1) (pe_b call_len_seq T.n_len PySem.boot_len (pa_c (pv 0) pa_nil)) (nomark _)) (pss_one (ps_ret (pe_ix ix_list (pv 0) (pv 1) (fun _ _ => rfl)))) pss_nil)
      (pss_one (ps_ret pe_int))), ?_⟩
    tm_at "rd"
    refine ⟨_, _, rfl, .inl hS, ?_⟩
    tm_at "rd"
    refine iteD (fun hc => ?_) (fun hc => ?_)
    · rw [List.length_map] at hc
      have hj : j < ns.length := by omega
      tm_at "rd"
      refine rd_ixL hS (atI_ints hj) ?_
      have : cellF ns (j : Int) = ns[j] := by simp [cellF, hj]
      rw [← this]
      exact q
    · rw [List.length_map] at hc
      have : cellF ns (j : Int) = 0 := by
        unfold cellF
        rw [Int.toNat_natCast]
        simp [List.getD, List.getElem?_eq_none (by omega : ns.length ≤ j)]
      rw [this] at q
      exact q
theorem ok_whole (D : Def K mg "_law_whole" s_l_whole ["_law_found"] f fd) (T : Txt K mg cs) : FnOk P w K mg base CX0 1 f fd ["_law_found"] spWhole := by
  refine D.F.ok sc_l_whole (fun vs H Q E h => ?_) (fun cdv A outer s H vs Q E hr h => ?_)
  · obtain ⟨i, rfl, _⟩ := h
    rfl
  · obtain ⟨i, rfl, q⟩ := h
    refine ⟨_, (pss_one (ps_ret (pe_and (pe_b call_isinst T.n_isinstance PyProof.Rows.boot_isinstance (pa_c (pv 0) (pa_c (pe_ty T.n_int PyProof.Rows.boot_int) pa_nil))) (pe_one (pe_not (pe_b call_isinst T.n_isinstance PyProof.Rows.boot_isinstance (pa_c (pv 0) (pa_c (pe_ty T.n_bool PyProof.Rows.boot_bool) pa_nil)))))))), ?_⟩
    tm_at "rd"
    refine ⟨_, _, _, _, rfl, .int i, T.k_int_int, ?_⟩
    tm_at "rd"
    refine iteT ?_
    tm_at "rd"
    refine ⟨_, _, _, _, rfl, .int i, T.k_int_bool, ?_⟩
    tm_at "rd"
    exact q

theorem ok_iw (D : Def K mg "is_whole" s_is_whole ["thing"] f fd) (T : Txt K mg cs) : FnOk P w K mg base CX0 1 f fd ["thing"] (spIW K) := by
  refine D.F.ok sc_is_whole (fun vs H Q E h => ?_) (fun cdv A outer s H vs Q E hr h => ?_)
  · rcases h with ⟨i, rfl, _⟩ | ⟨x, rfl, _⟩ <;> rfl
  · rcases h with ⟨i, rfl, q⟩ | ⟨x, rfl, od, q⟩
    all_goals refine ⟨_, (pss_one (ps_ret (pe_and (pe_b call_isinst T.n_isinstance PyProof.Rows.boot_isinstance (pa_c (pv 0) (pa_c (pe_ty T.n_int PyProof.Rows.boot_int) pa_nil))) (pe_one (pe_not (pe_b call_isinst T.n_isinstance PyProof.Rows.boot_isinstance (pa_c (pv 0) (pa_c (pe_ty T.n_bool PyProof.Rows.boot_bool) pa_nil)))))))), ?_⟩
    · tm_at "rd"
      refine ⟨_, _, _, _, rfl, .int i, T.k_int_int, ?_⟩
      tm_at "rd"
      refine iteT ?_
      tm_at "rd"
      refine ⟨_, _, _, _, rfl, .int i, T.k_int_bool, ?_⟩
      tm_at "rd"
      exact q
    · rcases od with ⟨b, rfl⟩ | ⟨t, ty, k1, k2⟩
      · tm_at "rd"
        refine ⟨_, _, _, _, rfl, .bl b, T.k_bool_int, ?_⟩
        tm_at "rd"
        refine iteT ?_
        tm_at "rd"
        refine ⟨_, _, _, _, rfl, .bl b, T.k_bool_bool, ?_⟩
        tm_at "rd"
        exact q
      · tm_at "rd"
        refine ⟨_, _, _, _, rfl, ty, k2, ?_⟩
        tm_at "rd"
        exact iteF q
theorem ok_is (D : Def K mg "is_guest" s_is_guest ["thing"] f fd) (T : Txt K mg cs) : FnOk P w K mg base CX0 2 f fd ["thing"] (spIs K) := by
  obtain ⟨f1, fd1, D_is_whole⟩ := T.d_is_whole
  have G_is_whole : FnOk P w K mg base CX0 1 f1 fd1 _ _ := ok_iw D_is_whole T
  refine D.F.ok sc_is_guest (fun vs H Q E h => ?_) (fun cdv A outer s H vs Q E hr1 h => ?_)
  · rcases h with ⟨i, rfl, _⟩ | ⟨x, rfl, _⟩ <;> rfl
  · rcases h with ⟨i, rfl, q⟩ | ⟨x, rfl, od, q⟩
    all_goals refine ⟨_, (pss_one (ps_ret (pe_and (pe_def D_is_whole G_is_whole hr1 (pa_c (pv 0) pa_nil)) (pe_one (pe_chain op_le op_lt pe_int (pv 0) (pe_op op_pow pe_int pe_int)))))), ?_⟩
    · tm_at "rd"
      refine .inl ⟨i, rfl, ?_⟩
      tm_at "rd"
      refine iteT ?_
      tm_at "rd"
      refine iteD (fun h0 => ?_) (fun h0 => ?_)
      · tm_at "rd"
        rw [p60]
        rw [show decide (0 ≤ i ∧ i < P60) = decide (i < P60) by simp [h0]] at q
        exact q
      · rw [show decide (0 ≤ i ∧ i < P60) = false by simp [h0]] at q
        exact q
    · tm_at "rd"
      refine .inr ⟨x, rfl, od, ?_⟩
      tm_at "rd"
      exact iteF q
theorem ok_check (D : Def K mg "check_guest" s_check_guest ["thing"] f fd) (T : Txt K mg cs) : FnOk P w K mg base (CXr P w) 3 f fd ["thing"] (spCheck K cs.NoGuest) := by
  obtain ⟨f1, fd1, D_is_guest⟩ := T.d_is_guest
  have G_is_guest : FnOk P w K mg base CX0 2 f1 fd1 _ _ := ok_is D_is_guest T
  refine D.F.okX sc_check_guest (fun vs H Q E h => ?_) (fun cdv A outer s H vs Q E hr1 h => ?_)
  · rcases h with ⟨i, rfl, _⟩ | ⟨x, rfl, _⟩ <;> rfl
  · rcases h with ⟨i, rfl, h0, h1, q⟩ | ⟨x, rfl, od, q⟩
    all_goals refine ⟨_, (ssx_one (sx_if (pt_not (pt_val (pe_def D_is_guest G_is_guest hr1 (pa_c (pv 0) pa_nil)))) (ssx_one (sx_raise ownFr_cx rfl T.K_NoGuest (pa_c pe_str pa_nil))) ssx_nil)), ?_⟩
    · tm_at "rd"
      refine .inl ⟨i, rfl, ?_⟩
      rw [decide_eq_true (show 0 ≤ i ∧ i < P60 from ⟨h0, h1⟩)]
      tm_at "rd"
      exact iteF q
    · rcases od with ⟨i, rfl, hn⟩ | od
      · tm_at "rd"
        refine .inl ⟨i, rfl, ?_⟩
        rw [decide_eq_false hn]
        tm_at "rd"
        refine iteT ?_
        tm_at "rd"
        exact ⟨(by show 1 ≤ sizeLine; decide), q⟩
      · tm_at "rd"
        refine .inr ⟨x, rfl, od, ?_⟩
        tm_at "rd"
        refine iteT ?_
        tm_at "rd"
        exact ⟨(by show 1 ≤ sizeLine; decide), q⟩
theorem ok_passed (D : Def K mg "passed" s_passed ["seats", "guest"] f fd) (T : Txt K mg cs) : FnOk P w K mg base CX0 4 f fd ["seats", "guest"] (spPassed K) := by
  obtain ⟨f1, fd1, D_home⟩ := T.d_home
  have G_home : FnOk P w K mg base CX0 3 f1 fd1 _ _ := (ok_home D_home T).mono (by decide)
  obtain ⟨f2, fd2, D_ahead⟩ := T.d_ahead
  have G_ahead : FnOk P w K mg base CX0 3 f2 fd2 _ _ := ok_ahead D_ahead T
  refine D.F.ok sc_passed (fun vs H Q E h => ?_) (fun cdv A outer s H vs Q E hr1 h => ?_)
  · obtain ⟨a, s, g, rfl, _⟩ := h
    rfl
  · obtain ⟨a, t, g, rfl, hS, hne, q⟩ := h
    have nd := sc_passed.nd
    obtain ⟨e, he, hn⟩ := none_mem.mp hne
    have n0 : 0 < t.length := by omega
    refine ⟨_, (pss_cons (ps_set (i := 2) nd rfl (Or.inl rfl) (pe_b call_len_seq T.n_len PySem.boot_len (pa_c (pv 0) pa_nil)))
      (pss_cons (ps_set (i := 3) nd rfl (Or.inl rfl) pe_int)
      (pss_cons (ps_set (i := 4) nd rfl (Or.inl rfl) (pe_def D_home G_home hr1 (pa_c (pv 1) (pa_c (pv 2) pa_nil))))
      (pss_cons (ps_while PassesOwn.never ((pw_and (pt_cmpR op_notN (pe_ix ix_list (pv 0) (pv 4) (fun _ _ => rfl)) pe_non (nomark _)) (pw_and1 (pt_val (pe_def D_ahead G_ahead hr1 (pa_c (pe_ix ix_list (pv 0) (pv 4) (fun _ _ => rfl)) (pa_c (pv 1) (pa_c (pv 4) (pa_c (pv 2) pa_nil))))))))).pt (pss_cons (ps_aug (i := 3) nd rfl (Or.inl rfl) pe_int ip_add)
      (pss_one (ps_set (i := 4) nd rfl (Or.inl rfl) (pe_op op_mod (pe_op op_add (pv 4) pe_int) (pv 2))))))
      (pss_one (ps_ret (pv 3))))))), ?_⟩
    tm_at "rd"
    refine ⟨_, _, rfl, .inl hS, ?_⟩
    rw [svs_len]
    tm_at "rd"
    refine ⟨fun m σ H' => H = H' ∧ ∃ p c k : Nat, σ = [some (.ref a), some (.int g), some (.int (t.length : Int)), some (.int (c : Int)), some (.int (p : Int))] ∧ p < t.length ∧ dist t.length p e = m ∧ m < k ∧ (((hm t.length g : Nat) : Int) + (c : Int)) % (t.length : Int) = (p : Int) ∧ look t.length (hm t.length) t.length t g (hm t.length g) 0 = look t.length (hm t.length) k t g p c,
      ⟨_, rfl, hm t.length g, 0, t.length, rfl, hm_lt n0 g, rfl, dist_lt (hm_lt n0 g) he, ?_, rfl⟩, ?_⟩
    · have := hm_lt n0 g
      rw [Int.natCast_zero, Int.add_zero]
      exact Int.emod_eq_of_lt (by omega) (by omega)
    · rintro m σ H' ⟨rfl, p, c, k, rfl, hp, hd, hk, hpos, hL⟩
      obtain ⟨k, rfl⟩ : ∃ k', k = k' + 1 := ⟨k - 1, by omega⟩
      tm_at "rd"
      refine rd_ixL hS (svs_at hp) ?_
      tm_at "rd"
      cases hs : sat t p with
      | none =>
        refine iteN (fun z => absurd rfl z) (fun _ => iteF ?_)
        tm_at "rd"
        refine q c p hp hpos ?_
        rw [hL, look_none hs, if_neg (by rw [hs]; exact fun z => nomatch z)]
      | some y =>
        rw [sv_some]
        refine iteN (fun _ => ?_) (fun z => nomatch z)
        tm_at "rd"
        refine rd_ixL hS (svs_at hp) ?_
        rw [hs, sv_some]
        tm_at "rd"
        refine iteD (fun ha => ?_) (fun ha => ?_)
        · have hy : y ≠ g := ahead_ne ha
          have hpe : p ≠ e := fun z => by rw [z, hn] at hs; cases hs
          have hstep := dist_to_nxt hp he hpe
          refine ⟨_, fun _ _ h => h, ?_⟩
          tm_at "rd"
          rw [on_eq hp]
          refine ⟨dist t.length (nxt t.length p) e, by omega, rfl, nxt t.length p, c + 1, k, ?_, nxt_lt hp, rfl, by omega, ?_, ?_⟩
          · rw [Int.natCast_add]
            rfl
          · rw [← on_eq hp, ← hpos, Int.emod_add_emod, Int.natCast_add, Int.add_assoc]
            rfl
          · rw [hL, look_on hs hy ha]
        · tm_at "rd"
          refine q c p hp hpos ?_
          by_cases hy : y = g
          · subst hy
            rw [hL, look_here hs, if_pos hs]
          · rw [hL, look_end hs hy ha, if_neg (by rw [hs]; exact fun z => hy (Option.some.inj z))]
theorem ok_place (D : Def K mg "place_of" s_place_of ["seats", "guest"] f fd) (T : Txt K mg cs) : FnOk P w K mg base (CXr P w) 5 f fd ["seats", "guest"] (spPlace K cs.NoGuest) := by
  obtain ⟨f1, fd1, D_home⟩ := T.d_home
  have G_home : FnOk P w K mg base CX0 4 f1 fd1 _ _ := (ok_home D_home T).mono (by decide)
  obtain ⟨f2, fd2, D_passed⟩ := T.d_passed
  have G_passed : FnOk P w K mg base CX0 4 f2 fd2 _ _ := ok_passed D_passed T
  obtain ⟨f3, fd3, D_check_guest⟩ := T.d_check_guest
  have G_check_guest : FnOk P w K mg base (CXr P w) 4 f3 fd3 _ _ := (ok_check D_check_guest T).mono (by decide)
  refine D.F.okX sc_place_of (fun vs H Q E h => ?_) (fun cdv A outer s H vs Q E hr1 h => ?_)
  · rcases h with ⟨a, t, g, rfl, _⟩ | ⟨a, x, rfl, _⟩ <;> rfl
  · have nd := sc_place_of.nd
    rcases h with ⟨a, t, g, rfl, hS, hne, g0, g1, q⟩ | ⟨a, x, rfl, bad, q⟩
    all_goals refine ⟨_, (ssx_cons (sx_expr (pex_def ownFr_cx D_check_guest G_check_guest hr1 (pa_c (pv 1) pa_nil)))
      (ssx_cons (sx (ps_set (i := 2) nd rfl (Or.inl rfl) (pe_b call_len_seq T.n_len PySem.boot_len (pa_c (pv 0) pa_nil))))
      (ssx_cons (sx (ps_set (i := 3) nd rfl (Or.inl rfl) (pe_op op_mod (pe_op op_add (pe_def D_home G_home hr1 (pa_c (pv 1) (pa_c (pv 2) pa_nil))) (pe_def D_passed G_passed hr1 (pa_c (pv 0) (pa_c (pv 1) pa_nil)))) (pv 2))))
      (ssx_one (sx (ps_ret (pe_ifExp (pt_cmpR op_eq (pe_ix ix_list (pv 0) (pv 3) (fun _ _ => rfl)) (pv 1) (nomark _)) (pv 3) pe_non))))))), ?_⟩
    · have n0 : 0 < t.length := List.length_pos_of_mem hne
      tm_at "rd"
      refine .inl ⟨g, rfl, g0, g1, ?_⟩
      tm_at "rd"
      refine ⟨_, _, rfl, .inl hS, ?_⟩
      rw [svs_len]
      tm_at "rd"
      refine ⟨a, t, g, rfl, hS, hne, fun c p hp hpos hL => ?_⟩
      tm_at "rd"
      rw [hpos]
      refine rd_ixL hS (svs_at hp) ?_
      tm_at "rd"
      have e : placeV t g = if sat t p = some g then .int (p : Int) else .non := by
        unfold placeV
        rw [hL]
        by_cases z : sat t p = some g
        · rw [if_pos z, if_pos z]
        · rw [if_neg z, if_neg z]
      rw [e] at q
      cases hs : sat t p with
      | none =>
        rw [hs] at q
        refine ⟨rfl, ?_⟩
        tm_at "rd"
        refine iteDF (fun z => nomatch z) ?_
        tm_at "rd"
        rw [if_neg (fun z => nomatch z)] at q
        exact q
      | some y =>
        rw [hs] at q
        rw [sv_some]
        tm_at "rd"
        refine iteD (fun z => ?_) (fun z => ?_)
        · tm_at "rd"
          rw [if_pos (by rw [z])] at q
          exact q
        · tm_at "rd"
          rw [if_neg (fun h => z (Option.some.inj h))] at q
          exact q
    · tm_at "rd"
      exact .inr ⟨x, rfl, bad, q⟩

theorem ok_put (D : Def K mg "put" s_put ["seats", "guest"] f fd) (T : Txt K mg cs) : FnOk P w K mg base CX0 4 f fd ["seats", "guest"] spPut := by
  obtain ⟨f1, fd1, D_home⟩ := T.d_home
  have G_home : FnOk P w K mg base CX0 3 f1 fd1 _ _ := (ok_home D_home T).mono (by decide)
  obtain ⟨f2, fd2, D_ahead⟩ := T.d_ahead
  have G_ahead : FnOk P w K mg base CX0 3 f2 fd2 _ _ := ok_ahead D_ahead T
  refine D.F.ok sc_put (fun vs H Q E h => ?_) (fun cdv A outer s H vs Q E hr1 h => ?_)
  · obtain ⟨a, s, x, rfl, _⟩ := h
    rfl
  · obtain ⟨a, t, x, rfl, hH, ⟨e, he, hn⟩, q⟩ := h
    have nd := sc_put.nd
    refine ⟨_, (pss_cons (ps_set (i := 2) nd rfl (Or.inl rfl) (pe_b call_len_seq T.n_len PySem.boot_len (pa_c (pv 0) pa_nil)))
      (pss_cons (ps_set (i := 3) nd rfl (Or.inl rfl) (pv 1))
      (pss_cons (ps_set (i := 4) nd rfl (Or.inl rfl) (pe_def D_home G_home hr1 (pa_c (pv 3) (pa_c (pv 2) pa_nil))))
      (pss_cons (ps_while PassesOwn.never (pt_cmpR op_notN (pe_ix ix_list (pv 0) (pv 4) (fun _ _ => rfl)) pe_non (nomark _)) (pss_cons (ps_set (i := 5) nd rfl (Or.inl rfl) (pe_ix ix_list (pv 0) (pv 4) (fun _ _ => rfl)))
      (pss_cons (ps_join (ps_if (pt_val (pe_def D_ahead G_ahead hr1 (pa_c (pv 3) (pa_c (pv 5) (pa_c (pv 4) (pa_c (pv 2) pa_nil)))))) (pss_cons (ps_asg (pv 3) (pg_sub (pv 0) (pv 4) set_list))
      (pss_one (ps_set (i := 3) nd rfl (Or.inl rfl) (pv 5)))) pss_nil))
      (pss_one (ps_set (i := 4) nd rfl (Or.inl rfl) (pe_op op_mod (pe_op op_add (pv 4) pe_int) (pv 2)))))))
      (pss_one (ps_asg (pv 3) (pg_sub (pv 0) (pv 4) set_list))))))), ?_⟩
    have n0 : 0 < t.length := by omega
    tm_at "rd"
    refine ⟨_, _, rfl, .inl (SqL.of hH), ?_⟩
    rw [svs_len]
    tm_at "rd"
    refine ⟨fun m σ H' => ∃ (s' : Seats) (x' : Int) (p' k : Nat) (v : Option V), σ = [some (.ref a), some (.int x), some (.int (t.length : Int)), some (.int x'), some (.int (p' : Int)), v] ∧ H' a = some (.lst (svs s')) ∧ (∀ o, upd H' a o = upd H a o) ∧ s'.length = t.length ∧ p' < t.length ∧ sat s' e = none ∧ dist t.length p' e = m ∧ m < k ∧
      put t.length (hm t.length) k s' x' p' = comes t.length (hm t.length) t x, ⟨_, t, x, hm t.length x, t.length, _, rfl, hH, fun _ => rfl, rfl, hm_lt n0 x, hn, rfl, dist_lt (hm_lt n0 x) he, rfl⟩, ?_⟩
    rintro m σ H' ⟨s', x', p', k, v, rfl, hH', up, hl, hp, hn', hd, hk, hR⟩
    obtain ⟨k, rfl⟩ : ∃ k', k = k' + 1 := ⟨k - 1, by omega⟩
    tm_at "rd"
    refine rd_ixL (SqL.of hH') (svs_at (by omega)) ?_
    tm_at "rd"
    cases hs : sat s' p' with
    | none =>
      refine iteN (fun z => absurd rfl z) (fun _ => ?_)
      tm_at "rd"
      refine rd_setL hH' (ixN_nat (by rw [svs_len]; omega)) ?_
      rw [up, svs_setI, ← put_none (n := t.length) (h := hm t.length) (k := k) hs, hR]
      exact q
    | some y =>
      have hpe : p' ≠ e := fun z => by rw [z, hn'] at hs; cases hs
      have hstep := dist_to_nxt hp he hpe
      refine iteN (fun _ => ?_) (fun z => nomatch z)
      refine ⟨_, fun _ _ h => h, ?_⟩
      tm_at "rd"
      refine rd_ixL (SqL.of hH') (svs_at (by omega)) ?_
      rw [hs, sv_some]
      tm_at "rd"
      refine rd_join (fun σ H2 => ∃ (s2 : Seats) (x2 : Int) (v : Option V), σ = [some (.ref a), some (.int x), some (.int (t.length : Int)), some (.int x2), some (.int (p' : Int)), v] ∧ H2 a = some (.lst (svs s2)) ∧ (∀ o, upd H2 a o = upd H a o) ∧ s2.length = t.length ∧ sat s2 e = none ∧ put t.length (hm t.length) k s2 x2 (nxt t.length p') = comes t.length (hm t.length) t x) ?_ ?_
      · tm_at "rd"
        refine iteD (fun ha => ?_) (fun ha => ?_)
        · tm_at "rd"
          refine rd_setL hH' (ixN_nat (by rw [svs_len]; omega)) ?_
          rw [svs_setI]
          tm_at "rd"
          refine ⟨_, _, _, rfl, upd_same, fun o => by rw [upd_upd, up], by rw [List.length_set]; exact hl, ?_, ?_⟩
          · rw [sat_ne (by omega) (Ne.symm hpe)]
            exact hn'
          · rw [← put_yes hs ha]
            exact hR
        · tm_at "rd"
          exact ⟨_, _, _, rfl, hH', up, hl, hn', by rw [← put_no hs ha]; exact hR⟩
      · rintro σ2 H2 ⟨s2, x2, v2, rfl, hH2, up2, hl2, hn2, hR2⟩
        tm_at "rd"
        rw [on_eq hp]
        exact ⟨dist t.length (nxt t.length p') e, by omega, s2, x2, nxt t.length p', k, _, rfl, hH2, up2, hl2, nxt_lt hp, hn2, rfl, by omega, hR2⟩
theorem ok_seat_in (D : Def K mg "seat_in" s_seat_in ["seats", "guest"] f fd) (T : Txt K mg cs) : FnOk P w K mg base (CXr P w) 6 f fd ["seats", "guest"] (spSeatIn K cs.NoGuest cs.Twice cs.Full) := by
  obtain ⟨f1, fd1, D_place_of⟩ := T.d_place_of
  have G_place_of : FnOk P w K mg base (CXr P w) 5 f1 fd1 _ _ := ok_place D_place_of T
  obtain ⟨f2, fd2, D_put⟩ := T.d_put
  have G_put : FnOk P w K mg base CX0 5 f2 fd2 _ _ := (ok_put D_put T).mono (by decide)
  refine D.F.okX sc_seat_in (fun vs H Q E h => ?_) (fun cdv A outer s H vs Q E hr1 h => ?_)
  · rcases h with ⟨a, t, g, rfl, _⟩ | ⟨a, x, rfl, _⟩ <;> rfl
  · have nd := sc_seat_in.nd
    rcases h with ⟨a, t, g, rfl, hS, St, hl, g0, g1, q1, q2, q3⟩ | ⟨a, x, rfl, bad, q⟩
    all_goals refine ⟨_, (ssx_cons (sx_ifX (ptx_notN (pex_def ownFr_cx D_place_of G_place_of hr1 (pa_c (pv 0) (pa_c (pv 1) pa_nil)))) (ssx_one (sx_raise ownFr_cx rfl T.K_Twice (pa_c pe_str pa_nil))) ssx_nil)
      (ssx_cons (sx_if (pt_cmpR op_lt (pe_bm PySem.F.plainAttrs_list PySem.F.slot_list_count PySem.F.type_list_count mt_count (pv 0) (pa_c pe_non pa_nil)) pe_int (nomark _)) (ssx_one (sx_raise ownFr_cx rfl T.K_Full (pa_c pe_str pa_nil))) ssx_nil)
      (ssx_cons (sx (ps_set (i := 2) nd rfl (Or.inl rfl) (pe_t call_list_of T.n_list PyProof.Rows.boot_list (pa_c (pv 0) pa_nil))))
      (ssx_cons (sx (ps_expr (pe_def D_put G_put hr1 (pa_c (pv 2) (pa_c (pv 1) pa_nil)))))
      (ssx_one (sx (ps_ret (pv 2)))))))), ?_⟩
    · tm_at "rd"
      refine .inl ⟨a, t, g, rfl, hS, settled_none St, g0, g1, ?_⟩
      by_cases hg : g ∈ who t
      · obtain ⟨p, _, _, e⟩ := place_in St hg
        rw [e]
        refine iteN (fun _ => ?_) (fun z => nomatch z)
        tm_at "rd"
        exact ⟨(by show 1 ≤ sizeLine; decide), q1 hg⟩
      · rw [place_out St hg]
        refine iteN (fun z => absurd rfl z) (fun _ => ?_)
        tm_at "rd"
        refine ⟨rd_tyL rfl hS, ?_⟩
        tm_at "rd"
        refine ⟨a, _, _, rfl, rfl, hS, svs_flat _, rfl, ?_⟩
        rw [count_none]
        have hc := who_len t
        tm_at "rd"
        refine iteD (fun hlt => ?_) (fun hge => ?_)
        · tm_at "rd"
          exact ⟨(by show 1 ≤ sizeLine; decide), q2 hg (by omega)⟩
        · tm_at "rd"
          refine ⟨_, _, rfl, .inl hS, fun l hl0 => ?_⟩
          tm_at "rd"
          refine ⟨l, t, g, rfl, upd_same, St.empty, ?_⟩
          rw [upd_upd]
          tm_at "rd"
          exact q3 hg (by omega) l hl0
    · tm_at "rd"
      exact .inr ⟨a, x, rfl, bad, q⟩

theorem ok_base7 (D : Def K mg "_law_base" s_l_base ["_law_cell"] f fd) (T : Txt K mg cs) : FnOk P w K mg base CX0 1 f fd ["_law_cell"] spBase7 := by
  refine D.F.ok sc_l_base (fun vs H Q E h => ?_) (fun cdv A outer s H vs Q E hr h => ?_)
  · obtain ⟨c, rfl, _⟩ := h
    rfl
  · obtain ⟨c, rfl, q⟩ := h
    have hP : P58 = 10000000000000000000000000000000000000000000000000000000000 := rfl
    refine ⟨_, (pss_cons (ps_if (pt_cmpR op_eq (pe_op op_mod (pv 0) pe_int) pe_int (nomark _)) (pss_one (ps_ret (pe_op op_mod (pe_op op_fdiv (pv 0) pe_int) (pe_op op_pow pe_int pe_int)))) pss_nil)
      (pss_one (ps_ret (pe_op op_mod (pe_op op_fdiv (pv 0) pe_int) pe_int)))), ?_⟩
    tm_at "rd"
    refine iteD (fun _ => ?_) (fun _ => ?_)
    · tm_at "rd"
      show Q (.int (c / 2 % 10 ^ (58 : Int).toNat)) H
      rw [p58]
      exact q _ (Int.emod_nonneg _ (by decide)) (Int.emod_lt_of_pos _ (by decide))
    · tm_at "rd"
      have h1 := Int.emod_nonneg (c / 2) (show (70001 : Int) ≠ 0 by decide)
      have h2 := Int.emod_lt_of_pos (c / 2) (show (0 : Int) < 70001 by decide)
      exact q _ (by omega) (by omega)
theorem ok_guest7 (D : Def K mg "_law_guest" s_l_guest ["_law_cell", "_law_base_here"] f fd) (T : Txt K mg cs) : FnOk P w K mg base CX0 1 f fd ["_law_cell", "_law_base_here"] spGuest7 := by
  refine D.F.ok sc_l_guest (fun vs H Q E h => ?_) (fun cdv A outer s H vs Q E hr h => ?_)
  · obtain ⟨c, b, rfl, _⟩ := h
    rfl
  · obtain ⟨c, b, rfl, b0, b1, q⟩ := h
    have nd := sc_l_guest.nd
    have hP : P58 = 10000000000000000000000000000000000000000000000000000000000 := rfl
    have hP6 : P60 = 1000000000000000000000000000000000000000000000000000000000000 := rfl
    have hP4 : P40 = 10000000000000000000000000000000000000000 := rfl
    refine ⟨_, (pss_cons (ps_set (i := 2) nd rfl (Or.inl rfl) (pe_op op_fdiv (pv 0) pe_int))
      (pss_cons (ps_if (pt_cmpR op_eq (pe_op op_mod (pv 0) pe_int) pe_int (nomark _)) (pss_one (ps_ret (pe_op op_mod (pv 2) (pe_op op_pow pe_int pe_int)))) pss_nil)
      (pss_cons (ps_if (pt_cmpR op_eq (pe_op op_mod (pv 0) pe_int) pe_int (nomark _)) (pss_one (ps_ret (pe_op op_mod (pv 2) pe_int))) pss_nil)
      (pss_cons (ps_if (pt_cmpR op_eq (pe_op op_mod (pv 0) pe_int) pe_int (nomark _)) (pss_one (ps_ret (pe_op op_add (pv 1) (pe_op op_mul (pe_op op_pow pe_int pe_int) (pe_op op_mod (pv 2) (pe_op op_pow pe_int pe_int)))))) pss_nil)
      (pss_cons (ps_if (pt_cmpR op_eq (pe_op op_mod (pv 0) pe_int) pe_int (nomark _)) (pss_one (ps_ret (pe_op op_add (pv 1) (pe_op op_mul pe_int (pe_op op_mod (pv 2) pe_int))))) pss_nil)
      (pss_one (ps_ret (pe_op op_add (pe_op op_add (pv 1) (pe_op op_mul pe_int (pe_op op_mod (pv 2) pe_int))) (pe_op op_mul (pe_op op_pow pe_int pe_int) (pe_op op_mod (pe_op op_fdiv (pv 2) pe_int) pe_int)))))))))), ?_⟩
    tm_at "rd"
    refine iteD (fun _ => ?_) (fun _ => ?_)
    · tm_at "rd"
      show Q (.int (c / 5 % 10 ^ (60 : Int).toNat)) H
      rw [p60]
      exact q _ (Int.emod_nonneg _ (by decide)) (Int.emod_lt_of_pos _ (by decide))
    tm_at "rd"
    refine iteD (fun _ => ?_) (fun _ => ?_)
    · tm_at "rd"
      have h1 := Int.emod_nonneg (c / 5) (show (400 : Int) ≠ 0 by decide)
      have h2 := Int.emod_lt_of_pos (c / 5) (show (0 : Int) < 400 by decide)
      exact q _ (by omega) (by omega)
    tm_at "rd"
    refine iteD (fun _ => ?_) (fun _ => ?_)
    · tm_at "rd"
      show Q (.int (b + 2 ^ (32 : Int).toNat * (c / 5 % 10 ^ (40 : Int).toNat))) H
      rw [p40, p32]
      have h1 := Int.emod_nonneg (c / 5) (show P40 ≠ 0 by decide)
      have h2 := Int.emod_lt_of_pos (c / 5) (show 0 < P40 by decide)
      exact q _ (by omega) (by omega)
    tm_at "rd"
    refine iteD (fun _ => ?_) (fun _ => ?_)
    · tm_at "rd"
      have h1 := Int.emod_nonneg (c / 5) (show (12 : Int) ≠ 0 by decide)
      have h2 := Int.emod_lt_of_pos (c / 5) (show (0 : Int) < 12 by decide)
      exact q _ (by omega) (by omega)
    · tm_at "rd"
      show Q (.int (b + 65536 * (c / 5 % 3) + 2 ^ (32 : Int).toNat * (c / 5 / 3 % 7))) H
      rw [p32]
      have h1 := Int.emod_nonneg (c / 5) (show (3 : Int) ≠ 0 by decide)
      have h2 := Int.emod_lt_of_pos (c / 5) (show (0 : Int) < 3 by decide)
      have h3 := Int.emod_nonneg (c / 5 / 3) (show (7 : Int) ≠ 0 by decide)
      have h4 := Int.emod_lt_of_pos (c / 5 / 3) (show (0 : Int) < 7 by decide)
      exact q _ (by omega) (by omega)
theorem ok_drawn (D : Def K mg "_law_drawn" s_l_drawn ["_law_cells", "_law_base_here"] f fd) (T : Txt K mg cs) : FnOk P w K mg base CX0 2 f fd ["_law_cells", "_law_base_here"] (spDrawn K) := by
  obtain ⟨f1, fd1, D_l_guest⟩ := T.d_l_guest
  have G_l_guest : FnOk P w K mg base CX0 1 f1 fd1 _ _ := ok_guest7 D_l_guest T
  refine D.F.ok sc_l_drawn (fun vs H Q E h => ?_) (fun cdv A outer s H vs Q E hr1 h => ?_)
  · obtain ⟨a, cs, b, rfl, _⟩ := h
    rfl
  · obtain ⟨a, cl, b, rfl, hS, hl, b0, b1, q⟩ := h
    have nd := sc_l_drawn.nd
    have hu := hu_of hr1
    refine ⟨_, (pss_cons (ps_set (i := 2) nd rfl (Or.inl rfl) pe_dnewK)
      (pss_cons (ps_for PassesOwn.never rfl (pi_list (pv 0)) (pg_name (i := 3) nd rfl (Or.inl rfl)) (pss_one (ps_dput hu (pv 2) (pe_def D_l_guest G_l_guest hr1 (pa_c (pv 3) (pa_c (pv 1) pa_nil))) pe_bl rfl)))
      (pss_one (ps_ret (pe_t (call_listD rfl) T.n_list PyProof.Rows.boot_list (pa_c (pv 2) pa_nil)))))), ?_⟩
    tm_at "rd"
    intro d hd
    tm_at "rd"
    have sm0 : Same H (upd H d (.dK [])) := Same.new (Same.refl H) hd
    refine ⟨a, rfl, ⟨_, sm0.seq hS⟩, for_list (xs := cl.map V.int) (fun i σ H' => ∃ (ds : List Int) (kvs : List (Key × V)) (v3 : Option V), σ = [some (.ref a), some (.int b), some (.ref d), v3] ∧ Same H H' ∧ H' d = some (.dK kvs) ∧ kvs.map (·.1) = ds.map Sum.inl ∧ ds.Nodup ∧ (∀ g ∈ ds, 0 ≤ g ∧ g < P60) ∧ ds.length ≤ i) ⟨[], [], _, rfl, sm0, upd_same, rfl, List.nodup_nil, fun g hg => (nomatch hg), Nat.le_refl _⟩ (fun i σ H' _ h => by obtain ⟨_, _, _, _, sm, _⟩ := h; exact sm.seq hS) ?_ ?_⟩
    · rintro i x σ H' hx ⟨ds, kvs, v3, rfl, sm, hk, hkk, hnd, hb, hdl⟩
      obtain ⟨c, _, rfl⟩ := List.mem_map.mp (List.mem_of_getElem? hx)
      have hi : i < 63 := by
        have := (List.getElem?_eq_some_iff.mp hx).1
        rw [List.length_map] at this
        omega
      have hkl : kvs.length = ds.length := by
        have := congrArg List.length hkk
        rwa [List.length_map, List.length_map] at this
      tm_at "rd"
      refine ⟨c, b, rfl, b0, b1, fun g g0 g1 => ?_⟩
      tm_at "rd"
      refine ⟨d, _, rfl, DPut.k (k := Sum.inl g) hk (small1000 (by omega)), ?_⟩
      tm_at "rd"
      have sm' : Same H (upd H' d (.dK (putK kvs (Sum.inl g) (.bl true)))) := fun bb u e => by
        have ne : bb ≠ d := fun z => by rw [z, hd] at e; cases e
        rw [upd_ne ne]
        exact sm _ _ e
      by_cases hg : g ∈ ds
      · refine ⟨ds, putK kvs (Sum.inl g) (.bl true), _, rfl, sm', upd_same, ?_, hnd, hb, by omega⟩
        have hany : (kvs.any fun kv => decide (kv.1 = Sum.inl g)) = true := by
          have : (Sum.inl g : Key) ∈ kvs.map (·.1) := by rw [hkk]; exact List.mem_map.mpr ⟨g, hg, rfl⟩
          obtain ⟨p, hp, e⟩ := List.mem_map.mp this
          exact List.any_eq_true.mpr ⟨p, hp, decide_eq_true e⟩
        unfold putK
        rw [if_pos hany, List.map_map, ← hkk]
        refine List.map_congr_left fun p _ => ?_
        show (if p.1 = Sum.inl g then (p.1, V.bl true) else p).1 = p.1
        split <;> rfl
      · have hnone : valV kvs (Sum.inl g) = none := by
          cases z : valV kvs (Sum.inl g) with
          | none => rfl
          | some v =>
            have := valV_in z
            rw [hkk] at this
            obtain ⟨g', hg', e⟩ := List.mem_map.mp this
            exact absurd (Sum.inl.inj e ▸ hg') hg
        refine ⟨ds ++ [g], putK kvs (Sum.inl g) (.bl true), _, rfl, sm', upd_same, ?_, nd_snoc hnd hg, fun g' hg' => ?_, ?_⟩
        · rw [putK_new _ hnone, List.map_append, List.map_append, hkk]
          rfl
        · rcases List.mem_append.mp hg' with z | z
          · exact hb g' z
          · rw [List.mem_singleton.mp z]; exact ⟨g0, g1⟩
        · rw [List.length_append]
          show ds.length + 1 ≤ i + 1
          omega
    · rintro σ H' ⟨ds, kvs, v3, rfl, sm, hk, hkk, hnd, hb, hdl⟩
      rw [List.length_map] at hdl
      tm_at "rd"
      refine ⟨d, kvs, rfl, hk, fun l hl0 => ?_⟩
      have e : (kvs.map fun kv => kV kv.1) = ds.map V.int := by
        have h1 : (kvs.map fun kv => kV kv.1) = (kvs.map (·.1)).map kV := by rw [List.map_map]; rfl
        rw [h1, hkk, List.map_map]
        rfl
      rw [e]
      exact q l ds _ hnd hb hdl (Same.new sm hl0) upd_same (sm.free hl0)

theorem ok_seat_out (D : Def K mg "seat_out" s_seat_out ["seats", "guest"] f fd) (T : Txt K mg cs) : FnOk P w K mg base (CXr P w) 6 f fd ["seats", "guest"] (spSeatOut K cs.NoGuest cs.Away) := by
  obtain ⟨f1, fd1, D_place_of⟩ := T.d_place_of
  have G_place_of : FnOk P w K mg base (CXr P w) 5 f1 fd1 _ _ := ok_place D_place_of T
  obtain ⟨f2, fd2, D_carried⟩ := T.d_carried
  have G_carried : FnOk P w K mg base CX0 5 f2 fd2 _ _ := (ok_carried D_carried T).mono (by decide)
  refine D.F.okX sc_seat_out (fun vs H Q E h => ?_) (fun cdv A outer s H vs Q E hr1 h => ?_)
  · rcases h with ⟨a, t, g, rfl, _⟩ | ⟨a, x, rfl, _⟩ <;> rfl
  · have nd := sc_seat_out.nd
    rcases h with ⟨a, t, g, rfl, hS, St, h2, hl, g0, g1, q1, q2⟩ | ⟨a, x, rfl, bad, q⟩
    all_goals refine ⟨_, (ssx_cons (sx_set (i := 2) nd rfl (Or.inl rfl) (pex_def ownFr_cx D_place_of G_place_of hr1 (pa_c (pv 0) (pa_c (pv 1) pa_nil))))
      (ssx_cons (sx_if (pt_cmpR op_isN (pv 2) pe_non (nomark _)) (ssx_one (sx_raise ownFr_cx rfl T.K_Away (pa_c pe_str pa_nil))) ssx_nil)
      (ssx_cons (sx (ps_set (i := 3) nd rfl (Or.inl rfl) (pe_b call_len_seq T.n_len PySem.boot_len (pa_c (pv 0) pa_nil))))
      (ssx_cons (sx (ps_set (i := 4) nd rfl (Or.inl rfl) (pe_t call_list_of T.n_list PyProof.Rows.boot_list (pa_c (pv 0) pa_nil))))
      (ssx_cons (sx (ps_set (i := 5) nd rfl (Or.inl rfl) (pe_op op_mod (pe_op op_add (pv 2) pe_int) (pv 3))))
      (ssx_cons (sx (ps_while PassesOwn.never ((pw_and (pt_cmpR op_notN (pe_ix ix_list (pv 4) (pv 5) (fun _ _ => rfl)) pe_non (nomark _)) (pw_and1 (pt_cmpR op_gt (pe_def D_carried G_carried hr1 (pa_c (pe_ix ix_list (pv 4) (pv 5) (fun _ _ => rfl)) (pa_c (pv 5) (pa_c (pv 3) pa_nil)))) pe_int (nomark _))))).pt (pss_cons (ps_asg (pe_ix ix_list (pv 4) (pv 5) (fun _ _ => rfl)) (pg_sub (pv 4) (pv 2) set_list))
      (pss_cons (ps_set (i := 2) nd rfl (Or.inl rfl) (pv 5))
      (pss_one (ps_set (i := 5) nd rfl (Or.inl rfl) (pe_op op_mod (pe_op op_add (pv 5) pe_int) (pv 3))))))))
      (ssx_cons (sx (ps_asg pe_non (pg_sub (pv 4) (pv 2) set_list)))
      (ssx_one (sx (ps_ret (pv 4))))))))))), ?_⟩
    · tm_at "rd"
      refine .inl ⟨a, t, g, rfl, hS, settled_none St, g0, g1, ?_⟩
      by_cases hg : g ∈ who t
      · obtain ⟨p, hp, hpg, e⟩ := place_in St hg
        rw [e]
        tm_at "rd"
        refine iteDF (fun z => nomatch z) ?_
        tm_at "rd"
        refine ⟨_, _, rfl, .inl hS, ?_⟩
        rw [svs_len]
        tm_at "rd"
        refine ⟨_, _, rfl, .inl hS, fun l hl0 => ?_⟩
        tm_at "rd"
        rw [on_eq hp]
        obtain ⟨e, he, hn⟩ := St.empty
        have hh : ∀ g, hm t.length g < t.length := fun g => hm_lt (by omega) g
        refine ⟨fun m σ H' => ∃ (s' : Seats) (p' k : Nat), σ = [some (.ref a), some (.int g), some (.int (p' : Int)), some (.int (t.length : Int)), some (.ref l), some (.int ((nxt t.length p' : Nat) : Int))] ∧ H' l = some (.lst (svs s')) ∧ (∀ o, upd H' l o = upd H l o) ∧ s'.length = t.length ∧ p' < t.length ∧ p' ≠ e ∧ sat s' e = none ∧ dist t.length p' e = m ∧ m < k ∧
          shift t.length (hm t.length) k s' p' = shift t.length (hm t.length) t.length t p, ⟨_, t, p, t.length, rfl, upd_same, fun o => upd_upd, rfl, hp, (fun z => by rw [z, hn] at hpg; cases hpg), hn, rfl, dist_lt hp he, rfl⟩, ?_⟩
        rintro m σ H' ⟨s', p', k, rfl, hH', up, hl', hp', hpe, hn', hd, hk, hR⟩
        obtain ⟨k, rfl⟩ : ∃ k', k = k' + 1 := ⟨k - 1, by omega⟩
        have hx := nxt_lt hp'
        have hstep := dist_to_nxt hp' he hpe
        have fin : shift t.length (hm t.length) (k + 1) s' p' = s'.set p' none → Q (.ref l) (upd H' l (.lst (svs (s'.set p' none)))) := fun z => by
          rw [up, ← z, hR]
          refine q2 hg l _ hl0 ?_ fun R hw => (goes_ok h2 hh St hp hpg hw).2
          obtain ⟨R, hw, _⟩ := who_some (x := 0) hp hpg
          exact (goes_ok h2 hh St hp hpg hw).1
        tm_at "rd"
        refine rd_ixL (SqL.of hH') (svs_at (by omega)) ?_
        tm_at "rd"
        cases hs : sat s' (nxt t.length p') with
        | none =>
          refine iteN (fun z => absurd rfl z) (fun _ => iteF ?_)
          tm_at "rd"
          refine rd_setL hH' (ixN_nat (by rw [svs_len]; omega)) ?_
          rw [svs_setN]
          tm_at "rd"
          exact fin (by rw [shift, hs])
        | some y =>
          rw [sv_some]
          refine iteN (fun _ => ?_) (fun z => nomatch z)
          tm_at "rd"
          refine rd_ixL (SqL.of hH') (svs_at (by omega)) ?_
          rw [hs, sv_some]
          tm_at "rd"
          refine iteD (fun hc => ?_) (fun hc => ?_)
          · refine ⟨_, fun _ _ h => h, ?_⟩
            tm_at "rd"
            refine rd_ixL (SqL.of hH') (svs_at (by omega)) ?_
            rw [hs, sv_some]
            tm_at "rd"
            refine rd_setL hH' (ixN_nat (by rw [svs_len]; omega)) ?_
            rw [svs_setI]
            tm_at "rd"
            rw [on_eq hx]
            have hne : hm t.length y ≠ nxt t.length p' := fun z => by rw [z, dist_self] at hc; exact absurd hc (by decide)
            have hxe : nxt t.length p' ≠ e := fun z => by rw [z, hn'] at hs; cases hs
            refine ⟨dist t.length (nxt t.length p') e, by omega, s'.set p' (some y), nxt t.length p', k, rfl, upd_same, fun o => by rw [upd_upd, up], by rw [List.length_set]; exact hl', hx, hxe, by rw [sat_ne (by omega) (Ne.symm hpe)]; exact hn', rfl, by omega, ?_⟩
            rw [← hR, shift, hs]
            exact (if_neg hne).symm
          · tm_at "rd"
            refine rd_setL hH' (ixN_nat (by rw [svs_len]; omega)) ?_
            rw [svs_setN]
            tm_at "rd"
            have he1 : hm t.length y = nxt t.length p' := dist_zero (hh y) hx (by omega)
            refine fin ?_
            rw [shift, hs]
            exact if_pos he1
      · rw [place_out St hg]
        tm_at "rd"
        refine iteDT rfl ?_
        tm_at "rd"
        exact ⟨(by show 1 ≤ sizeLine; decide), q1 hg⟩
    · tm_at "rd"
      exact .inr ⟨a, x, rfl, bad, q⟩
theorem ok_odd13 (D : Def K mg "_law_odd" s_l_odd ["_law_cell"] f fd) (T : Txt K mg cs) : FnOk P w K mg base CX0 1 f fd ["_law_cell"] (spOdd K) := by
  refine D.F.ok sc_l_odd (fun vs H Q E h => ?_) (fun cdv A outer s H vs Q E hr1 h => ?_)
  · obtain ⟨c, rfl, _⟩ := h
    rfl
  · obtain ⟨c, rfl, q⟩ := h
    have nd := sc_l_odd.nd
    refine ⟨_, (pss_cons (ps_set (i := 1) nd rfl (Or.inl rfl) (pe_op op_mod (pe_op op_fdiv (pv 0) pe_int) (pe_op op_pow pe_int pe_int)))
      (pss_cons (ps_set (i := 2) nd rfl (Or.inl rfl) (pe_lst (pa_c pe_bl (pa_c pe_bl (pa_c pe_non (pa_c pe_str (pa_c pe_str (pa_c (pe_lst (pa_c pe_int pa_nil)) (pa_c (pe_tup (pa_c pe_int pa_nil)) (pa_c pe_dnewK (pa_c (pe_un un_neg pe_int) (pa_c (pe_op op_pow pe_int pe_int) (pa_c (pe_op op_sub (pe_un un_neg pe_int) (pv 1)) (pa_c (pe_op op_add (pe_op op_add (pe_op op_pow pe_int pe_int) pe_int) (pv 1)) (pa_c (pe_lst pa_nil) pa_nil)))))))))))))))
      (pss_one (ps_ret (pe_ix ix_list (pv 2) (pe_op op_mod (pv 0) pe_int) (fun _ _ => rfl)))))), ?_⟩
    tm_at "rd"
    rw [p40]
    have g0 := Int.emod_nonneg (c / 13) (show P40 ≠ 0 by decide)
    generalize c / 13 % P40 = g at g0
    refine ⟨(by show 1 ≤ sizeLine; decide), fun p1 h1 => ?_⟩
    tm_at "rd"
    refine ⟨(by show 1 ≤ sizeLine; decide), fun p2 h2 => ?_⟩
    tm_at "rd"
    intro p3 h3
    tm_at "rd"
    rw [p60]
    refine ⟨(by show 0 ≤ sizeLine; decide), fun p4 h4 => ?_⟩
    tm_at "rd"
    refine ⟨(by show 13 ≤ sizeLine; decide), fun p5 h5 => ?_⟩
    tm_at "rd"
    have e1' := upd_old (u := .lst []) (upd_old (u := .dK []) (upd_old (u := .tup [.int 7]) (show upd H p1 (.lst [.int 7]) p1 = some (.lst [.int 7]) from upd_same) h2) h3) h4
    have e2' := upd_old (u := .lst []) (upd_old (u := .dK []) (show upd (upd H p1 (.lst [.int 7])) p2 (.tup [.int 7]) p2 = some (.tup [.int 7]) from upd_same) h3) h4
    have e3' := upd_old (u := .lst []) (show upd (upd (upd H p1 (.lst [.int 7])) p2 (.tup [.int 7])) p3 (.dK []) p3 = some (.dK []) from upd_same) h4
    have e4' : upd (upd (upd (upd H p1 (.lst [.int 7])) p2 (.tup [.int 7])) p3 (.dK [])) p4 (.lst []) p4 = some (.lst []) := upd_same
    have sm : Same H (upd (upd (upd (upd H p1 (.lst [.int 7])) p2 (.tup [.int 7])) p3 (.dK [])) p4 (.lst [])) := Same.new (Same.new (Same.new (Same.new (Same.refl H) h1) h2) h3) h4
    generalize upd (upd (upd (upd H p1 (.lst [.int 7])) p2 (.tup [.int 7])) p3 (.dK [])) p4 (.lst []) = H3 at h5 e1' e2' e3' e4' sm
    have m0 := Int.emod_nonneg c (show (13 : Int) ≠ 0 by decide)
    have m1 := Int.emod_lt_of_pos c (show (0 : Int) < 13 by decide)
    have hm : c % 13 = 0 ∨ c % 13 = 1 ∨ c % 13 = 2 ∨ c % 13 = 3 ∨ c % 13 = 4 ∨ c % 13 = 5 ∨ c % 13 = 6 ∨ c % 13 = 7 ∨ c % 13 = 8 ∨ c % 13 = 9 ∨ c % 13 = 10 ∨ c % 13 = 11 ∨ c % 13 = 12 := by omega
    have smx : ∀ o, Same H (upd H3 p5 o) := fun o => Same.new sm h5
    rcases hm with z | z | z | z | z | z | z | z | z | z | z | z | z <;> rw [z]
    · exact rd_ixL (SqL.of upd_same) rfl (q _ _ (.inr (.inl ⟨_, rfl⟩)) (smx _))
    · exact rd_ixL (SqL.of upd_same) rfl (q _ _ (.inr (.inl ⟨_, rfl⟩)) (smx _))
    · exact rd_ixL (SqL.of upd_same) rfl (q _ _ (.inr (.inr ⟨_, .non, T.k_NoneType_bool, T.k_NoneType_int⟩)) (smx _))
    · exact rd_ixL (SqL.of upd_same) rfl (q _ _ (.inr (.inr ⟨_, .str _, T.k_str_bool, T.k_str_int⟩)) (smx _))
    · exact rd_ixL (SqL.of upd_same) rfl (q _ _ (.inr (.inr ⟨_, .str _, T.k_str_bool, T.k_str_int⟩)) (smx _))
    · exact rd_ixL (SqL.of upd_same) rfl (q _ _ (.inr (.inr ⟨_, .lst (upd_old e1' h5), T.k_list_bool, T.k_list_int⟩)) (smx _))
    · exact rd_ixL (SqL.of upd_same) rfl (q _ _ (.inr (.inr ⟨_, .tup (upd_old e2' h5), T.k_tuple_bool, T.k_tuple_int⟩)) (smx _))
    · exact rd_ixL (SqL.of upd_same) rfl (q _ _ (.inr (.inr ⟨_, .dK (upd_old e3' h5), T.k_dict_bool, T.k_dict_int⟩)) (smx _))
    · exact rd_ixL (SqL.of upd_same) rfl (q _ _ (.inl ⟨_, rfl, by omega⟩) (smx _))
    · exact rd_ixL (SqL.of upd_same) rfl (q _ _ (.inl ⟨_, rfl, by unfold P60; omega⟩) (smx _))
    · exact rd_ixL (SqL.of upd_same) rfl (q _ _ (.inl ⟨_, rfl, by omega⟩) (smx _))
    · exact rd_ixL (SqL.of upd_same) rfl (q _ _ (.inl ⟨_, rfl, by omega⟩) (smx _))
    · exact rd_ixL (SqL.of upd_same) rfl (q _ _ (.inr (.inr ⟨_, .lst (upd_old e4' h5), T.k_list_bool, T.k_list_int⟩)) (smx _))

theorem ok_l_put7 (D : Def K mg "_law_put" s_l_put ["_law_seats", "_law_guest_here"] f fd) (T : Txt K mg cs) : FnOk P w K mg base CX0 2 f fd ["_law_seats", "_law_guest_here"] spPut := by
  obtain ⟨f1, fd1, D_l_home⟩ := T.d_l_home
  have G_l_home : FnOk P w K mg base CX0 1 f1 fd1 _ _ := ok_l_home D_l_home T
  refine D.F.ok sc_l_put (fun vs H Q E h => ?_) (fun cdv A outer s H vs Q E hr1 h => ?_)
  · obtain ⟨a, s, x, rfl, _⟩ := h
    rfl
  · obtain ⟨a, t, x, rfl, hH, ⟨e, he, hn⟩, q⟩ := h
    have nd := sc_l_put.nd
    refine ⟨_, (pss_cons (ps_set (i := 2) nd rfl (Or.inl rfl) (pe_b call_len_seq T.n_len PySem.boot_len (pa_c (pv 0) pa_nil)))
      (pss_cons (ps_set (i := 3) nd rfl (Or.inl rfl) (pe_def D_l_home G_l_home hr1 (pa_c (pv 1) (pa_c (pv 2) pa_nil))))
      (pss_cons (ps_set (i := 4) nd rfl (Or.inl rfl) pe_int)
      (pss_cons (ps_while PassesOwn.never (pt_cmpR op_notN (pe_ix ix_list (pv 0) (pv 3) (fun _ _ => rfl)) pe_non (nomark _)) (pss_cons (ps_set (i := 5) nd rfl (Or.inl rfl) (pe_ix ix_list (pv 0) (pv 3) (fun _ _ => rfl)))
      (pss_cons (ps_set (i := 6) nd rfl (Or.inl rfl) (pe_op op_mod (pe_op op_sub (pv 3) (pe_def D_l_home G_l_home hr1 (pa_c (pv 5) (pa_c (pv 2) pa_nil)))) (pv 2)))
      (pss_cons (ps_join (ps_if ((pw_or (pt_cmpR op_lt (pv 6) (pv 4) (nomark _)) (pw_or1 ((pw_and (pt_cmpR op_eq (pv 6) (pv 4) (nomark _)) (pw_and1 (pt_cmpR op_gt (pv 5) (pv 1) (nomark _))))).pt))).pt (pss_cons (ps_asg (pv 1) (pg_sub (pv 0) (pv 3) set_list))
      (pss_cons (ps_set (i := 1) nd rfl (Or.inl rfl) (pv 5))
      (pss_one (ps_set (i := 4) nd rfl (Or.inl rfl) (pv 6))))) pss_nil))
      (pss_cons (ps_set (i := 4) nd rfl (Or.inl rfl) (pe_op op_add (pv 4) pe_int))
      (pss_one (ps_set (i := 3) nd rfl (Or.inl rfl) (pe_op op_mod (pe_op op_add (pv 3) pe_int) (pv 2)))))))))
      (pss_one (ps_asg (pv 1) (pg_sub (pv 0) (pv 3) set_list))))))), ?_⟩
    have n0 : 0 < t.length := by omega
    tm_at "rd"
    refine ⟨_, _, rfl, .inl (SqL.of hH), ?_⟩
    rw [svs_len]
    tm_at "rd"
    refine ⟨fun m σ H' => ∃ (s' : Seats) (x' : Int) (p' k : Nat) (v u : Option V), σ = [some (.ref a), some (.int x'), some (.int (t.length : Int)), some (.int (p' : Int)), some (.int ((dist t.length (hm t.length x') p' : Nat) : Int)), v, u] ∧ H' a = some (.lst (svs s')) ∧ (∀ o, upd H' a o = upd H a o) ∧ s'.length = t.length ∧ p' < t.length ∧ sat s' e = none ∧ dist t.length p' e = m ∧ m < k ∧ dist t.length (hm t.length x') p' + m < t.length ∧
      put t.length (hm t.length) k s' x' p' = comes t.length (hm t.length) t x, ⟨_, t, x, hm t.length x, t.length, _, _, by rw [dist_self]; rfl, hH, fun _ => rfl, rfl, hm_lt n0 x, hn, rfl, dist_lt (hm_lt n0 x) he, by rw [dist_self, Nat.zero_add]; exact dist_lt (hm_lt n0 x) he, rfl⟩, ?_⟩
    rintro m σ H' ⟨s', x', p', k, v, u, rfl, hH', up, hl, hp, hn', hd, hk, hfm, hR⟩
    obtain ⟨k, rfl⟩ : ∃ k', k = k' + 1 := ⟨k - 1, by omega⟩
    tm_at "rd"
    refine rd_ixL (SqL.of hH') (svs_at (by omega)) ?_
    tm_at "rd"
    cases hs : sat s' p' with
    | none =>
      refine iteN (fun z => absurd rfl z) (fun _ => ?_)
      tm_at "rd"
      refine rd_setL hH' (ixN_nat (by rw [svs_len]; omega)) ?_
      rw [up, svs_setI, ← put_none (n := t.length) (h := hm t.length) (k := k) hs, hR]
      exact q
    | some y =>
      have hpe : p' ≠ e := fun z => by rw [z, hn'] at hs; cases hs
      have hstep := dist_to_nxt hp he hpe
      refine iteN (fun _ => ?_) (fun z => nomatch z)
      refine ⟨_, fun _ _ h => h, ?_⟩
      tm_at "rd"
      refine rd_ixL (SqL.of hH') (svs_at (by omega)) ?_
      rw [hs, sv_some]
      tm_at "rd"
      rw [far_eq (hm_lt n0 y) hp]
      have hfe : dist t.length (hm t.length x') p' + dist t.length p' e < t.length := by omega
      refine rd_join (fun σ H2 => ∃ (s2 : Seats) (x2 : Int) (v u : Option V), σ = [some (.ref a), some (.int x2), some (.int (t.length : Int)), some (.int (p' : Int)), some (.int ((dist t.length (hm t.length x2) p' : Nat) : Int)), v, u] ∧ H2 a = some (.lst (svs s2)) ∧ (∀ o, upd H2 a o = upd H a o) ∧ s2.length = t.length ∧ sat s2 e = none ∧ dist t.length (hm t.length x2) p' + dist t.length p' e < t.length ∧ put t.length (hm t.length) k s2 x2 (nxt t.length p') = comes t.length (hm t.length) t x) ?_ ?_
      · tm_at "rd"
        refine iteD (fun h1 => iteT ?_) (fun h1 => ?_)
        · have ha : Ahead t.length (hm t.length) x' y p' := by unfold Ahead; omega
          tm_at "rd"
          refine rd_setL hH' (ixN_nat (by rw [svs_len]; omega)) ?_
          rw [svs_setI]
          tm_at "rd"
          refine ⟨_, _, _, _, rfl, upd_same, fun o => by rw [upd_upd, up], by rw [List.length_set]; exact hl, ?_, by omega, ?_⟩
          · rw [sat_ne (by omega) (Ne.symm hpe)]
            exact hn'
          · rw [← put_yes hs ha]
            exact hR
        · tm_at "rd"
          refine iteD (fun h2 => ?_) (fun h2 => iteF ?_)
          · tm_at "rd"
            refine iteD (fun h3 => ?_) (fun h3 => ?_)
            · have ha : Ahead t.length (hm t.length) x' y p' := by unfold Ahead; omega
              tm_at "rd"
              refine rd_setL hH' (ixN_nat (by rw [svs_len]; omega)) ?_
              rw [svs_setI]
              tm_at "rd"
              refine ⟨_, _, _, _, rfl, upd_same, fun o => by rw [upd_upd, up], by rw [List.length_set]; exact hl, ?_, by omega, ?_⟩
              · rw [sat_ne (by omega) (Ne.symm hpe)]
                exact hn'
              · rw [← put_yes hs ha]
                exact hR
            · have ha : ¬ Ahead t.length (hm t.length) x' y p' := by unfold Ahead; omega
              tm_at "rd"
              exact ⟨_, _, _, _, rfl, hH', up, hl, hn', hfe, by rw [← put_no hs ha]; exact hR⟩
          · have ha : ¬ Ahead t.length (hm t.length) x' y p' := by unfold Ahead; omega
            tm_at "rd"
            exact ⟨_, _, _, _, rfl, hH', up, hl, hn', hfe, by rw [← put_no hs ha]; exact hR⟩
      · rintro σ2 H2 ⟨s2, x2, v2, u2, rfl, hH2, up2, hl2, hn2, hf2, hR2⟩
        tm_at "rd"
        rw [on_eq hp]
        have hfx := dist_nxt' (hm_lt n0 x2) hp (by omega)
        refine ⟨dist t.length (nxt t.length p') e, by omega, s2, x2, nxt t.length p', k, v2, u2, ?_, hH2, up2, hl2, nxt_lt hp, hn2, rfl, by omega, by omega, hR2⟩
        rw [hfx, Int.natCast_add]
        rfl
def flg (a b : Bool) : List Bool := [a, b, true]
def spRef07 (K : PySem.W.Frag) : Sp := fun vs H Q _ => (∃ (a : Addr) (x : V), vs = [.ref a, x] ∧ Bad K H x ∧ ∀ l H', Same H H' → H' l = some (.lst ((flg true false).map V.bl)) → Q (.ref l) H') ∨
  (∃ (a : Addr) (s : Seats) (g : Int), vs = [.ref a, .int g] ∧ SqL K H a (svs s) ∧ Settled s.length (hm s.length) s ∧ 2 ≤ s.length ∧ s.length ≤ 1024 ∧ 0 ≤ g ∧ g < P60 ∧ g ∉ who s ∧ ∀ l H', Same H H' → H' l = some (.lst ((flg false true).map V.bl)) → Q (.ref l) H')
theorem ok_ref07 (D : Def K mg "_law_refused" s_l_refused ["_law_seats", "_law_guest_here"] f fd) (T : Txt K mg cs) : FnOk P w K mg base (CXr P w) 7 f fd ["_law_seats", "_law_guest_here"] (spRef07 K) := by
  obtain ⟨f1, fd1, D_seat_out⟩ := T.d_seat_out
  have G_seat_out : FnOk P w K mg base (CXr P w) 6 f1 fd1 _ _ := ok_seat_out D_seat_out T
  refine D.F.okX sc_l_refused (fun vs H Q E h => ?_) (fun cdv A outer s H vs Q E hr1 h => ?_)
  · rcases h with ⟨a, x, rfl, _⟩ | ⟨a, t, g, rfl, _⟩ <;> rfl
  · have nd := sc_l_refused.nd
    rcases h with ⟨a, x, rfl, bad, q⟩ | ⟨a, t, g, rfl, hS, St, h2, hl, g0, g1, hg, q⟩
    all_goals refine ⟨_, (ssx_cons (sx_try (i := 2) ownFr_cx nd (ssx_one (sx_expr (pex_def ownFr_cx D_seat_out G_seat_out hr1 (pa_c (pv 0) (pa_c (pv 1) pa_nil))))) (fun _ => (pss_cons (ps_set (i := 3) nd rfl (Or.inl rfl) (pe_lst (pa_c (pe_b call_isinstH T.n_isinstance PyProof.Rows.boot_isinstance (pa_c (pv 2) (pa_c (pe_gref T.m_NoGuest) pa_nil))) (pa_c (pe_b call_isinstH T.n_isinstance PyProof.Rows.boot_isinstance (pa_c (pv 2) (pa_c (pe_gref T.m_Away) pa_nil))) pa_nil))))
      (pss_cons (ps_set (i := 4) nd rfl (Or.inl rfl) (pe_or (pe_b call_isinstH T.n_isinstance PyProof.Rows.boot_isinstance (pa_c (pv 2) (pa_c (pe_gref T.m_Twice) pa_nil))) (pe_or (pe_b call_isinstH T.n_isinstance PyProof.Rows.boot_isinstance (pa_c (pv 2) (pa_c (pe_gref T.m_Full) pa_nil))) (pe_one (pe_b call_isinstH T.n_isinstance PyProof.Rows.boot_isinstance (pa_c (pv 2) (pa_c (pe_gref T.m_NoSize) pa_nil)))))))
      (pss_one (ps_ret (pe_op op_cat (pv 3) (pe_lst (pa_c (pe_and (pe_b call_isinstH T.n_isinstance PyProof.Rows.boot_isinstance (pa_c (pv 2) (pa_c (pe_ty T.n_ValueError PyProof.Rows.boot_ValueError) pa_nil))) (pe_one (pe_not (pv 4)))) pa_nil)))))))) T.m_RingError rfl)
      (ssx_one (sx (ps_ret (pe_lst pa_nil))))), ?_⟩
    · tm_at "rd"
      refine .inr ⟨a, x, rfl, bad, T.x_NoGuest, fun e he => ?_⟩
      tm_at "rd"
      refine ⟨e, cs.NoGuest, _, .ref cs.NoGuest, true, rfl, upd_same, rfl, T.K_NoGuest.k, T.K_NoGuest.c, T.i_NoGuest_NoGuest, ?_⟩
      tm_at "rd"
      refine ⟨e, cs.NoGuest, _, .ref cs.Away, false, rfl, upd_same, rfl, T.K_NoGuest.k, T.K_NoGuest.c, T.i_NoGuest_Away, ?_⟩
      tm_at "rd"
      refine ⟨(by show 2 ≤ sizeLine; decide), fun l1 hl1 => ?_⟩
      tm_at "rd"
      refine ⟨e, cs.NoGuest, _, .ref cs.Twice, false, rfl, upd_old upd_same hl1, rfl, T.K_NoGuest.k, T.K_NoGuest.c, T.i_NoGuest_Twice, ?_⟩
      tm_at "rd"
      refine iteF ?_
      tm_at "rd"
      refine ⟨e, cs.NoGuest, _, .ref cs.Full, false, rfl, upd_old upd_same hl1, rfl, T.K_NoGuest.k, T.K_NoGuest.c, T.i_NoGuest_Full, ?_⟩
      tm_at "rd"
      refine iteF ?_
      tm_at "rd"
      refine ⟨e, cs.NoGuest, _, .ref cs.NoSize, false, rfl, upd_old upd_same hl1, rfl, T.K_NoGuest.k, T.K_NoGuest.c, T.i_NoGuest_NoSize, ?_⟩
      tm_at "rd"
      refine ⟨e, cs.NoGuest, _, .type "ValueError", true, rfl, upd_old upd_same hl1, rfl, T.K_NoGuest.k, T.K_NoGuest.c, T.v_NoGuest, ?_⟩
      tm_at "rd"
      refine iteT ?_
      tm_at "rd"
      refine ⟨(by show 1 ≤ sizeLine; decide), fun l2 hl2 => ?_⟩
      tm_at "rd"
      refine rd_cat (upd_old upd_same hl2) upd_same (by show 3 ≤ sizeLine; decide) fun l3 hl3 => ?_
      exact q l3 _ (Same.new (Same.new (Same.new (Same.new (Same.refl H) he) hl1) hl2) hl3) upd_same
    · tm_at "rd"
      refine .inl ⟨a, t, g, rfl, hS, St, h2, hl, g0, g1, fun _ => ⟨T.x_Away, fun e he => ?_⟩, fun z => absurd z hg⟩
      tm_at "rd"
      refine ⟨e, cs.Away, _, .ref cs.NoGuest, false, rfl, upd_same, rfl, T.K_Away.k, T.K_Away.c, T.i_Away_NoGuest, ?_⟩
      tm_at "rd"
      refine ⟨e, cs.Away, _, .ref cs.Away, true, rfl, upd_same, rfl, T.K_Away.k, T.K_Away.c, T.i_Away_Away, ?_⟩
      tm_at "rd"
      refine ⟨(by show 2 ≤ sizeLine; decide), fun l1 hl1 => ?_⟩
      tm_at "rd"
      refine ⟨e, cs.Away, _, .ref cs.Twice, false, rfl, upd_old upd_same hl1, rfl, T.K_Away.k, T.K_Away.c, T.i_Away_Twice, ?_⟩
      tm_at "rd"
      refine iteF ?_
      tm_at "rd"
      refine ⟨e, cs.Away, _, .ref cs.Full, false, rfl, upd_old upd_same hl1, rfl, T.K_Away.k, T.K_Away.c, T.i_Away_Full, ?_⟩
      tm_at "rd"
      refine iteF ?_
      tm_at "rd"
      refine ⟨e, cs.Away, _, .ref cs.NoSize, false, rfl, upd_old upd_same hl1, rfl, T.K_Away.k, T.K_Away.c, T.i_Away_NoSize, ?_⟩
      tm_at "rd"
      refine ⟨e, cs.Away, _, .type "ValueError", true, rfl, upd_old upd_same hl1, rfl, T.K_Away.k, T.K_Away.c, T.v_Away, ?_⟩
      tm_at "rd"
      refine iteT ?_
      tm_at "rd"
      refine ⟨(by show 1 ≤ sizeLine; decide), fun l2 hl2 => ?_⟩
      tm_at "rd"
      refine rd_cat (upd_old upd_same hl2) upd_same (by show 3 ≤ sizeLine; decide) fun l3 hl3 => ?_
      exact q l3 _ (Same.new (Same.new (Same.new (Same.new (Same.refl H) he) hl1) hl2) hl3) upd_same

theorem svs_last {s : Seats} (h : 0 < s.length) : atI (svs s) (-1) = some (sv (sat s (s.length - 1))) := by
  unfold atI ixN
  rw [if_neg (by decide), if_pos (by rw [svs_len]; omega)]
  show (svs s)[((-1 : Int) + ((svs s).length : Int)).toNat]? = _
  rw [svs_len, show ((-1 : Int) + (s.length : Int)).toNat = s.length - 1 by omega, List.getElem?_map, sat_get (by omega)]
  rfl
/-- the seat before, as the laws write it -/
theorem svs_prev {s : Seats} {i : Nat} (h : i < s.length) : atI (svs s) ((i : Int) - 1) = some (sv (sat s (prv s.length i))) := by
  by_cases z : i = 0
  · subst z
    rw [show (((0 : Nat) : Int) - 1) = -1 by decide, svs_last h]
    unfold prv
    rw [if_pos rfl]
  · have : ((i : Int) - 1) = ((i - 1 : Nat) : Int) := by omega
    rw [this, svs_at (by omega)]
    unfold prv
    rw [if_neg z]
theorem prv_far {n i a : Nat} (ha : a < n) (hi : i < n) : ((i : Int) - 1 - (a : Int)) % (n : Int) = (dist n a (prv n i) : Int) := by
  by_cases z : i = 0
  · subst z
    have hp : n - 1 < n := by omega
    have h := far_eq ha hp
    unfold prv
    rw [if_pos rfl, ← h]
    have : (((0 : Nat) : Int) - 1 - (a : Int)) = ((n - 1 : Nat) : Int) - (a : Int) - (n : Int) := by omega
    rw [this, Int.sub_emod_right]
  · have h := far_eq ha (show i - 1 < n by omega)
    unfold prv
    rw [if_neg z, ← h]
    congr 1
    omega
theorem ok_sett3 (D : Def K mg "_law_settled" s_l_settled ["_law_seats", "_law_many", "_law_guests"] f fd) (T : Txt K mg cs) : FnOk P w K mg base CX0 2 f fd ["_law_seats", "_law_many", "_law_guests"] (spSett3 K) := by
  obtain ⟨f1, fd1, D_l_home⟩ := T.d_l_home
  have G_l_home : FnOk P w K mg base CX0 1 f1 fd1 _ _ := ok_l_home D_l_home T
  obtain ⟨f3, fd3, D_l_whole⟩ := T.d_l_whole
  have G_l_whole : FnOk P w K mg base CX0 1 f3 fd3 _ _ := ok_whole D_l_whole T
  refine D.F.ok sc_l_settled (fun vs H Q E h => ?_) (fun cdv A outer s H vs Q E hr1 h => ?_)
  · obtain ⟨a, b, t, ds, rfl, _⟩ := h
    rfl
  · obtain ⟨a, b, t, ds, rfl, hH, hB, hl, St, hp, h64, q⟩ := h
    have nd := sc_l_settled.nd
    have hu0 : (A.deeper (PyProof.Rows.envOfC "_law_settled" (defScope s_l_settled) s.heap.objs.size f cdv)).units < cLine := Nat.lt_of_succ_lt (hu_of hr1)
    refine ⟨_, (pss_cons (ps_if ((pw_or (pt_not (pt_val (pe_b call_isinst T.n_isinstance PyProof.Rows.boot_isinstance (pa_c (pv 0) (pa_c (pe_ty T.n_list PyProof.Rows.boot_list) pa_nil))))) (pw_or (pt_cmpR op_ne (pe_b call_len_seq T.n_len PySem.boot_len (pa_c (pv 0) pa_nil)) (pv 1) (nomark _)) (pw_or1 (pt_cmpR op_notIn_seq pe_non (pv 0) (by with_unfolding_all rfl)))))).pt (pss_one (ps_ret pe_bl)) pss_nil)
      (pss_cons (ps_for PassesOwn.never rfl (pi_range1 rfl T.n_range (pa_c (pv 1) pa_nil)) (pg_name (i := 3) nd rfl (Or.inl rfl)) (pss_one (ps_if (pt_cmpR op_notN (pe_ix ix_list (pv 0) (pv 3) (fun _ _ => rfl)) pe_non (nomark _)) (pss_cons (ps_if (pt_not (pt_val (pe_def D_l_whole G_l_whole hr1 (pa_c (pe_ix ix_list (pv 0) (pv 3) (fun _ _ => rfl)) pa_nil)))) (pss_one (ps_ret pe_bl)) pss_nil)
      (pss_cons (ps_set (i := 4) nd rfl (Or.inl rfl) (pe_op op_mod (pe_op op_sub (pv 3) (pe_def D_l_home G_l_home hr1 (pa_c (pe_ix ix_list (pv 0) (pv 3) (fun _ _ => rfl)) (pa_c (pv 1) pa_nil)))) (pv 1)))
      (pss_cons (ps_if ((pw_and (pt_cmpR op_gt (pv 4) pe_int (nomark _)) (pw_and1 (pt_cmpR op_isN (pe_ix ix_list (pv 0) (pe_op op_sub (pv 3) pe_int) (fun _ _ => rfl)) pe_non (nomark _))))).pt (pss_one (ps_ret pe_bl)) pss_nil)
      (pss_one (ps_if (pt_cmpR op_gt (pv 4) pe_int (nomark _)) (pss_cons (ps_set (i := 5) nd rfl (Or.inl rfl) (pe_op op_add (pe_op op_mod (pe_op op_sub (pe_op op_sub (pv 3) pe_int) (pe_def D_l_home G_l_home hr1 (pa_c (pe_ix ix_list (pv 0) (pe_op op_sub (pv 3) pe_int) (fun _ _ => rfl)) (pa_c (pv 1) pa_nil)))) (pv 1)) pe_int))
      (pss_one (ps_if ((pw_or (pt_cmpR op_lt (pv 5) (pv 4) (nomark _)) (pw_or1 ((pw_and (pt_cmpR op_eq (pv 5) (pv 4) (nomark _)) (pw_and1 (pt_cmpR op_ge (pe_ix ix_list (pv 0) (pe_op op_sub (pv 3) pe_int) (fun _ _ => rfl)) (pe_ix ix_list (pv 0) (pv 3) (fun _ _ => rfl)) (nomark _))))).pt))).pt (pss_one (ps_ret pe_bl)) pss_nil))) pss_nil))))) pss_nil)))
      (pss_one (ps_ret (pe_cmpR (op_eqL hu0) (pe_b call_sortedI T.n_sorted PyProof.Rows.boot_sorted (pa_c (pe_comp rfl (N' := ["_law_guest_here"]) (own := 1) (fr := []) (show BlkScope ["_law_seats", "_law_many", "_law_guests", "_law_at", "_law_way", "_law_before"] (defScope s_l_settled) _ _ _ _ from by tm_at "blk_is") (pi_list (pv 0)) (fun _ _ _ _ _ => (pg_name (i := 0) (show (["_law_guest_here"] : List Str).Nodup from by decide) rfl (Or.inl rfl) (Or.inr rfl))) (fun _ _ _ _ _ => (pifs_one (pt_cmpR op_notN (pv 0) pe_non (nomark _)))) (fun _ _ _ _ _ => (pv 0))) pa_nil)) (pe_b call_sortedI T.n_sorted PyProof.Rows.boot_sorted (pa_c (pv 2) pa_nil)) (nomark _)))))), ?_⟩
    tm_at "rd"
    refine ⟨_, _, _, _, rfl, .lst hH, T.k_list_list, ?_⟩
    tm_at "rd"
    refine iteF ?_
    tm_at "rd"
    refine ⟨_, _, rfl, .inl (SqL.of hH), ?_⟩
    rw [svs_len]
    tm_at "rd"
    refine iteN (fun z => absurd rfl z) (fun _ => ?_)
    tm_at "rd"
    refine rd_notIn (SqL.of hH) rfl (svs_flat _) ?_
    rw [inV_non]
    tm_at "rd"
    refine iteN (fun z => absurd (settled_none St) z) (fun _ => ?_)
    tm_at "rd"
    refine rd_exR (by omega) (by omega) ?_
    rw [Int.toNat_natCast]
    refine for_range (fun i σ H' => H = H' ∧ ∃ v3 v4 v5, σ = [some (.ref a), some (.int (t.length : Int)), some (.ref b), v3, v4, v5]) ⟨rfl, _, _, _, rfl⟩ ?_ ?_
    · rintro i σ H' hi ⟨rfl, v3, v4, v5, rfl⟩
      have n0 : 0 < t.length := by omega
      tm_at "rd"
      rw [Int.zero_add]
      refine rd_ixL (SqL.of hH) (svs_at hi) ?_
      tm_at "rd"
      cases hs : sat t i with
      | none =>
        refine iteN (fun z => absurd rfl z) (fun _ => ?_)
        tm_at "rd"
        exact ⟨rfl, _, _, _, rfl⟩
      | some g =>
        rw [sv_some]
        refine iteN (fun _ => ?_) (fun z => nomatch z)
        tm_at "rd"
        refine rd_ixL (SqL.of hH) (svs_at hi) ?_
        rw [hs, sv_some]
        tm_at "rd"
        refine iteF ?_
        tm_at "rd"
        refine rd_ixL (SqL.of hH) (svs_at hi) ?_
        rw [hs, sv_some]
        tm_at "rd"
        rw [far_eq (hm_lt n0 g) hi]
        refine iteD (fun h1 => ?_) (fun h1 => ?_)
        · have hne : hm t.length g ≠ i := fun z => by rw [z, dist_self] at h1; exact absurd h1 (by decide)
          obtain ⟨g', hg', ha⟩ := St.loc i g hi hs hne
          tm_at "rd"
          refine rd_ixL (SqL.of hH) (svs_prev hi) ?_
          rw [hg', sv_some]
          tm_at "rd"
          refine iteDF (fun z => nomatch z) ?_
          tm_at "rd"
          refine iteDT h1 ?_
          tm_at "rd"
          refine rd_ixL (SqL.of hH) (svs_prev hi) ?_
          rw [hg', sv_some]
          tm_at "rd"
          rw [prv_far (hm_lt n0 g') hi]
          have hdp := dist_prv (hm_lt n0 g) hi (Ne.symm hne)
          unfold Ahead at ha
          refine iteD (fun h2 => ?_) (fun h2 => ?_)
          · exfalso
            omega
          · tm_at "rd"
            refine iteD (fun h3 => ?_) (fun h3 => ?_)
            · tm_at "rd"
              refine rd_ixL (SqL.of hH) (svs_prev hi) ?_
              rw [hg', sv_some]
              tm_at "rd"
              refine rd_ixL (SqL.of hH) (svs_at hi) ?_
              rw [hs, sv_some]
              tm_at "rd"
              refine iteDF (by omega) ?_
              tm_at "rd"
              exact ⟨rfl, _, _, _, rfl⟩
            · refine iteF ?_
              tm_at "rd"
              exact ⟨rfl, _, _, _, rfl⟩
        · refine iteF ?_
          tm_at "rd"
          refine iteDF h1 ?_
          tm_at "rd"
          exact ⟨rfl, _, _, _, rfl⟩
    · rintro σ H' ⟨rfl, v3, v4, v5, rfl⟩
      tm_at "rd"
      refine ⟨a, rfl, ⟨_, SqL.of hH⟩, ?_⟩
      refine comp_gen (own := 1) (fr := []) (n := t.length) (p := fun i => (sat t i).isSome) (f := fun i => .int ((sat t i).getD 0)) (S := fun σ => ∃ v, σ = [v]) ⟨_, rfl⟩ (Nat.le_trans hl (by decide)) (fun i H' x H'' _ _ y => ?_) (fun i σ H' hi hσ sm => ?_) (fun H' sm => ?_) (fun l H1 hl0 sm hH1 => ?_)
      · obtain ⟨rfl, _⟩ := y
        exact Same.refl _
      · obtain ⟨v, rfl⟩ := hσ
        have hg : (svs t)[i]? = some (sv (sat t i)) := by
          rw [List.getElem?_map, sat_get hi]
          rfl
        refine ⟨⟨_, _, SqL.of (sm _ _ hH), hg⟩, ?_⟩
        rintro x H'' ⟨rfl, hx⟩ R R0 h1 h0
        have hx' := hx _ (SqL.of (sm _ _ hH))
        rw [hg] at hx'
        cases hx'
        tm_at "rd"
        cases hs : sat t i with
        | none =>
          refine iteN (fun z => absurd rfl z) (fun _ => ?_)
          exact h0 (by rw [hs]; rfl) _ _ ⟨_, rfl⟩ (Same.refl _)
        | some g =>
          rw [sv_some]
          refine iteN (fun _ => ?_) (fun z => nomatch z)
          tm_at "rd"
          have := h1 (by rw [hs]; rfl) [some (.int g)] H'' ⟨_, rfl⟩ (Same.refl _)
          simp only [hs] at this
          exact this
      · exact ⟨_, SqL.of (sm _ _ hH), by rw [svs_len]; exact Nat.le_refl _⟩
      · have hW : ((List.range t.length).filter fun i => (sat t i).isSome).map (fun i => V.int ((sat t i).getD 0)) = (who t).map V.int := by
          rw [← who_range t, List.map_map]
          rfl
        rw [hW] at hH1
        have hwl : (who t).length < 64 := by rw [hp.length_eq]; exact h64
        tm_at "rd"
        refine ⟨l, _, rfl, SqL.of hH1, hwl, fun l2 n2 hl2 pm2 so2 => ?_⟩
        have s2 : Same H1 (upd H1 l2 (.lst (n2.map V.int))) := Same.new (Same.refl H1) hl2
        tm_at "rd"
        refine ⟨b, _, rfl, s2.seq (sm.seq hB), h64, fun l3 n3 hl3 pm3 so3 => ?_⟩
        have s3 : Same H1 (upd (upd H1 l2 (.lst (n2.map V.int))) l3 (.lst (n3.map V.int))) := Same.new s2 hl3
        refine ⟨l2, l3, _, _, rfl, rfl, SqL.of (upd_old upd_same hl3), SqL.of upd_same, ints_flat _, ints_flat _, ?_⟩
        have e23 : n2 = n3 := sorted_eq (pm2.trans (hp.trans pm3.symm)) so2 so3
        rw [eqVs_ints, decide_eq_true e23]
        exact q _ (sm.trans s3)
theorem ok_same (D : Def K mg "_law_same" s_l_same ["_law_found", "_law_seats"] f fd) (T : Txt K mg cs) : FnOk P w K mg base CX0 2 f fd ["_law_found", "_law_seats"] (spSame K) := by
  obtain ⟨f3, fd3, D_l_whole⟩ := T.d_l_whole
  have G_l_whole : FnOk P w K mg base CX0 1 f3 fd3 _ _ := ok_whole D_l_whole T
  refine D.F.ok sc_l_same (fun vs H Q E h => ?_) (fun cdv A outer s H vs Q E hr1 h => ?_)
  · obtain ⟨a, b, t, rfl, _⟩ := h
    rfl
  · obtain ⟨a, b, t, rfl, hA, hB, q⟩ := h
    have nd := sc_l_same.nd
    refine ⟨_, (pss_cons (ps_if ((pw_or (pt_not (pt_val (pe_b call_isinst T.n_isinstance PyProof.Rows.boot_isinstance (pa_c (pv 0) (pa_c (pe_ty T.n_list PyProof.Rows.boot_list) pa_nil))))) (pw_or1 (pt_cmpR op_ne (pe_b call_len_seq T.n_len PySem.boot_len (pa_c (pv 0) pa_nil)) (pe_b call_len_seq T.n_len PySem.boot_len (pa_c (pv 1) pa_nil)) (nomark _))))).pt (pss_one (ps_ret pe_bl)) pss_nil)
      (pss_cons (ps_for PassesOwn.never rfl (pi_zip T.n_zip (pa_c (pv 0) (pa_c (pv 1) pa_nil))) (pg_tup rfl (pgs_cons (pg_name (i := 2) nd rfl (Or.inl rfl)) (pgs_cons (pg_name (i := 3) nd rfl (Or.inl rfl)) pgs_nil))) (pss_cons (ps_if ((pw_and (pt_cmpR op_notN (pv 2) pe_non (nomark _)) (pw_and1 (pt_not (pt_val (pe_def D_l_whole G_l_whole hr1 (pa_c (pv 2) pa_nil))))))).pt (pss_one (ps_ret pe_bl)) pss_nil)
      (pss_one (ps_if (pt_cmpR op_ne (pv 2) (pv 3) (nomark _)) (pss_one (ps_ret pe_bl)) pss_nil))))
      (pss_one (ps_ret pe_bl)))), ?_⟩
    tm_at "rd"
    refine ⟨_, _, _, _, rfl, .lst hA, T.k_list_list, ?_⟩
    tm_at "rd"
    refine iteF ?_
    tm_at "rd"
    refine ⟨_, _, rfl, .inl (SqL.of hA), ?_⟩
    rw [svs_len]
    tm_at "rd"
    refine ⟨_, _, rfl, .inl (SqL.of hB), ?_⟩
    rw [svs_len]
    tm_at "rd"
    refine iteN (fun z => absurd rfl z) (fun _ => ?_)
    tm_at "rd"
    refine ⟨a, b, _, _, rfl, SqL.of hA, SqL.of hB, for_zip (xs := svs t) (ys := svs t) rfl (fun i σ H' => Same H H' ∧ ∃ v2 v3, σ = [some (.ref a), some (.ref b), v2, v3]) ⟨Same.refl H, _, _, rfl⟩ (fun i σ H' h => ⟨SqL.of (h.1 _ _ hA), SqL.of (h.1 _ _ hB)⟩) ?_ ?_⟩
    · rintro i x y σ H' tp hx hy ⟨sm, v2, v3, rfl⟩ htp
      rw [hx] at hy
      cases hy
      have sm' : Same H (upd H' tp (.tup [x, x])) := Same.new sm htp
      refine rd_gtup (SqT.of upd_same) rfl ?_
      tm_at "rd"
      obtain ⟨o, _, rfl⟩ := List.mem_map.mp (List.mem_of_getElem? hx)
      cases o with
      | none =>
        rw [sv_none]
        tm_at "rd"
        refine iteN (fun z => absurd rfl z) (fun _ => iteF ?_)
        tm_at "rd"
        refine ⟨rfl, ?_⟩
        tm_at "rd"
        refine iteN (fun z => absurd rfl z) (fun _ => ?_)
        tm_at "rd"
        exact ⟨sm', _, _, rfl⟩
      | some g =>
        rw [sv_some]
        tm_at "rd"
        refine iteN (fun _ => ?_) (fun z => nomatch z)
        tm_at "rd"
        refine iteF ?_
        tm_at "rd"
        refine iteN (fun z => absurd rfl z) (fun _ => ?_)
        tm_at "rd"
        exact ⟨sm', _, _, rfl⟩
    · rintro σ H' ⟨sm, v2, v3, rfl⟩
      tm_at "rd"
      exact q _ sm

theorem rep_svs (n : Nat) : (List.replicate n [V.non]).flatten = svs (List.replicate n none) := by
  induction n with
  | zero => rfl
  | succ n ih =>
    rw [List.replicate_succ, List.flatten_cons, ih]
    rfl
theorem ok_law (F : Fun K "law" "law" s_law f fd) (T : Txt K mg cs) : FnOk P w K mg base CXL lawK f fd ["_law_script"] (spLaw K) := by
  obtain ⟨f1, fd1, D_l_cell_at⟩ := T.d_l_cell_at
  obtain ⟨f2, fd2, D_l_base⟩ := T.d_l_base
  obtain ⟨f3, fd3, D_l_guest⟩ := T.d_l_guest
  obtain ⟨f4, fd4, D_l_drawn⟩ := T.d_l_drawn
  obtain ⟨f5, fd5, D_l_put⟩ := T.d_l_put
  obtain ⟨f6, fd6, D_l_refused⟩ := T.d_l_refused
  obtain ⟨f7, fd7, D_l_odd⟩ := T.d_l_odd
  obtain ⟨f8, fd8, D_l_same⟩ := T.d_l_same
  obtain ⟨f9, fd9, D_l_settled⟩ := T.d_l_settled
  obtain ⟨f10, fd10, D_seat_in⟩ := T.d_seat_in
  obtain ⟨f11, fd11, D_seat_out⟩ := T.d_seat_out
  have G_l_cell_at : FnOk P w K mg base CX0 13 f1 fd1 _ _ := (ok_cell D_l_cell_at T).mono (by decide)
  have G_l_base : FnOk P w K mg base CX0 13 f2 fd2 _ _ := (ok_base7 D_l_base T).mono (by decide)
  have G_l_guest : FnOk P w K mg base CX0 13 f3 fd3 _ _ := (ok_guest7 D_l_guest T).mono (by decide)
  have G_l_drawn : FnOk P w K mg base CX0 13 f4 fd4 _ _ := (ok_drawn D_l_drawn T).mono (by decide)
  have G_l_put : FnOk P w K mg base CX0 13 f5 fd5 _ _ := (ok_l_put7 D_l_put T).mono (by decide)
  have G_l_refused : FnOk P w K mg base (CXr P w) 13 f6 fd6 _ _ := (ok_ref07 D_l_refused T).mono (by decide)
  have G_l_odd : FnOk P w K mg base CX0 13 f7 fd7 _ _ := (ok_odd13 D_l_odd T).mono (by decide)
  have G_l_same : FnOk P w K mg base CX0 13 f8 fd8 _ _ := (ok_same D_l_same T).mono (by decide)
  have G_l_settled : FnOk P w K mg base CX0 13 f9 fd9 _ _ := (ok_sett3 D_l_settled T).mono (by decide)
  have G_seat_in : FnOk P w K mg base (CXr P w) 13 f10 fd10 _ _ := (ok_seat_in D_seat_in T).mono (by decide)
  have G_seat_out : FnOk P w K mg base (CXr P w) 13 f11 fd11 _ _ := (ok_seat_out D_seat_out T).mono (by decide)
  refine F.ok sc_law (fun vs H Q E h => ?_) (fun cdv A outer s H vs Q E hr1 h => ?_)
  · obtain ⟨a, ns, rfl, _⟩ := h
    rfl
  · obtain ⟨a, ns, rfl, hS, hlen, k⟩ := h
    have nd := sc_law.nd
    have hu0 : (A.deeper (PyProof.Rows.envOfC "law" (defScope s_law) s.heap.objs.size f cdv)).units < cLine := Nat.lt_of_succ_lt (hu_of hr1)
    refine ⟨_, (pss_cons (ps_set (i := 1) nd rfl (Or.inl rfl) (pe_op op_add pe_int (pe_op op_mod (pe_op op_fdiv (pe_def D_l_cell_at G_l_cell_at hr1 (pa_c (pv 0) (pa_c pe_int pa_nil))) pe_int) pe_int)))
      (pss_cons (ps_join (ps_if (pt_cmpR op_eq (pe_op op_mod (pe_def D_l_cell_at G_l_cell_at hr1 (pa_c (pv 0) (pa_c pe_int pa_nil))) pe_int) pe_int (nomark _)) (pss_one (ps_set (i := 1) nd rfl (Or.inl rfl) (pe_op op_add pe_int (pe_op op_mod (pe_op op_fdiv (pe_def D_l_cell_at G_l_cell_at hr1 (pa_c (pv 0) (pa_c pe_int pa_nil))) pe_int) pe_int)))) pss_nil))
      (pss_cons (ps_set (i := 2) nd rfl (Or.inl rfl) (pe_def D_l_base G_l_base hr1 (pa_c (pe_def D_l_cell_at G_l_cell_at hr1 (pa_c (pv 0) (pa_c pe_int pa_nil))) pa_nil)))
      (pss_cons (ps_set (i := 3) nd rfl (Or.inl rfl) (pe_slice sl_list (pe_def D_l_drawn G_l_drawn hr1 (pa_c (pe_slice sl_list (pv 0) (po_some pe_int) (po_some pe_int)) (pa_c (pv 2) pa_nil))) po_none (po_some (pe_op op_sub (pv 1) pe_int))))
      (pss_cons (ps_set (i := 4) nd rfl (Or.inl rfl) (pe_op op_rep (pe_lst (pa_c pe_non pa_nil)) (pv 1)))
      (pss_cons (ps_for PassesOwn.never rfl (pi_list (pv 3)) (pg_name (i := 5) nd rfl (Or.inl rfl)) (pss_one (ps_expr (pe_def D_l_put G_l_put hr1 (pa_c (pv 4) (pa_c (pv 5) pa_nil))))))
      (pss_cons (ps_set (i := 6) nd rfl (Or.inl rfl) (pe_def D_l_guest G_l_guest hr1 (pa_c (pe_op op_fdiv (pe_def D_l_cell_at G_l_cell_at hr1 (pa_c (pv 0) (pa_c pe_int pa_nil))) pe_int) (pa_c (pv 2) pa_nil))))
      (pss_cons (ps_while PassesOwn.never (pt_cmpR op_in_seq (pv 6) (pv 3) (by with_unfolding_all rfl)) (pss_one (ps_set (i := 6) nd rfl (Or.inl rfl) (pe_op op_mod (pe_op op_add (pv 6) pe_int) (pe_op op_pow pe_int pe_int)))))
      (pss_cons (ps_set (i := 7) nd rfl (Or.inl rfl) (pe_t call_list_of T.n_list PyProof.Rows.boot_list (pa_c (pv 4) pa_nil)))
      (pss_cons (ps_if (pt_cmpR (op_neL hu0) (pe_defN D_l_refused G_l_refused hr1 (pa_c (pv 7) (pa_c (pv 6) pa_nil))) (pe_lst (pa_c pe_bl (pa_c pe_bl (pa_c pe_bl pa_nil)))) (nomark _)) (pss_one (ps_ret pe_bl)) pss_nil)
      (pss_cons (ps_set (i := 8) nd rfl (Or.inl rfl) (pe_def D_l_odd G_l_odd hr1 (pa_c (pe_def D_l_cell_at G_l_cell_at hr1 (pa_c (pv 0) (pa_c pe_int pa_nil))) pa_nil)))
      (pss_cons (ps_if ((pw_or (pt_cmpR (op_neL hu0) (pe_defN D_l_refused G_l_refused hr1 (pa_c (pv 7) (pa_c (pv 8) pa_nil))) (pe_lst (pa_c pe_bl (pa_c pe_bl (pa_c pe_bl pa_nil)))) (nomark _)) (pw_or1 (pt_not (pt_val (pe_def D_l_same G_l_same hr1 (pa_c (pv 7) (pa_c (pv 4) pa_nil)))))))).pt (pss_one (ps_ret pe_bl)) pss_nil)
      (pss_cons (ps_join (ps_if (pt_cmpR op_le (pe_op op_add (pe_b call_len_seq T.n_len PySem.boot_len (pa_c (pv 3) pa_nil)) pe_int) (pv 1) (nomark _)) (pss_cons (ps_set (i := 14) nd rfl (Or.inl rfl) (pe_defN D_seat_in G_seat_in hr1 (pa_c (pv 7) (pa_c (pv 6) pa_nil))))
      (pss_one (ps_if ((pw_or (pt_not (pt_val (pe_def D_l_settled G_l_settled hr1 (pa_c (pv 14) (pa_c (pv 1) (pa_c (pe_op op_cat (pv 3) (pe_lst (pa_c (pv 6) pa_nil))) pa_nil)))))) (pw_or1 (pt_not (pt_val (pe_def D_l_same G_l_same hr1 (pa_c (pe_defN D_seat_out G_seat_out hr1 (pa_c (pv 14) (pa_c (pv 6) pa_nil))) (pa_c (pv 4) pa_nil)))))))).pt (pss_one (ps_ret pe_bl)) pss_nil))) pss_nil))
      (pss_cons (ps_if (pt_cmpR (op_eqL hu0) (pv 3) (pe_lst pa_nil) (nomark _)) (pss_one (ps_ret (pe_def D_l_same G_l_same hr1 (pa_c (pv 7) (pa_c (pv 4) pa_nil))))) pss_nil)
      (pss_cons (ps_set (i := 9) nd rfl (Or.inr rfl) (pe_ix ix_list (pv 3) (pe_op op_mod (pe_op op_mod (pe_op op_mul (pe_def D_l_cell_at G_l_cell_at hr1 (pa_c (pv 0) (pa_c pe_int pa_nil))) pe_int) pe_int) (pe_b call_len_seq T.n_len PySem.boot_len (pa_c (pv 3) pa_nil))) (fun _ _ => rfl)))
      (pss_cons (ps_set (i := 10) nd rfl (Or.inl rfl) (pe_defN D_seat_out G_seat_out hr1 (pa_c (pv 7) (pa_c (pv 9) pa_nil))))
      (pss_cons (ps_setC (i := 11) nd rfl rfl rfl (N' := ["_law_guest_here", "_law_gone"]) (own := 1) (fr := [9]) (show BlkScope ["_law_script", "_law_many", "_law_base_here", "_law_guests", "_law_seats", "_law_guest_here", "_law_stranger", "_law_handed", "_law_thing", "_law_gone", "_law_found", "_law_others", "_law_kept", "_law_again", "_law_more"] (defScope s_law) _ _ _ _ from by tm_at "blk_is") (pi_list (pv 3)) (fun _ _ _ _ _ => (pg_name (i := 0) (show (["_law_guest_here", "_law_gone"] : List Str).Nodup from by decide) rfl (Or.inl rfl) (Or.inr rfl))) (fun _ _ _ _ _ => (pifs_one (pt_cmpR op_ne (pv 0) (pv 1) (nomark _)))) (fun _ _ _ _ _ => (pv 0)))
      (pss_cons (ps_if ((pw_or (pt_not (pt_val (pe_def D_l_settled G_l_settled hr1 (pa_c (pv 10) (pa_c (pv 1) (pa_c (pv 11) pa_nil)))))) (pw_or1 (pt_not (pt_val (pe_def D_l_same G_l_same hr1 (pa_c (pv 7) (pa_c (pv 4) pa_nil)))))))).pt (pss_one (ps_ret pe_bl)) pss_nil)
      (pss_cons (ps_set (i := 12) nd rfl (Or.inl rfl) (pe_t call_list_of T.n_list PyProof.Rows.boot_list (pa_c (pv 10) pa_nil)))
      (pss_cons (ps_expr (pe_bm0 PySem.F.plainAttrs_list PySem.F.slot_list_clear PySem.F.type_list_clear mt_clear (pv 7)))
      (pss_cons (ps_set (i := 13) nd rfl (Or.inl rfl) (pe_defN D_seat_in G_seat_in hr1 (pa_c (pv 10) (pa_c (pv 9) pa_nil))))
      (pss_one (ps_ret (pe_and (pe_def D_l_same G_l_same hr1 (pa_c (pv 13) (pa_c (pv 4) pa_nil))) (pe_one (pe_def D_l_same G_l_same hr1 (pa_c (pv 10) (pa_c (pv 12) pa_nil)))))))))))))))))))))))))))), ?_⟩
    tm_at "rd"
    refine ⟨a, ns, _, rfl, hS, by decide, ?_⟩
    tm_at "rd"
    refine rd_join (fun σ H' => H = H' ∧ ∃ n : Nat, 2 ≤ n ∧ n ≤ 1024 ∧ σ = [some (.ref a), some (.int (n : Int)), none, none, none, none, none, none, none, none, none, none, none, none, none]) ?_ ?_
    · tm_at "rd"
      refine ⟨a, ns, _, rfl, hS, by decide, ?_⟩
      tm_at "rd"
      refine iteD (fun _ => ?_) (fun _ => ?_)
      · tm_at "rd"
        refine ⟨a, ns, _, rfl, hS, by decide, ?_⟩
        tm_at "rd"
        have h1 := Int.emod_nonneg (cellF ns 1 / 8) (show (1023 : Int) ≠ 0 by decide)
        have h2 := Int.emod_lt_of_pos (cellF ns 1 / 8) (show (0 : Int) < 1023 by decide)
        refine ⟨rfl, (2 + cellF ns 1 / 8 % 1023).toNat, by omega, by omega, ?_⟩
        rw [Int.toNat_of_nonneg (by omega)]
        rfl
      · tm_at "rd"
        have h1 := Int.emod_nonneg (cellF ns 1 / 8) (show (64 : Int) ≠ 0 by decide)
        have h2 := Int.emod_lt_of_pos (cellF ns 1 / 8) (show (0 : Int) < 64 by decide)
        refine ⟨rfl, (2 + cellF ns 1 / 8 % 64).toNat, by omega, by omega, ?_⟩
        rw [Int.toNat_of_nonneg (by omega)]
        rfl
    rintro σ H' ⟨rfl, n, n2, n3, rfl⟩
    have n0 : 0 < n := by omega
    have hh : ∀ g, hm n g < n := fun g => hm_lt n0 g
    tm_at "rd"
    refine ⟨a, ns, _, rfl, hS, by decide, ?_⟩
    tm_at "rd"
    refine ⟨_, rfl, fun b b0 b1 => ?_⟩
    tm_at "rd"
    refine rd_slL hS fun p7 hp7 => ?_
    rw [cut_ints]
    have hcl : ((ns.drop (HT.sIx ns.length 0 (some 4))).take (HT.sIx ns.length ns.length (some 88) - HT.sIx ns.length 0 (some 4))).length ≤ 59 := Nat.le_trans (cut_from ns 4 _) (by omega)
    generalize (ns.drop (HT.sIx ns.length 0 (some 4))).take (HT.sIx ns.length ns.length (some 88) - HT.sIx ns.length 0 (some 4)) = cl at hcl
    have sm1 : Same H (upd H p7 (.lst (cl.map V.int))) := Same.new (Same.refl H) hp7
    tm_at "rd"
    refine ⟨p7, cl, b, rfl, SqL.of upd_same, by omega, b0, b1, fun ld ds H1 hnd hb hdl smd hld _ => ?_⟩
    have s01 : Same H H1 := sm1.trans smd
    tm_at "rd"
    refine rd_slL (SqL.of hld) fun lg hlg => ?_
    rw [cut_ints, show ((n : Int) - 1) = ((n - 1 : Nat) : Int) by omega, cut_to]
    have hnd' := nodup_take (k := n - 1) hnd
    have hb' : ∀ g ∈ ds.take (n - 1), 0 ≤ g ∧ g < P60 := fun g hg => hb g (take_sub hg)
    have hgl : (ds.take (n - 1)).length ≤ n - 1 ∧ (ds.take (n - 1)).length ≤ 59 := by
      rw [List.length_take]
      omega
    generalize ds.take (n - 1) = gs at hnd' hb' hgl
    have s2 : Same H (upd H1 lg (.lst (gs.map V.int))) := Same.new s01 hlg
    have hg2 : upd H1 lg (.lst (gs.map V.int)) lg = some (.lst (gs.map V.int)) := upd_same
    generalize upd H1 lg (.lst (gs.map V.int)) = H2 at s2 hg2
    tm_at "rd"
    refine ⟨(by show 1 ≤ sizeLine; decide), fun l0 hl0 => ?_⟩
    tm_at "rd"
    have s3 : Same H2 (upd H2 l0 (.lst [.non])) := Same.new (Same.refl H2) hl0
    refine rd_rep upd_same (by omega) (by omega) (Nat.le_trans (show 1 * (n : Int).toNat ≤ 1024 by rw [Int.toNat_natCast]; omega) (by decide)) fun ls hls => ?_
    rw [Int.toNat_natCast, rep_svs]
    generalize upd H2 l0 (.lst [.non]) = H3 at s3 hls
    have emptyS : Settled n (hm n) (List.replicate n none) := ⟨by simp, loc_rep, by rw [who_rep]; exact n0⟩
    have s4 : Same H3 (upd H3 ls (.lst (svs (List.replicate n none)))) := Same.new (Same.refl H3) hls
    have hs4 : upd H3 ls (.lst (svs (List.replicate n none))) ls = some (.lst (svs (List.replicate n none))) := upd_same
    generalize upd H3 ls (.lst (svs (List.replicate n none))) = H4 at s4 hs4
    tm_at "rd"
    have hg4 : H4 lg = some (.lst (gs.map V.int)) := s4 _ _ (s3 _ _ hg2)
    have hgs : ∀ {H'}, Same H3 H' → H' lg = some (.lst (gs.map V.int)) := fun sm => sm _ _ (s3 _ _ hg2)
    refine ⟨lg, rfl, ⟨_, SqL.of hg4⟩, for_list (xs := gs.map V.int) (fun i σ H' => ∃ (t : Seats) (v5 : Option V), σ = [some (.ref a), some (.int (n : Int)), some (.int b), some (.ref lg), some (.ref ls), v5, none, none, none, none, none, none, none, none, none] ∧ Same H3 H' ∧ H' ls = some (.lst (svs t)) ∧ Settled n (hm n) t ∧ (who t).Perm (gs.take i))
      ⟨List.replicate n none, _, rfl, s4, hs4, emptyS, by rw [who_rep, List.take_zero]⟩ (fun i σ H' _ h => by obtain ⟨_, _, _, sm, _⟩ := h; exact SqL.of (hgs sm)) ?_ ?_⟩
    · rintro i x σ H' hx ⟨t, v5, rfl, sm, hsl, St, hperm⟩
      rw [List.getElem?_map] at hx
      obtain ⟨g, hgi, rfl⟩ := Option.map_eq_some_iff.mp hx
      have hil := (List.getElem?_eq_some_iff.mp hgi).1
      have tl : t.length = n := St.len
      have hng : g ∉ who t := fun z => not_in_take hnd' hgi (hperm.mem_iff.mp z)
      have hroom : (who t).length + 1 < n := by
        rw [hperm.length_eq, List.length_take]
        omega
      have hc := comes_ok n2 hh St hng
      tm_at "rd"
      refine ⟨ls, t, g, rfl, hsl, by rw [tl]; exact St.empty, ?_⟩
      tm_at "rd"
      rw [tl]
      refine ⟨comes n (hm n) t g, _, rfl, fun bb u e => ?_, upd_same, comes_settled n2 hh St hng hroom, ?_⟩
      · have ne : bb ≠ ls := fun z => by rw [z, hls] at e; cases e
        rw [upd_ne ne]
        exact sm _ _ e
      · rw [take_succ_get hgi]
        exact hc.2.2.trans ((List.Perm.cons g hperm).trans (List.perm_append_comm (l₁ := [g])))
    · rintro σ H5 ⟨t, v5, rfl, sm5, hs5, St, hperm⟩
      rw [List.length_map, List.take_length] at hperm
      have tl : t.length = n := St.len
      have St' : Settled t.length (hm t.length) t := by rw [tl]; exact St
      have hg5 := hgs sm5
      have s5 : Same H H5 := (s2.trans s3).trans sm5
      tm_at "rd"
      refine ⟨a, ns, _, rfl, s5.seq hS, by decide, ?_⟩
      tm_at "rd"
      refine ⟨_, b, rfl, b0, b1, fun s0 g0 g1 => ?_⟩
      tm_at "rd"
      refine ⟨fun m σ H' => H5 = H' ∧ ∃ i : Nat, σ = [some (.ref a), some (.int (n : Int)), some (.int b), some (.ref lg), some (.ref ls), v5, some (.int ((s0 + (i : Int)) % P60)), none, none, none, none, none, none, none, none] ∧ m = offs gs s0 i ∧ i + m ≤ gs.length, ⟨_, rfl, 0, ?_, rfl, by rw [Nat.zero_add]; exact offs_le⟩, ?_⟩
      · rw [show s0 + ((0 : Nat) : Int) = s0 by omega, Int.emod_eq_of_lt g0 g1]
        rfl
      rintro m σ H' ⟨rfl, i, rfl, hm0, him⟩
      tm_at "rd"
      refine rd_in (SqL.of hg5) rfl (ints_flat _) ?_
      rw [inV_ints]
      tm_at "rd"
      refine iteD (fun hin => ?_) (fun hst => ?_)
      · refine ⟨_, fun _ _ h => h, ?_⟩
        tm_at "rd"
        rw [p60]
        rw [next_stranger]
        have hlt := offs_lt (by omega) hin
        exact ⟨offs gs s0 (i + 1), by omega, rfl, i + 1, rfl, rfl, by omega⟩
      have st0 := Int.emod_nonneg (s0 + (i : Int)) (show P60 ≠ 0 by decide)
      have st1 := Int.emod_lt_of_pos (s0 + (i : Int)) (show 0 < P60 by decide)
      generalize (s0 + (i : Int)) % P60 = st at hst st0 st1
      tm_at "rd"
      have h21 : 2 ≤ t.length ∧ t.length ≤ 1024 := by omega
      have hstn : st ∉ who t := fun z => hst (hperm.mem_iff.mp z)
      refine ⟨_, _, rfl, .inl (SqL.of hs5), fun lh hlh => ?_⟩
      have s6 : Same H5 (upd H5 lh (.lst (svs t))) := Same.new (Same.refl H5) hlh
      have hh6 : upd H5 lh (.lst (svs t)) lh = some (.lst (svs t)) := upd_same
      generalize upd H5 lh (.lst (svs t)) = H6 at s6 hh6
      tm_at "rd"
      refine .inr ⟨lh, t, st, rfl, SqL.of hh6, St', h21.1, h21.2, st0, st1, hstn, fun l1 H7 s7 hl1 => ?_⟩
      tm_at "rd"
      refine ⟨(by show 3 ≤ sizeLine; decide), fun l2 hl2 => ?_⟩
      have s8 : Same H7 (upd H7 l2 (.lst ((flg false true).map V.bl))) := Same.new (Same.refl H7) hl2
      refine ⟨l1, l2, _, (flg false true).map V.bl, rfl, rfl, SqL.of (s8 _ _ hl1), SqL.of upd_same, bls_flat _, bls_flat _, ?_⟩
      rw [eqVs_bls]
      tm_at "rd"
      refine iteN (fun z => absurd rfl z) (fun _ => ?_)
      tm_at "rd"
      have s58 : Same H6 (upd H7 l2 (.lst ((flg false true).map V.bl))) := s7.trans s8
      rw [show ([V.bl false, V.bl true, V.bl true] : List V) = (flg false true).map V.bl from rfl]
      generalize upd H7 l2 (.lst ((flg false true).map V.bl)) = H8 at s58
      refine ⟨a, ns, _, rfl, s58.seq (s6.seq (s5.seq hS)), by decide, ?_⟩
      tm_at "rd"
      refine ⟨_, rfl, fun x H9 bad9 s9 => ?_⟩
      tm_at "rd"
      refine .inl ⟨lh, x, rfl, bad9, fun l3 H10 s10 hl3 => ?_⟩
      tm_at "rd"
      refine ⟨(by show 3 ≤ sizeLine; decide), fun l4 hl4 => ?_⟩
      have s11 : Same H10 (upd H10 l4 (.lst ((flg true false).map V.bl))) := Same.new (Same.refl H10) hl4
      refine ⟨l3, l4, _, (flg true false).map V.bl, rfl, rfl, SqL.of (s11 _ _ hl3), SqL.of upd_same, bls_flat _, bls_flat _, ?_⟩
      rw [eqVs_bls]
      tm_at "rd"
      refine iteN (fun z => absurd rfl z) (fun _ => ?_)
      tm_at "rd"
      have s611 : Same H6 (upd H10 l4 (.lst ((flg true false).map V.bl))) := ((s58.trans s9).trans s10).trans s11
      rw [show ([V.bl true, V.bl false, V.bl true] : List V) = (flg true false).map V.bl from rfl]
      generalize upd H10 l4 (.lst ((flg true false).map V.bl)) = H11 at s611
      refine ⟨lh, ls, t, rfl, s611 _ _ hh6, s611 _ _ (s6 _ _ hs5), fun H12 s12 => ?_⟩
      tm_at "rd"
      refine iteF ?_
      tm_at "rd"
      have s612 : Same H6 H12 := s611.trans s12
      have s512 : Same H5 H12 := s6.trans s612
      refine rd_join (fun σ H' => Same H12 H' ∧ ∃ v14 : Option V, σ = [some (.ref a), some (.int (n : Int)), some (.int b), some (.ref lg), some (.ref ls), v5, some (.int st), some (.ref lh), some x, none, none, none, none, none, v14]) ?_ ?_
      · tm_at "rd"
        refine ⟨_, _, rfl, .inl (SqL.of (s512 _ _ hg5)), ?_⟩
        rw [List.length_map]
        tm_at "rd"
        refine iteD (fun hroom => ?_) (fun _ => ?_)
        · have hroom' : (who t).length + 1 < t.length := by rw [hperm.length_eq, tl]; omega
          tm_at "rd"
          refine .inl ⟨lh, t, st, rfl, SqL.of (s612 _ _ hh6), St', h21.2, st0, st1, fun z => absurd z hstn, fun _ z => by omega, fun _ _ lm hlm => ?_⟩
          have s13 : Same H12 (upd H12 lm (.lst (svs (comes t.length (hm t.length) t st)))) := Same.new (Same.refl H12) hlm
          have hm13 : upd H12 lm (.lst (svs (comes t.length (hm t.length) t st))) lm = some (.lst (svs (comes t.length (hm t.length) t st))) := upd_same
          rw [tl] at s13 hm13 ⊢
          tm_at "rd"
          generalize upd H12 lm (.lst (svs (comes n (hm n) t st))) = H13 at s13 hm13
          have hc := comes_ok n2 hh St hstn
          have hcs := comes_settled n2 hh St hstn (by rw [tl] at hroom'; exact hroom')
          have cl' : (comes n (hm n) t st).length = n := hc.1
          have hcs' : Settled (comes n (hm n) t st).length (hm (comes n (hm n) t st).length) (comes n (hm n) t st) := by rw [cl']; exact hcs
          refine ⟨(by show 1 ≤ sizeLine; decide), fun l5 hl5 => ?_⟩
          tm_at "rd"
          refine rd_cat (upd_old (s13 _ _ (s512 _ _ hg5)) hl5) upd_same (Nat.le_trans (show (gs.map V.int).length + 1 ≤ 1024 by rw [List.length_map]; omega) (by decide)) fun l6 hl6 => ?_
          have e6 : gs.map V.int ++ [V.int st] = (gs ++ [st]).map V.int := by rw [List.map_append]; rfl
          rw [e6]
          have s14 : Same H13 (upd (upd H13 l5 (.lst [.int st])) l6 (.lst ((gs ++ [st]).map V.int))) := Same.new (Same.new (Same.refl H13) hl5) hl6
          have h614 : upd (upd H13 l5 (.lst [.int st])) l6 (.lst ((gs ++ [st]).map V.int)) l6 = some (.lst ((gs ++ [st]).map V.int)) := upd_same
          generalize upd (upd H13 l5 (.lst [.int st])) l6 (.lst ((gs ++ [st]).map V.int)) = H14 at s14 h614
          tm_at "rd"
          refine ⟨lm, l6, comes n (hm n) t st, gs ++ [st], by rw [cl'], s14 _ _ hm13, SqL.of h614, by rw [cl']; exact n3, hcs', ?_, ?_, fun H15 s15 => ?_⟩
          · exact hc.2.2.trans ((List.Perm.cons st hperm).trans (List.perm_append_comm (l₁ := [st])))
          · rw [List.length_append]
            show gs.length + 1 < 64
            omega
          tm_at "rd"
          refine iteF ?_
          tm_at "rd"
          refine .inl ⟨lm, comes n (hm n) t st, st, rfl, SqL.of (s15 _ _ (s14 _ _ hm13)), hcs', by rw [cl']; exact n2, by rw [cl']; exact n3, st0, st1, fun z => absurd (hc.2.2.mem_iff.mpr (List.mem_cons_self ..)) z, fun _ lo r hlo hr hrR => ?_⟩
          rw [cl'] at hr
          have hrt : r = t := hr.unique hh St fun g => (hrR (who t) hc.2.2).mem_iff
          have s16 : Same H15 (upd H15 lo (.lst (svs r))) := Same.new (Same.refl H15) hlo
          have s1216 : Same H12 (upd H15 lo (.lst (svs r))) := ((s13.trans s14).trans s15).trans s16
          have h16 : upd H15 lo (.lst (svs r)) lo = some (.lst (svs t)) := by rw [hrt]; exact upd_same
          generalize upd H15 lo (.lst (svs r)) = H16 at s16 s1216 h16
          tm_at "rd"
          refine ⟨lo, ls, t, rfl, h16, s1216 _ _ (s512 _ _ hs5), fun H17 s17 => ?_⟩
          tm_at "rd"
          refine iteF ?_
          tm_at "rd"
          exact ⟨s1216.trans s17, _, rfl⟩
        · tm_at "rd"
          exact ⟨Same.refl _, _, rfl⟩
      rintro σ H18 ⟨s18, v14, rfl⟩
      have s618 : Same H6 H18 := s612.trans s18
      have s518 : Same H5 H18 := s6.trans s618
      tm_at "rd"
      refine ⟨(by show 0 ≤ sizeLine; decide), fun l7 hl7 => ?_⟩
      have s19 : Same H18 (upd H18 l7 (.lst [])) := Same.new (Same.refl H18) hl7
      refine ⟨lg, l7, _, ([] : List Int).map V.int, rfl, rfl, SqL.of (s19 _ _ (s518 _ _ hg5)), SqL.of upd_same, ints_flat _, rfl, ?_⟩
      rw [eqVs_ints]
      tm_at "rd"
      generalize upd H18 l7 (.lst []) = H19 at s19
      have s619 : Same H6 H19 := s618.trans s19
      have s519 : Same H5 H19 := s6.trans s619
      refine iteD (fun _ => ?_) (fun hne => ?_)
      · tm_at "rd"
        exact ⟨lh, ls, t, rfl, s619 _ _ hh6, s519 _ _ hs5, fun H20 _ => k H20⟩
      tm_at "rd"
      refine ⟨a, ns, _, rfl, s519.seq (s5.seq hS), by decide, ?_⟩
      tm_at "rd"
      refine ⟨_, _, rfl, .inl (SqL.of (s519 _ _ hg5)), ?_⟩
      rw [List.length_map]
      have hpos : (0 : Int) < (gs.length : Int) := by
        rcases Nat.eq_zero_or_pos gs.length with z | z
        · exact absurd (List.length_eq_zero_iff.mp z) hne
        · omega
      tm_at "rd"
      have a1 := Int.emod_nonneg (cellF ns 2 * 48271 % 2147483629) (show (gs.length : Int) ≠ 0 by omega)
      have a2 := Int.emod_lt_of_pos (cellF ns 2 * 48271 % 2147483629) hpos
      obtain ⟨j, hj⟩ := Int.eq_ofNat_of_zero_le a1
      have hjl : j < gs.length := by omega
      rw [hj]
      refine rd_ixL (SqL.of (s519 _ _ hg5)) (atI_ints hjl) ?_
      have hgm : gs[j] ∈ gs := List.getElem_mem hjl
      obtain ⟨go0, go1⟩ := hb' gs[j] hgm
      generalize gs[j] = go at hgm go0 go1
      have hgow : go ∈ who t := hperm.mem_iff.mpr hgm
      tm_at "rd"
      refine .inl ⟨lh, t, go, rfl, SqL.of (s619 _ _ hh6), St', h21.1, h21.2, go0, go1, fun z => absurd hgow z, fun _ lf r hlf hr hrR => ?_⟩
      rw [tl] at hr
      have rl : r.length = n := hr.len
      have hr' : Settled r.length (hm r.length) r := by rw [rl]; exact hr
      have hrp : (who r).Perm (gs.filter fun x => !decide (x = go)) := hrR _ (hperm.trans (perm_out hnd' hgm))
      have hgp := perm_out hnd' hgm
      have s20 : Same H19 (upd H19 lf (.lst (svs r))) := Same.new (Same.refl H19) hlf
      have hf20 : upd H19 lf (.lst (svs r)) lf = some (.lst (svs r)) := upd_same
      have hfh : lf ≠ lh := fun z => by rw [z, s619 _ _ hh6] at hlf; cases hlf
      generalize upd H19 lf (.lst (svs r)) = H20 at s20 hf20
      have s620 : Same H6 H20 := s619.trans s20
      have s520 : Same H5 H20 := s6.trans s620
      tm_at "rd"
      refine ⟨lg, rfl, ⟨_, SqL.of (s520 _ _ hg5)⟩, ?_⟩
      refine comp_gen (own := 1) (fr := [9]) (n := gs.length) (p := fun i => !decide (gs.getD i 0 = go)) (f := fun i => .int (gs.getD i 0)) (S := fun σ => ∃ v, σ = [v, some (.int go)]) ⟨_, rfl⟩ (Nat.le_trans (show gs.length ≤ 1024 by omega) (by decide)) (fun i H' x H'' _ _ y => ?_) (fun i σ H' hi hσ sm => ?_) (fun H' sm => ?_) (fun lo H21 hlo s21 hH21 => ?_)
      · obtain ⟨rfl, _⟩ := y
        exact Same.refl _
      · obtain ⟨v, rfl⟩ := hσ
        have hg : (gs.map V.int)[i]? = some (.int (gs.getD i 0)) := by
          rw [List.getElem?_map, List.getD_eq_getElem?_getD, List.getElem?_eq_getElem hi]
          rfl
        have hgg := SqL.of (K := K) (sm _ _ (s520 _ _ hg5))
        refine ⟨⟨_, _, hgg, hg⟩, ?_⟩
        rintro x H'' ⟨rfl, hx⟩ R R0 h1 h0
        have hx' := hx _ hgg
        rw [hg] at hx'
        cases hx'
        tm_at "rd"
        refine iteN (fun hd => ?_) (fun hd => ?_)
        · tm_at "rd"
          exact h1 (by rw [decide_eq_false hd]; rfl) [some (.int (gs.getD i 0)), some (.int go)] H'' ⟨_, rfl⟩ (Same.refl _)
        · exact h0 (by rw [decide_eq_true hd]; rfl) _ _ ⟨_, rfl⟩ (Same.refl _)
      · exact ⟨_, SqL.of (sm _ _ (s520 _ _ hg5)), by rw [List.length_map]; exact Nat.le_refl _⟩
      rw [filter_range gs fun x => !decide (x = go)] at hH21
      have hfl : (gs.filter fun x => !decide (x = go)).length + 1 = gs.length := by
        have := hgp.length_eq
        rw [List.length_cons] at this
        omega
      tm_at "rd"
      refine ⟨lf, lo, r, _, by rw [rl], s21 _ _ hf20, SqL.of hH21, by rw [rl]; exact n3, hr', hrp, by omega, fun H22 s22 => ?_⟩
      tm_at "rd"
      refine iteF ?_
      tm_at "rd"
      have s2022 : Same H20 H22 := s21.trans s22
      have s622 : Same H6 H22 := s620.trans s2022
      have s522 : Same H5 H22 := s6.trans s622
      refine ⟨lh, ls, t, rfl, s622 _ _ hh6, s522 _ _ hs5, fun H23 s23 => ?_⟩
      tm_at "rd"
      refine iteF ?_
      tm_at "rd"
      have s2023 := s2022.trans s23
      have s623 := s622.trans s23
      have s523 := s522.trans s23
      refine ⟨_, _, rfl, .inl (SqL.of (s2023 _ _ hf20)), fun lk hlk => ?_⟩
      have s24 : Same H23 (upd H23 lk (.lst (svs r))) := Same.new (Same.refl H23) hlk
      have hk24 : upd H23 lk (.lst (svs r)) lk = some (.lst (svs r)) := upd_same
      have hkh : lk ≠ lh := fun z => by rw [z, s623 _ _ hh6] at hlk; cases hlk
      generalize upd H23 lk (.lst (svs r)) = H24 at s24 hk24
      have s2024 := s2023.trans s24
      have s524 := s523.trans s24
      have hsh : ls ≠ lh := fun z => by rw [← z, hs5] at hlh; cases hlh
      tm_at "rd"
      refine ⟨rd_tyL rfl (SqL.of ((s623.trans s24) _ _ hh6)), ?_⟩
      tm_at "rd"
      refine ⟨lh, _, rfl, rfl, (s623.trans s24) _ _ hh6, ?_⟩
      have hf25 : upd H24 lh (.lst []) lf = some (.lst (svs r)) := by rw [upd_ne hfh]; exact s2024 _ _ hf20
      have hk25 : upd H24 lh (.lst []) lk = some (.lst (svs r)) := by rw [upd_ne hkh]; exact hk24
      have hs25 : upd H24 lh (.lst []) ls = some (.lst (svs t)) := by rw [upd_ne hsh]; exact s524 _ _ hs5
      generalize upd H24 lh (.lst []) = H25 at hf25 hk25 hs25
      tm_at "rd"
      have hgor : go ∉ who r := fun z => by
        have := (List.mem_filter.mp (hrp.mem_iff.mp z)).2
        rw [decide_eq_true rfl] at this
        cases this
      refine .inl ⟨lf, r, go, rfl, SqL.of hf25, hr', by rw [rl]; exact n3, go0, go1, fun z => absurd z hgor, fun _ z => ?_, fun _ _ la hla => ?_⟩
      · rw [rl, hrp.length_eq] at z
        omega
      have hc := comes_ok n2 hh hr hgor
      have hroom : (who r).length + 1 < n := by rw [hrp.length_eq]; omega
      have hcs := comes_settled n2 hh hr hgor hroom
      have hct : comes n (hm n) r go = t := hcs.unique hh St fun g => (hc.2.2.trans ((List.Perm.cons go hrp).trans (hgp.symm.trans hperm.symm))).mem_iff
      rw [rl, hct]
      have s26 : Same H25 (upd H25 la (.lst (svs t))) := Same.new (Same.refl H25) hla
      have ha26 : upd H25 la (.lst (svs t)) la = some (.lst (svs t)) := upd_same
      generalize upd H25 la (.lst (svs t)) = H26 at s26 ha26
      tm_at "rd"
      refine ⟨la, ls, t, rfl, ha26, s26 _ _ hs25, fun H27 s27 => ?_⟩
      tm_at "rd"
      refine iteT ?_
      tm_at "rd"
      exact ⟨lf, lk, r, rfl, s27 _ _ (s26 _ _ hf25), s27 _ _ (s26 _ _ hk25), fun H28 _ => k H28⟩

end

theorem all_mk {l : PySem.W.OpenLaw} {w : World} {K : PySem.W.Frag} {h : Heap} {mg : Str → Option Value} {fa : Addr} (X : K.In h) (G : h.Ns mainGlobals mg) (hfa : mg "law" = some (.ref fa))
    {c_RingError : Addr}
    {c_NoGuest : Addr} {cd_NoGuest : ClassData}
    {c_NoSize : Addr} {cd_NoSize : ClassData}
    {c_Twice : Addr} {cd_Twice : ClassData}
    {c_Away : Addr} {cd_Away : ClassData}
    {c_Full : Addr} {cd_Full : ClassData}
    {t_FACTOR : Tok}
    {t_SPREAD : Tok}
    {f_is_whole : Addr} {od_is_whole an_is_whole : Option Addr} {sl_is_whole : Array (Option Value)} {oc_is_whole kV_is_whole dc_is_whole pm_is_whole cd_is_whole ct_is_whole : Value}
    {f_is_guest : Addr} {od_is_guest an_is_guest : Option Addr} {sl_is_guest : Array (Option Value)} {oc_is_guest kV_is_guest dc_is_guest pm_is_guest cd_is_guest ct_is_guest : Value}
    {f_home : Addr} {od_home an_home : Option Addr} {sl_home : Array (Option Value)} {oc_home kV_home dc_home pm_home cd_home ct_home : Value}
    {f_carried : Addr} {od_carried an_carried : Option Addr} {sl_carried : Array (Option Value)} {oc_carried kV_carried dc_carried pm_carried cd_carried ct_carried : Value}
    {f_ahead : Addr} {od_ahead an_ahead : Option Addr} {sl_ahead : Array (Option Value)} {oc_ahead kV_ahead dc_ahead pm_ahead cd_ahead ct_ahead : Value}
    {f_check_guest : Addr} {od_check_guest an_check_guest : Option Addr} {sl_check_guest : Array (Option Value)} {oc_check_guest kV_check_guest dc_check_guest pm_check_guest cd_check_guest ct_check_guest : Value}
    {f_passed : Addr} {od_passed an_passed : Option Addr} {sl_passed : Array (Option Value)} {oc_passed kV_passed dc_passed pm_passed cd_passed ct_passed : Value}
    {f_place_of : Addr} {od_place_of an_place_of : Option Addr} {sl_place_of : Array (Option Value)} {oc_place_of kV_place_of dc_place_of pm_place_of cd_place_of ct_place_of : Value}
    {f_seat_in : Addr} {od_seat_in an_seat_in : Option Addr} {sl_seat_in : Array (Option Value)} {oc_seat_in kV_seat_in dc_seat_in pm_seat_in cd_seat_in ct_seat_in : Value}
    {f_put : Addr} {od_put an_put : Option Addr} {sl_put : Array (Option Value)} {oc_put kV_put dc_put pm_put cd_put ct_put : Value}
    {f_seat_out : Addr} {od_seat_out an_seat_out : Option Addr} {sl_seat_out : Array (Option Value)} {oc_seat_out kV_seat_out dc_seat_out pm_seat_out cd_seat_out ct_seat_out : Value}
    {f_l_cell_at : Addr} {od_l_cell_at an_l_cell_at : Option Addr} {sl_l_cell_at : Array (Option Value)} {oc_l_cell_at kV_l_cell_at dc_l_cell_at pm_l_cell_at cd_l_cell_at ct_l_cell_at : Value}
    {f_l_whole : Addr} {od_l_whole an_l_whole : Option Addr} {sl_l_whole : Array (Option Value)} {oc_l_whole kV_l_whole dc_l_whole pm_l_whole cd_l_whole ct_l_whole : Value}
    {f_l_home : Addr} {od_l_home an_l_home : Option Addr} {sl_l_home : Array (Option Value)} {oc_l_home kV_l_home dc_l_home pm_l_home cd_l_home ct_l_home : Value}
    {f_l_base : Addr} {od_l_base an_l_base : Option Addr} {sl_l_base : Array (Option Value)} {oc_l_base kV_l_base dc_l_base pm_l_base cd_l_base ct_l_base : Value}
    {f_l_guest : Addr} {od_l_guest an_l_guest : Option Addr} {sl_l_guest : Array (Option Value)} {oc_l_guest kV_l_guest dc_l_guest pm_l_guest cd_l_guest ct_l_guest : Value}
    {f_l_drawn : Addr} {od_l_drawn an_l_drawn : Option Addr} {sl_l_drawn : Array (Option Value)} {oc_l_drawn kV_l_drawn dc_l_drawn pm_l_drawn cd_l_drawn ct_l_drawn : Value}
    {f_l_put : Addr} {od_l_put an_l_put : Option Addr} {sl_l_put : Array (Option Value)} {oc_l_put kV_l_put dc_l_put pm_l_put cd_l_put ct_l_put : Value}
    {f_l_settled : Addr} {od_l_settled an_l_settled : Option Addr} {sl_l_settled : Array (Option Value)} {oc_l_settled kV_l_settled dc_l_settled pm_l_settled cd_l_settled ct_l_settled : Value}
    {f_l_same : Addr} {od_l_same an_l_same : Option Addr} {sl_l_same : Array (Option Value)} {oc_l_same kV_l_same dc_l_same pm_l_same cd_l_same ct_l_same : Value}
    {f_l_odd : Addr} {od_l_odd an_l_odd : Option Addr} {sl_l_odd : Array (Option Value)} {oc_l_odd kV_l_odd dc_l_odd pm_l_odd cd_l_odd ct_l_odd : Value}
    {f_l_refused : Addr} {od_l_refused an_l_refused : Option Addr} {sl_l_refused : Array (Option Value)} {oc_l_refused kV_l_refused dc_l_refused pm_l_refused cd_l_refused ct_l_refused : Value}
    {f_law : Addr} {od_law an_law : Option Addr} {sl_law : Array (Option Value)} {oc_law kV_law dc_law pm_law cd_law ct_law : Value}
    (cm_RingError : PySem.W.nsIn K mainGlobals "RingError" = some (some (.ref c_RingError)))
    (cm_NoGuest : PySem.W.nsIn K mainGlobals "NoGuest" = some (some (.ref c_NoGuest)))
    (cm_NoSize : PySem.W.nsIn K mainGlobals "NoSize" = some (some (.ref c_NoSize)))
    (cm_Twice : PySem.W.nsIn K mainGlobals "Twice" = some (some (.ref c_Twice)))
    (cm_Away : PySem.W.nsIn K mainGlobals "Away" = some (some (.ref c_Away)))
    (cm_Full : PySem.W.nsIn K mainGlobals "Full" = some (some (.ref c_Full)))
    (ce_NoGuest : PySem.W.excIn K c_NoGuest veTail "ValueError.__new__" = true)
    (cf1_NoGuest : PySem.W.findIn K (.ref c_NoGuest) "__class__" = some (some (.builtin "object.__class__")))
    (cf2_NoGuest : PySem.W.findIn K (.ref c_NoGuest) "__getattribute__" = some (some (.builtin "BaseException.__getattribute__")))
    (cf3_NoGuest : PySem.W.findIn K (.ref c_NoGuest) "__getattr__" = some none)
    (cf4_NoGuest : PySem.W.mroIn K c_NoGuest (.type "object") = some true)
    (cf5_NoGuest : PySem.W.subIn K (.ref c_NoGuest) (.type "BaseException") = some true)
    (cc_NoGuest : PySem.W.clsIn K c_NoGuest = some cd_NoGuest)
    (cx_NoGuest : PySem.W.exmOne K (.ref c_NoGuest) (.ref c_RingError) = some true)
    (cv_NoGuest : PySem.W.kitOne K (.ref c_NoGuest) (.type "ValueError") = some true)
    (ci_NoGuest_RingError : PySem.W.kitOne K (.ref c_NoGuest) (.ref c_RingError) = some true)
    (ci_NoGuest_NoGuest : PySem.W.kitOne K (.ref c_NoGuest) (.ref c_NoGuest) = some true)
    (ci_NoGuest_NoSize : PySem.W.kitOne K (.ref c_NoGuest) (.ref c_NoSize) = some false)
    (ci_NoGuest_Twice : PySem.W.kitOne K (.ref c_NoGuest) (.ref c_Twice) = some false)
    (ci_NoGuest_Away : PySem.W.kitOne K (.ref c_NoGuest) (.ref c_Away) = some false)
    (ci_NoGuest_Full : PySem.W.kitOne K (.ref c_NoGuest) (.ref c_Full) = some false)
    (ce_NoSize : PySem.W.excIn K c_NoSize veTail "ValueError.__new__" = true)
    (cf1_NoSize : PySem.W.findIn K (.ref c_NoSize) "__class__" = some (some (.builtin "object.__class__")))
    (cf2_NoSize : PySem.W.findIn K (.ref c_NoSize) "__getattribute__" = some (some (.builtin "BaseException.__getattribute__")))
    (cf3_NoSize : PySem.W.findIn K (.ref c_NoSize) "__getattr__" = some none)
    (cf4_NoSize : PySem.W.mroIn K c_NoSize (.type "object") = some true)
    (cf5_NoSize : PySem.W.subIn K (.ref c_NoSize) (.type "BaseException") = some true)
    (cc_NoSize : PySem.W.clsIn K c_NoSize = some cd_NoSize)
    (cx_NoSize : PySem.W.exmOne K (.ref c_NoSize) (.ref c_RingError) = some true)
    (cv_NoSize : PySem.W.kitOne K (.ref c_NoSize) (.type "ValueError") = some true)
    (ci_NoSize_RingError : PySem.W.kitOne K (.ref c_NoSize) (.ref c_RingError) = some true)
    (ci_NoSize_NoGuest : PySem.W.kitOne K (.ref c_NoSize) (.ref c_NoGuest) = some false)
    (ci_NoSize_NoSize : PySem.W.kitOne K (.ref c_NoSize) (.ref c_NoSize) = some true)
    (ci_NoSize_Twice : PySem.W.kitOne K (.ref c_NoSize) (.ref c_Twice) = some false)
    (ci_NoSize_Away : PySem.W.kitOne K (.ref c_NoSize) (.ref c_Away) = some false)
    (ci_NoSize_Full : PySem.W.kitOne K (.ref c_NoSize) (.ref c_Full) = some false)
    (ce_Twice : PySem.W.excIn K c_Twice veTail "ValueError.__new__" = true)
    (cf1_Twice : PySem.W.findIn K (.ref c_Twice) "__class__" = some (some (.builtin "object.__class__")))
    (cf2_Twice : PySem.W.findIn K (.ref c_Twice) "__getattribute__" = some (some (.builtin "BaseException.__getattribute__")))
    (cf3_Twice : PySem.W.findIn K (.ref c_Twice) "__getattr__" = some none)
    (cf4_Twice : PySem.W.mroIn K c_Twice (.type "object") = some true)
    (cf5_Twice : PySem.W.subIn K (.ref c_Twice) (.type "BaseException") = some true)
    (cc_Twice : PySem.W.clsIn K c_Twice = some cd_Twice)
    (cx_Twice : PySem.W.exmOne K (.ref c_Twice) (.ref c_RingError) = some true)
    (cv_Twice : PySem.W.kitOne K (.ref c_Twice) (.type "ValueError") = some true)
    (ci_Twice_RingError : PySem.W.kitOne K (.ref c_Twice) (.ref c_RingError) = some true)
    (ci_Twice_NoGuest : PySem.W.kitOne K (.ref c_Twice) (.ref c_NoGuest) = some false)
    (ci_Twice_NoSize : PySem.W.kitOne K (.ref c_Twice) (.ref c_NoSize) = some false)
    (ci_Twice_Twice : PySem.W.kitOne K (.ref c_Twice) (.ref c_Twice) = some true)
    (ci_Twice_Away : PySem.W.kitOne K (.ref c_Twice) (.ref c_Away) = some false)
    (ci_Twice_Full : PySem.W.kitOne K (.ref c_Twice) (.ref c_Full) = some false)
    (ce_Away : PySem.W.excIn K c_Away veTail "ValueError.__new__" = true)
    (cf1_Away : PySem.W.findIn K (.ref c_Away) "__class__" = some (some (.builtin "object.__class__")))
    (cf2_Away : PySem.W.findIn K (.ref c_Away) "__getattribute__" = some (some (.builtin "BaseException.__getattribute__")))
    (cf3_Away : PySem.W.findIn K (.ref c_Away) "__getattr__" = some none)
    (cf4_Away : PySem.W.mroIn K c_Away (.type "object") = some true)
    (cf5_Away : PySem.W.subIn K (.ref c_Away) (.type "BaseException") = some true)
    (cc_Away : PySem.W.clsIn K c_Away = some cd_Away)
    (cx_Away : PySem.W.exmOne K (.ref c_Away) (.ref c_RingError) = some true)
    (cv_Away : PySem.W.kitOne K (.ref c_Away) (.type "ValueError") = some true)
    (ci_Away_RingError : PySem.W.kitOne K (.ref c_Away) (.ref c_RingError) = some true)
    (ci_Away_NoGuest : PySem.W.kitOne K (.ref c_Away) (.ref c_NoGuest) = some false)
    (ci_Away_NoSize : PySem.W.kitOne K (.ref c_Away) (.ref c_NoSize) = some false)
    (ci_Away_Twice : PySem.W.kitOne K (.ref c_Away) (.ref c_Twice) = some false)
    (ci_Away_Away : PySem.W.kitOne K (.ref c_Away) (.ref c_Away) = some true)
    (ci_Away_Full : PySem.W.kitOne K (.ref c_Away) (.ref c_Full) = some false)
    (ce_Full : PySem.W.excIn K c_Full veTail "ValueError.__new__" = true)
    (cf1_Full : PySem.W.findIn K (.ref c_Full) "__class__" = some (some (.builtin "object.__class__")))
    (cf2_Full : PySem.W.findIn K (.ref c_Full) "__getattribute__" = some (some (.builtin "BaseException.__getattribute__")))
    (cf3_Full : PySem.W.findIn K (.ref c_Full) "__getattr__" = some none)
    (cf4_Full : PySem.W.mroIn K c_Full (.type "object") = some true)
    (cf5_Full : PySem.W.subIn K (.ref c_Full) (.type "BaseException") = some true)
    (cc_Full : PySem.W.clsIn K c_Full = some cd_Full)
    (cx_Full : PySem.W.exmOne K (.ref c_Full) (.ref c_RingError) = some true)
    (cv_Full : PySem.W.kitOne K (.ref c_Full) (.type "ValueError") = some true)
    (ci_Full_RingError : PySem.W.kitOne K (.ref c_Full) (.ref c_RingError) = some true)
    (ci_Full_NoGuest : PySem.W.kitOne K (.ref c_Full) (.ref c_NoGuest) = some false)
    (ci_Full_NoSize : PySem.W.kitOne K (.ref c_Full) (.ref c_NoSize) = some false)
    (ci_Full_Twice : PySem.W.kitOne K (.ref c_Full) (.ref c_Twice) = some false)
    (ci_Full_Away : PySem.W.kitOne K (.ref c_Full) (.ref c_Away) = some false)
    (ci_Full_Full : PySem.W.kitOne K (.ref c_Full) (.ref c_Full) = some true)
    (n_ValueError : PySem.W.nsIn K mainGlobals "ValueError" = some none)
    (n_len : PySem.W.nsIn K mainGlobals "len" = some none)
    (n_list : PySem.W.nsIn K mainGlobals "list" = some none)
    (n_range : PySem.W.nsIn K mainGlobals "range" = some none)
    (n_zip : PySem.W.nsIn K mainGlobals "zip" = some none)
    (n_isinstance : PySem.W.nsIn K mainGlobals "isinstance" = some none)
    (n_int : PySem.W.nsIn K mainGlobals "int" = some none)
    (n_sorted : PySem.W.nsIn K mainGlobals "sorted" = some none)
    (n_bool : PySem.W.nsIn K mainGlobals "bool" = some none)
    (k_int_int : PySem.W.kitOne K (.type "int") (.type "int") = some true)
    (k_int_bool : PySem.W.kitOne K (.type "int") (.type "bool") = some false)
    (k_bool_int : PySem.W.kitOne K (.type "bool") (.type "int") = some true)
    (k_bool_bool : PySem.W.kitOne K (.type "bool") (.type "bool") = some true)
    (k_NoneType_bool : PySem.W.kitOne K (.type "NoneType") (.type "bool") = some false)
    (k_NoneType_int : PySem.W.kitOne K (.type "NoneType") (.type "int") = some false)
    (k_str_bool : PySem.W.kitOne K (.type "str") (.type "bool") = some false)
    (k_str_int : PySem.W.kitOne K (.type "str") (.type "int") = some false)
    (k_tuple_bool : PySem.W.kitOne K (.type "tuple") (.type "bool") = some false)
    (k_tuple_int : PySem.W.kitOne K (.type "tuple") (.type "int") = some false)
    (k_list_bool : PySem.W.kitOne K (.type "list") (.type "bool") = some false)
    (k_list_int : PySem.W.kitOne K (.type "list") (.type "int") = some false)
    (k_dict_bool : PySem.W.kitOne K (.type "dict") (.type "bool") = some false)
    (k_dict_int : PySem.W.kitOne K (.type "dict") (.type "int") = some false)
    (k_list_list : PySem.W.kitOne K (.type "list") (.type "list") = some true)
    (g_FACTOR : PySem.W.nsIn K mainGlobals "FACTOR" = some (some (.int 40503 t_FACTOR)))
    (g_SPREAD : PySem.W.nsIn K mainGlobals "SPREAD" = some (some (.int 65536 t_SPREAD)))
    (a_is_whole : PySem.W.nsIn K mainGlobals "is_whole" = some (some (.ref f_is_whole)))
    (l_is_whole : K.lookup f_is_whole = some ⟨oc_is_whole, od_is_whole, .func (PySem.W.fnOf "is_whole" "is_whole" (defArgs s_is_whole) (defBody s_is_whole) (defScope s_is_whole) .none kV_is_whole dc_is_whole pm_is_whole an_is_whole cd_is_whole ct_is_whole), sl_is_whole⟩)
    (c_is_whole : PySem.W.codeIn K cd_is_whole "is_whole" = true)
    (k_is_whole : PySem.W.keepIn K (.ref f_is_whole) = true)
    (a_is_guest : PySem.W.nsIn K mainGlobals "is_guest" = some (some (.ref f_is_guest)))
    (l_is_guest : K.lookup f_is_guest = some ⟨oc_is_guest, od_is_guest, .func (PySem.W.fnOf "is_guest" "is_guest" (defArgs s_is_guest) (defBody s_is_guest) (defScope s_is_guest) .none kV_is_guest dc_is_guest pm_is_guest an_is_guest cd_is_guest ct_is_guest), sl_is_guest⟩)
    (c_is_guest : PySem.W.codeIn K cd_is_guest "is_guest" = true)
    (k_is_guest : PySem.W.keepIn K (.ref f_is_guest) = true)
    (a_home : PySem.W.nsIn K mainGlobals "home" = some (some (.ref f_home)))
    (l_home : K.lookup f_home = some ⟨oc_home, od_home, .func (PySem.W.fnOf "home" "home" (defArgs s_home) (defBody s_home) (defScope s_home) .none kV_home dc_home pm_home an_home cd_home ct_home), sl_home⟩)
    (c_home : PySem.W.codeIn K cd_home "home" = true)
    (k_home : PySem.W.keepIn K (.ref f_home) = true)
    (a_carried : PySem.W.nsIn K mainGlobals "carried" = some (some (.ref f_carried)))
    (l_carried : K.lookup f_carried = some ⟨oc_carried, od_carried, .func (PySem.W.fnOf "carried" "carried" (defArgs s_carried) (defBody s_carried) (defScope s_carried) .none kV_carried dc_carried pm_carried an_carried cd_carried ct_carried), sl_carried⟩)
    (c_carried : PySem.W.codeIn K cd_carried "carried" = true)
    (k_carried : PySem.W.keepIn K (.ref f_carried) = true)
    (a_ahead : PySem.W.nsIn K mainGlobals "ahead" = some (some (.ref f_ahead)))
    (l_ahead : K.lookup f_ahead = some ⟨oc_ahead, od_ahead, .func (PySem.W.fnOf "ahead" "ahead" (defArgs s_ahead) (defBody s_ahead) (defScope s_ahead) .none kV_ahead dc_ahead pm_ahead an_ahead cd_ahead ct_ahead), sl_ahead⟩)
    (c_ahead : PySem.W.codeIn K cd_ahead "ahead" = true)
    (k_ahead : PySem.W.keepIn K (.ref f_ahead) = true)
    (a_check_guest : PySem.W.nsIn K mainGlobals "check_guest" = some (some (.ref f_check_guest)))
    (l_check_guest : K.lookup f_check_guest = some ⟨oc_check_guest, od_check_guest, .func (PySem.W.fnOf "check_guest" "check_guest" (defArgs s_check_guest) (defBody s_check_guest) (defScope s_check_guest) .none kV_check_guest dc_check_guest pm_check_guest an_check_guest cd_check_guest ct_check_guest), sl_check_guest⟩)
    (c_check_guest : PySem.W.codeIn K cd_check_guest "check_guest" = true)
    (k_check_guest : PySem.W.keepIn K (.ref f_check_guest) = true)
    (a_passed : PySem.W.nsIn K mainGlobals "passed" = some (some (.ref f_passed)))
    (l_passed : K.lookup f_passed = some ⟨oc_passed, od_passed, .func (PySem.W.fnOf "passed" "passed" (defArgs s_passed) (defBody s_passed) (defScope s_passed) .none kV_passed dc_passed pm_passed an_passed cd_passed ct_passed), sl_passed⟩)
    (c_passed : PySem.W.codeIn K cd_passed "passed" = true)
    (k_passed : PySem.W.keepIn K (.ref f_passed) = true)
    (a_place_of : PySem.W.nsIn K mainGlobals "place_of" = some (some (.ref f_place_of)))
    (l_place_of : K.lookup f_place_of = some ⟨oc_place_of, od_place_of, .func (PySem.W.fnOf "place_of" "place_of" (defArgs s_place_of) (defBody s_place_of) (defScope s_place_of) .none kV_place_of dc_place_of pm_place_of an_place_of cd_place_of ct_place_of), sl_place_of⟩)
    (c_place_of : PySem.W.codeIn K cd_place_of "place_of" = true)
    (k_place_of : PySem.W.keepIn K (.ref f_place_of) = true)
    (a_seat_in : PySem.W.nsIn K mainGlobals "seat_in" = some (some (.ref f_seat_in)))
    (l_seat_in : K.lookup f_seat_in = some ⟨oc_seat_in, od_seat_in, .func (PySem.W.fnOf "seat_in" "seat_in" (defArgs s_seat_in) (defBody s_seat_in) (defScope s_seat_in) .none kV_seat_in dc_seat_in pm_seat_in an_seat_in cd_seat_in ct_seat_in), sl_seat_in⟩)
    (c_seat_in : PySem.W.codeIn K cd_seat_in "seat_in" = true)
    (k_seat_in : PySem.W.keepIn K (.ref f_seat_in) = true)
    (a_put : PySem.W.nsIn K mainGlobals "put" = some (some (.ref f_put)))
    (l_put : K.lookup f_put = some ⟨oc_put, od_put, .func (PySem.W.fnOf "put" "put" (defArgs s_put) (defBody s_put) (defScope s_put) .none kV_put dc_put pm_put an_put cd_put ct_put), sl_put⟩)
    (c_put : PySem.W.codeIn K cd_put "put" = true)
    (k_put : PySem.W.keepIn K (.ref f_put) = true)
    (a_seat_out : PySem.W.nsIn K mainGlobals "seat_out" = some (some (.ref f_seat_out)))
    (l_seat_out : K.lookup f_seat_out = some ⟨oc_seat_out, od_seat_out, .func (PySem.W.fnOf "seat_out" "seat_out" (defArgs s_seat_out) (defBody s_seat_out) (defScope s_seat_out) .none kV_seat_out dc_seat_out pm_seat_out an_seat_out cd_seat_out ct_seat_out), sl_seat_out⟩)
    (c_seat_out : PySem.W.codeIn K cd_seat_out "seat_out" = true)
    (k_seat_out : PySem.W.keepIn K (.ref f_seat_out) = true)
    (a_l_cell_at : PySem.W.nsIn K mainGlobals "_law_cell_at" = some (some (.ref f_l_cell_at)))
    (l_l_cell_at : K.lookup f_l_cell_at = some ⟨oc_l_cell_at, od_l_cell_at, .func (PySem.W.fnOf "_law_cell_at" "_law_cell_at" (defArgs s_l_cell_at) (defBody s_l_cell_at) (defScope s_l_cell_at) .none kV_l_cell_at dc_l_cell_at pm_l_cell_at an_l_cell_at cd_l_cell_at ct_l_cell_at), sl_l_cell_at⟩)
    (c_l_cell_at : PySem.W.codeIn K cd_l_cell_at "_law_cell_at" = true)
    (k_l_cell_at : PySem.W.keepIn K (.ref f_l_cell_at) = true)
    (a_l_whole : PySem.W.nsIn K mainGlobals "_law_whole" = some (some (.ref f_l_whole)))
    (l_l_whole : K.lookup f_l_whole = some ⟨oc_l_whole, od_l_whole, .func (PySem.W.fnOf "_law_whole" "_law_whole" (defArgs s_l_whole) (defBody s_l_whole) (defScope s_l_whole) .none kV_l_whole dc_l_whole pm_l_whole an_l_whole cd_l_whole ct_l_whole), sl_l_whole⟩)
    (c_l_whole : PySem.W.codeIn K cd_l_whole "_law_whole" = true)
    (k_l_whole : PySem.W.keepIn K (.ref f_l_whole) = true)
    (a_l_home : PySem.W.nsIn K mainGlobals "_law_home" = some (some (.ref f_l_home)))
    (l_l_home : K.lookup f_l_home = some ⟨oc_l_home, od_l_home, .func (PySem.W.fnOf "_law_home" "_law_home" (defArgs s_l_home) (defBody s_l_home) (defScope s_l_home) .none kV_l_home dc_l_home pm_l_home an_l_home cd_l_home ct_l_home), sl_l_home⟩)
    (c_l_home : PySem.W.codeIn K cd_l_home "_law_home" = true)
    (k_l_home : PySem.W.keepIn K (.ref f_l_home) = true)
    (a_l_base : PySem.W.nsIn K mainGlobals "_law_base" = some (some (.ref f_l_base)))
    (l_l_base : K.lookup f_l_base = some ⟨oc_l_base, od_l_base, .func (PySem.W.fnOf "_law_base" "_law_base" (defArgs s_l_base) (defBody s_l_base) (defScope s_l_base) .none kV_l_base dc_l_base pm_l_base an_l_base cd_l_base ct_l_base), sl_l_base⟩)
    (c_l_base : PySem.W.codeIn K cd_l_base "_law_base" = true)
    (k_l_base : PySem.W.keepIn K (.ref f_l_base) = true)
    (a_l_guest : PySem.W.nsIn K mainGlobals "_law_guest" = some (some (.ref f_l_guest)))
    (l_l_guest : K.lookup f_l_guest = some ⟨oc_l_guest, od_l_guest, .func (PySem.W.fnOf "_law_guest" "_law_guest" (defArgs s_l_guest) (defBody s_l_guest) (defScope s_l_guest) .none kV_l_guest dc_l_guest pm_l_guest an_l_guest cd_l_guest ct_l_guest), sl_l_guest⟩)
    (c_l_guest : PySem.W.codeIn K cd_l_guest "_law_guest" = true)
    (k_l_guest : PySem.W.keepIn K (.ref f_l_guest) = true)
    (a_l_drawn : PySem.W.nsIn K mainGlobals "_law_drawn" = some (some (.ref f_l_drawn)))
    (l_l_drawn : K.lookup f_l_drawn = some ⟨oc_l_drawn, od_l_drawn, .func (PySem.W.fnOf "_law_drawn" "_law_drawn" (defArgs s_l_drawn) (defBody s_l_drawn) (defScope s_l_drawn) .none kV_l_drawn dc_l_drawn pm_l_drawn an_l_drawn cd_l_drawn ct_l_drawn), sl_l_drawn⟩)
    (c_l_drawn : PySem.W.codeIn K cd_l_drawn "_law_drawn" = true)
    (k_l_drawn : PySem.W.keepIn K (.ref f_l_drawn) = true)
    (a_l_put : PySem.W.nsIn K mainGlobals "_law_put" = some (some (.ref f_l_put)))
    (l_l_put : K.lookup f_l_put = some ⟨oc_l_put, od_l_put, .func (PySem.W.fnOf "_law_put" "_law_put" (defArgs s_l_put) (defBody s_l_put) (defScope s_l_put) .none kV_l_put dc_l_put pm_l_put an_l_put cd_l_put ct_l_put), sl_l_put⟩)
    (c_l_put : PySem.W.codeIn K cd_l_put "_law_put" = true)
    (k_l_put : PySem.W.keepIn K (.ref f_l_put) = true)
    (a_l_settled : PySem.W.nsIn K mainGlobals "_law_settled" = some (some (.ref f_l_settled)))
    (l_l_settled : K.lookup f_l_settled = some ⟨oc_l_settled, od_l_settled, .func (PySem.W.fnOf "_law_settled" "_law_settled" (defArgs s_l_settled) (defBody s_l_settled) (defScope s_l_settled) .none kV_l_settled dc_l_settled pm_l_settled an_l_settled cd_l_settled ct_l_settled), sl_l_settled⟩)
    (c_l_settled : PySem.W.codeIn K cd_l_settled "_law_settled" = true)
    (k_l_settled : PySem.W.keepIn K (.ref f_l_settled) = true)
    (a_l_same : PySem.W.nsIn K mainGlobals "_law_same" = some (some (.ref f_l_same)))
    (l_l_same : K.lookup f_l_same = some ⟨oc_l_same, od_l_same, .func (PySem.W.fnOf "_law_same" "_law_same" (defArgs s_l_same) (defBody s_l_same) (defScope s_l_same) .none kV_l_same dc_l_same pm_l_same an_l_same cd_l_same ct_l_same), sl_l_same⟩)
    (c_l_same : PySem.W.codeIn K cd_l_same "_law_same" = true)
    (k_l_same : PySem.W.keepIn K (.ref f_l_same) = true)
    (a_l_odd : PySem.W.nsIn K mainGlobals "_law_odd" = some (some (.ref f_l_odd)))
    (l_l_odd : K.lookup f_l_odd = some ⟨oc_l_odd, od_l_odd, .func (PySem.W.fnOf "_law_odd" "_law_odd" (defArgs s_l_odd) (defBody s_l_odd) (defScope s_l_odd) .none kV_l_odd dc_l_odd pm_l_odd an_l_odd cd_l_odd ct_l_odd), sl_l_odd⟩)
    (c_l_odd : PySem.W.codeIn K cd_l_odd "_law_odd" = true)
    (k_l_odd : PySem.W.keepIn K (.ref f_l_odd) = true)
    (a_l_refused : PySem.W.nsIn K mainGlobals "_law_refused" = some (some (.ref f_l_refused)))
    (l_l_refused : K.lookup f_l_refused = some ⟨oc_l_refused, od_l_refused, .func (PySem.W.fnOf "_law_refused" "_law_refused" (defArgs s_l_refused) (defBody s_l_refused) (defScope s_l_refused) .none kV_l_refused dc_l_refused pm_l_refused an_l_refused cd_l_refused ct_l_refused), sl_l_refused⟩)
    (c_l_refused : PySem.W.codeIn K cd_l_refused "_law_refused" = true)
    (k_l_refused : PySem.W.keepIn K (.ref f_l_refused) = true)
    (a_law : PySem.W.nsIn K mainGlobals "law" = some (some (.ref f_law)))
    (l_law : K.lookup f_law = some ⟨oc_law, od_law, .func (PySem.W.fnOf "law" "law" (defArgs s_law) (defBody s_law) (defScope s_law) .none kV_law dc_law pm_law an_law cd_law ct_law), sl_law⟩)
    (c_law : PySem.W.codeIn K cd_law "law" = true)
    (k_law : PySem.W.keepIn K (.ref f_law) = true) :
    ∃ fd : FuncData, (∀ (s : Shared) (v : Value), BindsTo s fd ⟨[v], []⟩ [("_law_script", v)]) ∧ ∀ base : Heap, K.In base → base.Ns mainGlobals mg → FnOk l.prog w K mg base CXL lawK fa fd ["_law_script"] (spLaw K) := by
  have e := hfa.symm.trans (PySem.W.mg_of X G a_law)
  cases e
  have T : Txt K mg ⟨c_RingError, c_NoGuest, c_NoSize, c_Twice, c_Away, c_Full⟩ := ⟨PySem.W.mg_of X G cm_RingError,
    PySem.W.mg_of X G cm_NoGuest,
    ⟨PySem.W.mg_of X G cm_NoGuest, ce_NoGuest, ⟨cf1_NoGuest, cf2_NoGuest, cf3_NoGuest, cf4_NoGuest, cf5_NoGuest⟩, (by rw [cc_NoGuest]; rfl)⟩,
    cx_NoGuest,
    cv_NoGuest,
    ci_NoGuest_RingError,
    ci_NoGuest_NoGuest,
    ci_NoGuest_NoSize,
    ci_NoGuest_Twice,
    ci_NoGuest_Away,
    ci_NoGuest_Full,
    PySem.W.mg_of X G cm_NoSize,
    ⟨PySem.W.mg_of X G cm_NoSize, ce_NoSize, ⟨cf1_NoSize, cf2_NoSize, cf3_NoSize, cf4_NoSize, cf5_NoSize⟩, (by rw [cc_NoSize]; rfl)⟩,
    cx_NoSize,
    cv_NoSize,
    ci_NoSize_RingError,
    ci_NoSize_NoGuest,
    ci_NoSize_NoSize,
    ci_NoSize_Twice,
    ci_NoSize_Away,
    ci_NoSize_Full,
    PySem.W.mg_of X G cm_Twice,
    ⟨PySem.W.mg_of X G cm_Twice, ce_Twice, ⟨cf1_Twice, cf2_Twice, cf3_Twice, cf4_Twice, cf5_Twice⟩, (by rw [cc_Twice]; rfl)⟩,
    cx_Twice,
    cv_Twice,
    ci_Twice_RingError,
    ci_Twice_NoGuest,
    ci_Twice_NoSize,
    ci_Twice_Twice,
    ci_Twice_Away,
    ci_Twice_Full,
    PySem.W.mg_of X G cm_Away,
    ⟨PySem.W.mg_of X G cm_Away, ce_Away, ⟨cf1_Away, cf2_Away, cf3_Away, cf4_Away, cf5_Away⟩, (by rw [cc_Away]; rfl)⟩,
    cx_Away,
    cv_Away,
    ci_Away_RingError,
    ci_Away_NoGuest,
    ci_Away_NoSize,
    ci_Away_Twice,
    ci_Away_Away,
    ci_Away_Full,
    PySem.W.mg_of X G cm_Full,
    ⟨PySem.W.mg_of X G cm_Full, ce_Full, ⟨cf1_Full, cf2_Full, cf3_Full, cf4_Full, cf5_Full⟩, (by rw [cc_Full]; rfl)⟩,
    cx_Full,
    cv_Full,
    ci_Full_RingError,
    ci_Full_NoGuest,
    ci_Full_NoSize,
    ci_Full_Twice,
    ci_Full_Away,
    ci_Full_Full,
    PySem.W.mg_none_of X G n_ValueError,
    PySem.W.mg_none_of X G n_len,
    PySem.W.mg_none_of X G n_list,
    PySem.W.mg_none_of X G n_range,
    PySem.W.mg_none_of X G n_zip,
    PySem.W.mg_none_of X G n_isinstance,
    PySem.W.mg_none_of X G n_int,
    PySem.W.mg_none_of X G n_sorted,
    PySem.W.mg_none_of X G n_bool,
    k_int_int,
    k_int_bool,
    k_bool_int,
    k_bool_bool,
    k_NoneType_bool,
    k_NoneType_int,
    k_str_bool,
    k_str_int,
    k_tuple_bool,
    k_tuple_int,
    k_list_bool,
    k_list_int,
    k_dict_bool,
    k_dict_int,
    k_list_list,
    ⟨_, PySem.W.mg_of X G g_FACTOR⟩,
    ⟨_, PySem.W.mg_of X G g_SPREAD⟩,
    ⟨_, _, fun_mk (st := s_is_whole) l_is_whole c_is_whole k_is_whole, (fun_mk (st := s_is_whole) l_is_whole c_is_whole k_is_whole).binds (ps := ["thing"]) (fun _ _ _ _ _ _ us hl => match us, hl with | [_], _ => rfl), PySem.W.mg_of X G a_is_whole⟩,
    ⟨_, _, fun_mk (st := s_is_guest) l_is_guest c_is_guest k_is_guest, (fun_mk (st := s_is_guest) l_is_guest c_is_guest k_is_guest).binds (ps := ["thing"]) (fun _ _ _ _ _ _ us hl => match us, hl with | [_], _ => rfl), PySem.W.mg_of X G a_is_guest⟩,
    ⟨_, _, fun_mk (st := s_home) l_home c_home k_home, (fun_mk (st := s_home) l_home c_home k_home).binds (ps := ["guest", "many"]) (fun _ _ _ _ _ _ us hl => match us, hl with | [_, _], _ => rfl), PySem.W.mg_of X G a_home⟩,
    ⟨_, _, fun_mk (st := s_carried) l_carried c_carried k_carried, (fun_mk (st := s_carried) l_carried c_carried k_carried).binds (ps := ["guest", "at", "many"]) (fun _ _ _ _ _ _ us hl => match us, hl with | [_, _, _], _ => rfl), PySem.W.mg_of X G a_carried⟩,
    ⟨_, _, fun_mk (st := s_ahead) l_ahead c_ahead k_ahead, (fun_mk (st := s_ahead) l_ahead c_ahead k_ahead).binds (ps := ["one", "other", "at", "many"]) (fun _ _ _ _ _ _ us hl => match us, hl with | [_, _, _, _], _ => rfl), PySem.W.mg_of X G a_ahead⟩,
    ⟨_, _, fun_mk (st := s_check_guest) l_check_guest c_check_guest k_check_guest, (fun_mk (st := s_check_guest) l_check_guest c_check_guest k_check_guest).binds (ps := ["thing"]) (fun _ _ _ _ _ _ us hl => match us, hl with | [_], _ => rfl), PySem.W.mg_of X G a_check_guest⟩,
    ⟨_, _, fun_mk (st := s_passed) l_passed c_passed k_passed, (fun_mk (st := s_passed) l_passed c_passed k_passed).binds (ps := ["seats", "guest"]) (fun _ _ _ _ _ _ us hl => match us, hl with | [_, _], _ => rfl), PySem.W.mg_of X G a_passed⟩,
    ⟨_, _, fun_mk (st := s_place_of) l_place_of c_place_of k_place_of, (fun_mk (st := s_place_of) l_place_of c_place_of k_place_of).binds (ps := ["seats", "guest"]) (fun _ _ _ _ _ _ us hl => match us, hl with | [_, _], _ => rfl), PySem.W.mg_of X G a_place_of⟩,
    ⟨_, _, fun_mk (st := s_seat_in) l_seat_in c_seat_in k_seat_in, (fun_mk (st := s_seat_in) l_seat_in c_seat_in k_seat_in).binds (ps := ["seats", "guest"]) (fun _ _ _ _ _ _ us hl => match us, hl with | [_, _], _ => rfl), PySem.W.mg_of X G a_seat_in⟩,
    ⟨_, _, fun_mk (st := s_put) l_put c_put k_put, (fun_mk (st := s_put) l_put c_put k_put).binds (ps := ["seats", "guest"]) (fun _ _ _ _ _ _ us hl => match us, hl with | [_, _], _ => rfl), PySem.W.mg_of X G a_put⟩,
    ⟨_, _, fun_mk (st := s_seat_out) l_seat_out c_seat_out k_seat_out, (fun_mk (st := s_seat_out) l_seat_out c_seat_out k_seat_out).binds (ps := ["seats", "guest"]) (fun _ _ _ _ _ _ us hl => match us, hl with | [_, _], _ => rfl), PySem.W.mg_of X G a_seat_out⟩,
    ⟨_, _, fun_mk (st := s_l_cell_at) l_l_cell_at c_l_cell_at k_l_cell_at, (fun_mk (st := s_l_cell_at) l_l_cell_at c_l_cell_at k_l_cell_at).binds (ps := ["_law_script", "_law_k"]) (fun _ _ _ _ _ _ us hl => match us, hl with | [_, _], _ => rfl), PySem.W.mg_of X G a_l_cell_at⟩,
    ⟨_, _, fun_mk (st := s_l_whole) l_l_whole c_l_whole k_l_whole, (fun_mk (st := s_l_whole) l_l_whole c_l_whole k_l_whole).binds (ps := ["_law_found"]) (fun _ _ _ _ _ _ us hl => match us, hl with | [_], _ => rfl), PySem.W.mg_of X G a_l_whole⟩,
    ⟨_, _, fun_mk (st := s_l_home) l_l_home c_l_home k_l_home, (fun_mk (st := s_l_home) l_l_home c_l_home k_l_home).binds (ps := ["_law_guest_here", "_law_many"]) (fun _ _ _ _ _ _ us hl => match us, hl with | [_, _], _ => rfl), PySem.W.mg_of X G a_l_home⟩,
    ⟨_, _, fun_mk (st := s_l_base) l_l_base c_l_base k_l_base, (fun_mk (st := s_l_base) l_l_base c_l_base k_l_base).binds (ps := ["_law_cell"]) (fun _ _ _ _ _ _ us hl => match us, hl with | [_], _ => rfl), PySem.W.mg_of X G a_l_base⟩,
    ⟨_, _, fun_mk (st := s_l_guest) l_l_guest c_l_guest k_l_guest, (fun_mk (st := s_l_guest) l_l_guest c_l_guest k_l_guest).binds (ps := ["_law_cell", "_law_base_here"]) (fun _ _ _ _ _ _ us hl => match us, hl with | [_, _], _ => rfl), PySem.W.mg_of X G a_l_guest⟩,
    ⟨_, _, fun_mk (st := s_l_drawn) l_l_drawn c_l_drawn k_l_drawn, (fun_mk (st := s_l_drawn) l_l_drawn c_l_drawn k_l_drawn).binds (ps := ["_law_cells", "_law_base_here"]) (fun _ _ _ _ _ _ us hl => match us, hl with | [_, _], _ => rfl), PySem.W.mg_of X G a_l_drawn⟩,
    ⟨_, _, fun_mk (st := s_l_put) l_l_put c_l_put k_l_put, (fun_mk (st := s_l_put) l_l_put c_l_put k_l_put).binds (ps := ["_law_seats", "_law_guest_here"]) (fun _ _ _ _ _ _ us hl => match us, hl with | [_, _], _ => rfl), PySem.W.mg_of X G a_l_put⟩,
    ⟨_, _, fun_mk (st := s_l_settled) l_l_settled c_l_settled k_l_settled, (fun_mk (st := s_l_settled) l_l_settled c_l_settled k_l_settled).binds (ps := ["_law_seats", "_law_many", "_law_guests"]) (fun _ _ _ _ _ _ us hl => match us, hl with | [_, _, _], _ => rfl), PySem.W.mg_of X G a_l_settled⟩,
    ⟨_, _, fun_mk (st := s_l_same) l_l_same c_l_same k_l_same, (fun_mk (st := s_l_same) l_l_same c_l_same k_l_same).binds (ps := ["_law_found", "_law_seats"]) (fun _ _ _ _ _ _ us hl => match us, hl with | [_, _], _ => rfl), PySem.W.mg_of X G a_l_same⟩,
    ⟨_, _, fun_mk (st := s_l_odd) l_l_odd c_l_odd k_l_odd, (fun_mk (st := s_l_odd) l_l_odd c_l_odd k_l_odd).binds (ps := ["_law_cell"]) (fun _ _ _ _ _ _ us hl => match us, hl with | [_], _ => rfl), PySem.W.mg_of X G a_l_odd⟩,
    ⟨_, _, fun_mk (st := s_l_refused) l_l_refused c_l_refused k_l_refused, (fun_mk (st := s_l_refused) l_l_refused c_l_refused k_l_refused).binds (ps := ["_law_seats", "_law_guest_here"]) (fun _ _ _ _ _ _ us hl => match us, hl with | [_, _], _ => rfl), PySem.W.mg_of X G a_l_refused⟩⟩
  exact ⟨PySem.W.fnOf "law" "law" (defArgs s_law) (defBody s_law) (defScope s_law) .none kV_law dc_law pm_law an_law cd_law ct_law, fun s v => .of_eq rfl, fun base _ _ => ok_law (fun_mk (st := s_law) l_law c_law k_law) T⟩
theorem walk {l : PySem.W.OpenLaw} {q : Program} {loose : List Str} {XP : (Str → Option Value) → Heap → Prop} {YP : World → Heap → Prop} {d : DefRec} {K : Params → PySem.W.Frag} (hn : l.most = some 63) (hdf : d.params.defaults = [])
    (hY : ∀ (w : World) (h : Heap), YP w h → (K w.params).In h)
    (F : ∀ (w : World) (mg : Str → Option Value) (fa : Addr) (h : Heap), (K w.params).In h → h.Ns mainGlobals mg → mg d.name = some (.ref fa) →
      ∃ fd : FuncData, (∀ (s : Shared) (u : Value), BindsTo s fd ⟨[u], []⟩ [("_law_script", u)]) ∧ ∀ base : Heap, (K w.params).In base → base.Ns mainGlobals mg → FnOk l.prog w (K w.params) mg base CXL lawK fa fd ["_law_script"] (spLaw (K w.params))) :
    PySem.W.WalkO q loose XP YP l.row.toRowW d [] (fun f vs => PySem.call f vs) :=
  L2.walk_of (n := 63) (k := lawK) (x := "_law_script") (CX := fun _ => CXL) (sp := fun w => spLaw (K w.params)) hn (by decide) hdf ⟨rfl, by decide, by decide⟩ hY F (fun _ _ a ns hl _ hS => ⟨a, ns, rfl, hS, hl, fun _ => rfl⟩) fun _ _ _ _ _ z => z
end Law
open PySem PySem.W PyProof.Rows
set_option maxRecDepth 100000 in
set_option maxHeartbeats 0 in
theorem PySem.Challenge.cw_ringseat_k07_going_holds : PySem.Challenge.rw_ringseat_k07_going.Holds := by
  w_on; o_law; k_head; (case hw => w_witness2)
  k_fill
  refine Law.walk (l := PySem.Challenge.rw_ringseat_k07_going) rfl rfl (fun w h Y => PySem.W.kIn_of Y) ?F
  case F =>
    intro w mg fa h KX G hmg
    refine' Law.all_mk KX G hmg ?cm_RingError ?cm_NoGuest ?cm_NoSize ?cm_Twice ?cm_Away ?cm_Full ?ce_NoGuest ?cf1_NoGuest ?cf2_NoGuest ?cf3_NoGuest ?cf4_NoGuest ?cf5_NoGuest ?cc_NoGuest ?cx_NoGuest ?cv_NoGuest ?ci_NoGuest_RingError ?ci_NoGuest_NoGuest ?ci_NoGuest_NoSize ?ci_NoGuest_Twice ?ci_NoGuest_Away ?ci_NoGuest_Full ?ce_NoSize ?cf1_NoSize ?cf2_NoSize ?cf3_NoSize ?cf4_NoSize ?cf5_NoSize ?cc_NoSize ?cx_NoSize ?cv_NoSize ?ci_NoSize_RingError ?ci_NoSize_NoGuest ?ci_NoSize_NoSize ?ci_NoSize_Twice ?ci_NoSize_Away ?ci_NoSize_Full ?ce_Twice ?cf1_Twice ?cf2_Twice ?cf3_Twice ?cf4_Twice ?cf5_Twice ?cc_Twice ?cx_Twice ?cv_Twice ?ci_Twice_RingError ?ci_Twice_NoGuest ?ci_Twice_NoSize ?ci_Twice_Twice ?ci_Twice_Away ?ci_Twice_Full ?ce_Away ?cf1_Away ?cf2_Away ?cf3_Away ?cf4_Away ?cf5_Away ?cc_Away ?cx_Away ?cv_Away ?ci_Away_RingError ?ci_Away_NoGuest ?ci_Away_NoSize ?ci_Away_Twice ?ci_Away_Away ?ci_Away_Full ?ce_Full ?cf1_Full ?cf2_Full ?cf3_Full ?cf4_Full ?cf5_Full ?cc_Full ?cx_Full ?cv_Full ?ci_Full_RingError ?ci_Full_NoGuest ?ci_Full_NoSize ?ci_Full_Twice ?ci_Full_Away ?ci_Full_Full ?n_ValueError ?n_len ?n_list ?n_range ?n_zip ?n_isinstance ?n_int ?n_sorted ?n_bool ?k_int_int ?k_int_bool ?k_bool_int ?k_bool_bool ?k_NoneType_bool ?k_NoneType_int ?k_str_bool ?k_str_int ?k_tuple_bool ?k_tuple_int ?k_list_bool ?k_list_int ?k_dict_bool ?k_dict_int ?k_list_list ?g_FACTOR ?g_SPREAD ?a_is_whole ?l_is_whole ?c_is_whole ?k_is_whole ?a_is_guest ?l_is_guest ?c_is_guest ?k_is_guest ?a_home ?l_home ?c_home ?k_home ?a_carried ?l_carried ?c_carried ?k_carried ?a_ahead ?l_ahead ?c_ahead ?k_ahead ?a_check_guest ?l_check_guest ?c_check_guest ?k_check_guest ?a_passed ?l_passed ?c_passed ?k_passed ?a_place_of ?l_place_of ?c_place_of ?k_place_of ?a_seat_in ?l_seat_in ?c_seat_in ?k_seat_in ?a_put ?l_put ?c_put ?k_put ?a_seat_out ?l_seat_out ?c_seat_out ?k_seat_out ?a_l_cell_at ?l_l_cell_at ?c_l_cell_at ?k_l_cell_at ?a_l_whole ?l_l_whole ?c_l_whole ?k_l_whole ?a_l_home ?l_l_home ?c_l_home ?k_l_home ?a_l_base ?l_l_base ?c_l_base ?k_l_base ?a_l_guest ?l_l_guest ?c_l_guest ?k_l_guest ?a_l_drawn ?l_l_drawn ?c_l_drawn ?k_l_drawn ?a_l_put ?l_l_put ?c_l_put ?k_l_put ?a_l_settled ?l_l_settled ?c_l_settled ?k_l_settled ?a_l_same ?l_l_same ?c_l_same ?k_l_same ?a_l_odd ?l_l_odd ?c_l_odd ?k_l_odd ?a_l_refused ?l_l_refused ?c_l_refused ?k_l_refused ?a_law ?l_law ?c_law ?k_law
    (case cm_RingError => k_is)
    (case cm_NoGuest => k_is)
    (case cm_NoSize => k_is)
    (case cm_Twice => k_is)
    (case cm_Away => k_is)
    (case cm_Full => k_is)
    (case ce_NoGuest => k_exc)
    (case cf1_NoGuest => k_is)
    (case cf2_NoGuest => k_is)
    (case cf3_NoGuest => k_is)
    (case cf4_NoGuest => k_is)
    (case cf5_NoGuest => k_is)
    (case cc_NoGuest => k_is)
    (case cx_NoGuest => kts_exm)
    (case cv_NoGuest => kit_is)
    (case ci_NoGuest_RingError => kit_is)
    (case ci_NoGuest_NoGuest => kit_is)
    (case ci_NoGuest_NoSize => kit_is)
    (case ci_NoGuest_Twice => kit_is)
    (case ci_NoGuest_Away => kit_is)
    (case ci_NoGuest_Full => kit_is)
    (case ce_NoSize => k_exc)
    (case cf1_NoSize => k_is)
    (case cf2_NoSize => k_is)
    (case cf3_NoSize => k_is)
    (case cf4_NoSize => k_is)
    (case cf5_NoSize => k_is)
    (case cc_NoSize => k_is)
    (case cx_NoSize => kts_exm)
    (case cv_NoSize => kit_is)
    (case ci_NoSize_RingError => kit_is)
    (case ci_NoSize_NoGuest => kit_is)
    (case ci_NoSize_NoSize => kit_is)
    (case ci_NoSize_Twice => kit_is)
    (case ci_NoSize_Away => kit_is)
    (case ci_NoSize_Full => kit_is)
    (case ce_Twice => k_exc)
    (case cf1_Twice => k_is)
    (case cf2_Twice => k_is)
    (case cf3_Twice => k_is)
    (case cf4_Twice => k_is)
    (case cf5_Twice => k_is)
    (case cc_Twice => k_is)
    (case cx_Twice => kts_exm)
    (case cv_Twice => kit_is)
    (case ci_Twice_RingError => kit_is)
    (case ci_Twice_NoGuest => kit_is)
    (case ci_Twice_NoSize => kit_is)
    (case ci_Twice_Twice => kit_is)
    (case ci_Twice_Away => kit_is)
    (case ci_Twice_Full => kit_is)
    (case ce_Away => k_exc)
    (case cf1_Away => k_is)
    (case cf2_Away => k_is)
    (case cf3_Away => k_is)
    (case cf4_Away => k_is)
    (case cf5_Away => k_is)
    (case cc_Away => k_is)
    (case cx_Away => kts_exm)
    (case cv_Away => kit_is)
    (case ci_Away_RingError => kit_is)
    (case ci_Away_NoGuest => kit_is)
    (case ci_Away_NoSize => kit_is)
    (case ci_Away_Twice => kit_is)
    (case ci_Away_Away => kit_is)
    (case ci_Away_Full => kit_is)
    (case ce_Full => k_exc)
    (case cf1_Full => k_is)
    (case cf2_Full => k_is)
    (case cf3_Full => k_is)
    (case cf4_Full => k_is)
    (case cf5_Full => k_is)
    (case cc_Full => k_is)
    (case cx_Full => kts_exm)
    (case cv_Full => kit_is)
    (case ci_Full_RingError => kit_is)
    (case ci_Full_NoGuest => kit_is)
    (case ci_Full_NoSize => kit_is)
    (case ci_Full_Twice => kit_is)
    (case ci_Full_Away => kit_is)
    (case ci_Full_Full => kit_is)
    (case n_ValueError => k_is)
    (case n_len => k_is)
    (case n_list => k_is)
    (case n_range => k_is)
    (case n_zip => k_is)
    (case n_isinstance => k_is)
    (case n_int => k_is)
    (case n_sorted => k_is)
    (case n_bool => k_is)
    (case k_int_int => kit_is)
    (case k_int_bool => kit_is)
    (case k_bool_int => kit_is)
    (case k_bool_bool => kit_is)
    (case k_NoneType_bool => kit_is)
    (case k_NoneType_int => kit_is)
    (case k_str_bool => kit_is)
    (case k_str_int => kit_is)
    (case k_tuple_bool => kit_is)
    (case k_tuple_int => kit_is)
    (case k_list_bool => kit_is)
    (case k_list_int => kit_is)
    (case k_dict_bool => kit_is)
    (case k_dict_int => kit_is)
    (case k_list_list => kit_is)
    (case g_FACTOR => k_is)
    (case g_SPREAD => k_is)
    (case a_is_whole => k_is)
    (case l_is_whole => k_is)
    (case c_is_whole => k_is)
    (case k_is_whole => k_is)
    (case a_is_guest => k_is)
    (case l_is_guest => k_is)
    (case c_is_guest => k_is)
    (case k_is_guest => k_is)
    (case a_home => k_is)
    (case l_home => k_is)
    (case c_home => k_is)
    (case k_home => k_is)
    (case a_carried => k_is)
    (case l_carried => k_is)
    (case c_carried => k_is)
    (case k_carried => k_is)
    (case a_ahead => k_is)
    (case l_ahead => k_is)
    (case c_ahead => k_is)
    (case k_ahead => k_is)
    (case a_check_guest => k_is)
    (case l_check_guest => k_is)
    (case c_check_guest => k_is)
    (case k_check_guest => k_is)
    (case a_passed => k_is)
    (case l_passed => k_is)
    (case c_passed => k_is)
    (case k_passed => k_is)
    (case a_place_of => k_is)
    (case l_place_of => k_is)
    (case c_place_of => k_is)
    (case k_place_of => k_is)
    (case a_seat_in => k_is)
    (case l_seat_in => k_is)
    (case c_seat_in => k_is)
    (case k_seat_in => k_is)
    (case a_put => k_is)
    (case l_put => k_is)
    (case c_put => k_is)
    (case k_put => k_is)
    (case a_seat_out => k_is)
    (case l_seat_out => k_is)
    (case c_seat_out => k_is)
    (case k_seat_out => k_is)
    (case a_l_cell_at => k_is)
    (case l_l_cell_at => k_is)
    (case c_l_cell_at => k_is)
    (case k_l_cell_at => k_is)
    (case a_l_whole => k_is)
    (case l_l_whole => k_is)
    (case c_l_whole => k_is)
    (case k_l_whole => k_is)
    (case a_l_home => k_is)
    (case l_l_home => k_is)
    (case c_l_home => k_is)
    (case k_l_home => k_is)
    (case a_l_base => k_is)
    (case l_l_base => k_is)
    (case c_l_base => k_is)
    (case k_l_base => k_is)
    (case a_l_guest => k_is)
    (case l_l_guest => k_is)
    (case c_l_guest => k_is)
    (case k_l_guest => k_is)
    (case a_l_drawn => k_is)
    (case l_l_drawn => k_is)
    (case c_l_drawn => k_is)
    (case k_l_drawn => k_is)
    (case a_l_put => k_is)
    (case l_l_put => k_is)
    (case c_l_put => k_is)
    (case k_l_put => k_is)
    (case a_l_settled => k_is)
    (case l_l_settled => k_is)
    (case c_l_settled => k_is)
    (case k_l_settled => k_is)
    (case a_l_same => k_is)
    (case l_l_same => k_is)
    (case c_l_same => k_is)
    (case k_l_same => k_is)
    (case a_l_odd => k_is)
    (case l_l_odd => k_is)
    (case c_l_odd => k_is)
    (case k_l_odd => k_is)
    (case a_l_refused => k_is)
    (case l_l_refused => k_is)
    (case c_l_refused => k_is)
    (case k_l_refused => k_is)
    (case a_law => k_is)
    (case l_law => k_is)
    (case c_law => k_is)
    (case k_law => k_is)


