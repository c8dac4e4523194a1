import PyProof.Rows.All
import Wide.All
import OpenK.AllK
import Wide.FinOn
import Lean
import PyProof.EqAt
import PyProof.EqKinds
import PyProof.TupleCall
import PyProof.NeKinds
import PySem.Challenge.RW_ringseat_k09_whole_first_come
set_option Elab.async false
set_option linter.all false
set_option maxRecDepth 100000
/-! THE HAND LAYER, for ints, bools, texts, own classes, LISTS and tuples (index, slices, in, append, pop ..), calls, loops. Paste it whole ahead of your own text; what your proof does not reach may be deleted. -/
namespace L2
open PySem PySem.Spec PyProof.Rows

/-- a key: an int or a str -/
abbrev Key := Sum Int Str
def keyIs : Key → Value → Bool
  | .inl k, v => Value.isInt k v
  | .inr x, v => Value.isStrOf x v
def keyH (w : World) : Key → Int
  | .inl k => hashInt k
  | .inr x => hashStr w x
theorem keyIs_shape : ∀ {k : Key} {v : Value}, keyIs k v = true → (∃ i t, k = Sum.inl i ∧ v = Value.int i t) ∨ (∃ x t, k = Sum.inr x ∧ v = Value.str x t)
  | .inl i, v, h => by
    obtain ⟨t, e⟩ := Value.isInt_shape (k := i) (v := v) h
    exact .inl ⟨i, t, rfl, e⟩
  | .inr x, v, h => by
    obtain ⟨t, e⟩ := Value.isStrOf_shape (x := x) (v := v) h
    exact .inr ⟨x, t, rfl, e⟩
theorem keyIs_int (i : Int) (t : Tok) : keyIs (.inl i) (.int i t) = true := by simp [keyIs, Value.isInt]
theorem keyIs_str (x : Str) (t : Tok) : keyIs (.inr x) (.str x t) = true := by simp [keyIs, Value.isStrOf]
theorem key_ll (a b : Int) : decide ((Sum.inl a : Key) = Sum.inl b) = (a == b) := by
  by_cases e : a = b
  · subst e; simp
  · have h : ¬ (Sum.inl a : Key) = Sum.inl b := fun q => e (Sum.inl.inj q)
    rw [decide_eq_false h]
    exact (beq_eq_false_iff_ne.mpr e).symm
theorem key_rr (a b : Str) : decide ((Sum.inr a : Key) = Sum.inr b) = decide (a = b) := by
  by_cases e : a = b
  · subst e; simp
  · have h : ¬ (Sum.inr a : Key) = Sum.inr b := fun q => e (Sum.inr.inj q)
    rw [decide_eq_false h, decide_eq_false e]
theorem key_lr (a : Int) (b : Str) : decide ((Sum.inl a : Key) = Sum.inr b) = false := decide_eq_false (fun q => nomatch q)
theorem key_rl (a : Str) (b : Int) : decide ((Sum.inr a : Key) = Sum.inl b) = false := decide_eq_false (fun q => nomatch q)

def mixKind (prog : Program) (w : World) : PySem.KeyKind prog w Key where
  is := keyIs
  hash := keyH w
  inj := fun v a b ha hb => by
    rcases keyIs_shape ha with ⟨i, t, rfl, rfl⟩ | ⟨x, t, rfl, rfl⟩
    · rcases keyIs_shape hb with ⟨j, u, rfl, e⟩ | ⟨y, u, rfl, e⟩
      · injection e with e1 _; rw [e1]
      · exact nomatch e
    · rcases keyIs_shape hb with ⟨j, u, rfl, e⟩ | ⟨y, u, rfl, e⟩
      · exact nomatch e
      · injection e with e1 _; rw [e1]
  byValue := fun k v h => by
    rcases keyIs_shape h with ⟨i, t, rfl, rfl⟩ | ⟨x, t, rfl, rfl⟩ <;> rfl
  pyHash := fun hv h => by
    rcases keyIs_shape hv with ⟨i, t, rfl, rfl⟩ | ⟨x, t, rfl, rfl⟩
    · exact wpAny_pyHash_int h
    · exact wpAny_pyHash_str h
  eqBool := fun hu hv h => by
    rcases keyIs_shape hu with ⟨i, t, rfl, rfl⟩ | ⟨x, t, rfl, rfl⟩
    · rcases keyIs_shape hv with ⟨j, u, rfl, rfl⟩ | ⟨y, u, rfl, rfl⟩
      · rw [key_ll] at h; exact wpAny_eqBool_int h
      · rw [key_lr] at h; exact SeqAt.EqAt.int_str i t y u _ _ _ _ h
    · rcases keyIs_shape hv with ⟨j, u, rfl, rfl⟩ | ⟨y, u, rfl, rfl⟩
      · rw [key_rl] at h; exact SeqAt.EqAt.str_int x t j u _ _ _ _ h
      · rw [key_rr] at h; exact wpAny_eqBool_str h
  «strs» := fun k x t v h => by
    rcases keyIs_shape h with ⟨i, u, rfl, e⟩ | ⟨y, u, rfl, e⟩
    · exact nomatch e
    · injection e with e1 _
      subst e1
      cases v <;> rfl

theorem mixKind_int (prog : Program) (w : World) (i : Int) (t : Tok) : (mixKind prog w).is (.inl i) (.int i t) = true := keyIs_int i t
theorem mixKind_str (prog : Program) (w : World) (x : Str) (t : Tok) : (mixKind prog w).is (.inr x) (.str x t) = true := keyIs_str x t
end L2

namespace L2
open PySem PySem.Spec PyProof.Rows

/-- a value, without the heap -/
inductive V where
  | non | bl (b : Bool) | int (i : Int) | str (x : Str) | byt (b : Array UInt8) | flt (b : UInt64) | ref (a : Addr) | ty (n : String)
  deriving DecidableEq

def RelV : V → Value → Prop
  | .non, u => u = Value.none
  | .bl b, u => u = Value.bool b
  | .int i, u => ∃ t, u = Value.int i t
  | .str x, u => ∃ t, u = Value.str x t
  | .byt b, u => ∃ t, u = Value.bytes b t
  | .flt b, u => ∃ t, u = Value.float b t
  | .ref a, u => u = Value.ref a
  | .ty n, u => u = Value.type n

abbrev Vals : List V → List Value → Prop := Paired RelV
theorem Vals.length {xs : List V} {us : List Value} (r : Vals xs us) : xs.length = us.length := Paired.length r
theorem Vals.get : ∀ {xs : List V} {us : List Value} {i : Nat} {x : V}, Vals xs us → xs[i]? = some x → ∃ u, us[i]? = some u ∧ RelV x u
  | _, _, _, _, .nil, e => by simp at e
  | _, _, 0, _, .cons r _, e => by simp at e; subst e; exact ⟨_, rfl, r⟩
  | _, _, i + 1, x, .cons _ t, e => by
    obtain ⟨u, h1, h2⟩ := Vals.get (i := i) (x := x) t (by simpa using e)
    exact ⟨u, by simpa using h1, h2⟩
theorem Vals.set {x : V} {u : Value} (r : RelV x u) : ∀ {xs : List V} {us : List Value} (i : Nat), Vals xs us → Vals (xs.set i x) (us.set i u)
  | _, _, _, .nil => .nil
  | _, _, 0, .cons _ t => .cons r t
  | _, _, i + 1, .cons q t => .cons q (Vals.set r i t)
theorem Vals.append : ∀ {xs ys : List V} {us ws : List Value}, Vals xs us → Vals ys ws → Vals (xs ++ ys) (us ++ ws)
  | _, _, _, _, .nil, s => s
  | _, _, _, _, .cons r t, s => .cons r (Vals.append t s)
theorem Vals.take : ∀ {xs : List V} {us : List Value} (n : Nat), Vals xs us → Vals (xs.take n) (us.take n)
  | _, _, 0, _ => .nil
  | _, _, _ + 1, .nil => .nil
  | _, _, n + 1, .cons r t => .cons r (Vals.take n t)
theorem Vals.drop : ∀ {xs : List V} {us : List Value} (n : Nat), Vals xs us → Vals (xs.drop n) (us.drop n)
  | _, _, 0, r => r
  | _, _, _ + 1, .nil => .nil
  | _, _, n + 1, .cons _ t => Vals.drop n t
def RelO : Option V → Option Value → Prop
  | some v, some u => RelV v u
  | none, none => True
  | _, _ => False
def KV {κ : Type} : List (κ × V) → List (κ × Value) → Prop := Paired fun (p : κ × V) (q : κ × Value) => p.1 = q.1 ∧ RelV p.2 q.2

/-- a key of a dict (00_mix): an int or a text -/
def kV : Key → V
  | .inl i => .int i
  | .inr x => .str x

/-- what stands at a tracked address -/
inductive HO where
  /-- a list -/
  | lst (xs : List V)
  /-- a tuple (never changes) -/
  | tup (xs : List V)
  /-- a dict whose keys are ints and texts; one whose keys are tuples of ints and texts (the empty one is both) -/
  | dK (kvs : List (Key × V)) | dT (kvs : List (List Key × V))
  /-- a set of ints: its members, its size -/
  | set (S : Int → Bool) (n : Nat)
  /-- an instance of the class at C, its dict at dx, its attributes -/
  | ins (C dx : Addr) (fs : List (Str × V))
  /-- the dict of the instance at x -/
  | own (x : Addr)
  /-- the dict of an exception -/
  | xd (fs : List (Str × V))
  /-- a bound method, f of x -/
  | met (f x : Addr)
  /-- a range object lo, lo + 1, .. below hi -/
  | rng (lo hi : Int)
  /-- a thing that is known to the object (the script; a dict while a loop walks it): read, never written while it is so -/
  | frz (o : Obj) (u : HO)
  /-- a code object's table -/
  | tbl (ps : Array Value)
  /-- any other thing, by what is true of its one object (a def of one's own: SetO a S n := HO.ext fun h => ..) -/
  | ext (φ : Heap → Prop)

abbrev Hp := Addr → Option HO
def upd (H : Hp) (a : Addr) (o : HO) : Hp := fun b => if b = a then some o else H b
theorem upd_same {H : Hp} {a : Addr} {o : HO} : upd H a o a = some o := by unfold upd; rw [if_pos rfl]
theorem upd_ne {H : Hp} {a b : Addr} {o : HO} (h : b ≠ a) : upd H a o b = H b := by unfold upd; rw [if_neg h]
theorem upd_upd {H : Hp} {a : Addr} {o u : HO} : upd (upd H a o) a u = upd H a u := by
  funext b; unfold upd; split <;> rfl
/-- two objects of different content stand apart -/
theorem ne_of {H : Hp} {a b : Addr} {o u : HO} (h : H a = some o) (h' : H b = some u) (d : o ≠ u) : a ≠ b := by
  intro e; subst e; rw [h] at h'; exact d (Option.some.inj h')
theorem ne_of_none {H : Hp} {a b : Addr} {o : HO} (h : H a = some o) (h' : H b = none) : a ≠ b := by
  intro e; subst e; rw [h] at h'; cases h'

section
variable (P : Program) (w : World)
def ObjOk (H : Hp) (h : Heap) (a : Addr) : HO → Prop
  | .lst xs => xs.length ≤ sizeLine ∧ ∃ (its : List Value) (n : Nat), Vals xs its ∧ h.get? a = some { cls := .type "list", data := .seq its.toArray n }
  | .tup xs => xs.length ≤ sizeLine ∧ ∃ its : List Value, Vals xs its ∧ IsTup h a its.toArray
  | .dK kvs => kvs.length ≤ sizeLine ∧ (a == sysModules) = false ∧ ∃ vs, KV kvs vs ∧ h.DictOf (mixKind P w) a vs
  | .dT kvs => kvs.length ≤ sizeLine ∧ (a == sysModules) = false ∧ ∃ xs : List (List Key × Addr × Value),
      Paired (fun (p : List Key × V) (q : List Key × Addr × Value) => p.1 = q.1 ∧ H q.2.1 = some (.tup (p.1.map kV)) ∧ RelV p.2 q.2.2) kvs xs ∧
      ∃ o es ep, h.get? a = some o ∧ o.ExactDict ∧ o.data = .dict es ep ∧ es.toList = xs.map (entryOfKey (tupleKind (mixKind P w))) ∧ (xs.map (·.1)).Nodup
  | .set S n => h.SetOf (intKind P w) a S n
  | .ins C dx fs => H dx = some (.own a) ∧ fs.length ≤ 1000 ∧ dx ≠ a ∧ h.get? a = some (PySem.W.instObj C dx) ∧
      ∃ mA, h.Ns1 dx mA ∧ (∀ f, RelO (fs.lookup f) (mA f)) ∧ PySem.Within mA (fs.map (·.1))
  | .own _ => ∃ o, h.get? a = some o
  | .xd fs => ∃ mA, h.Ns1 a mA ∧ ∀ f, RelO (fs.lookup f) (mA f)
  | .rng lo hi => ∃ t u v, h.get? a = some { cls := .type "range", data := .fields #[.int lo t, .int hi u, .int 1 v] }
  | .frz o u => h.get? a = some o ∧ ObjOk H h a u
  | .tbl ps => h.get? a = some { cls := .none, data := .fields ps }
  | .met f x => h.get? a = some (PySem.W.methodObj (.ref f) (.ref x))
  | .ext φ => φ h ∧ (∃ o, h.get? a = some o) ∧ ∀ h1 h2 : Heap, φ h1 → (∀ o, h1.get? a = some o → h2.get? a = some o) → φ h2
/-- the abstract heap is held -/
def HOk (H : Hp) (h : Heap) : Prop := ∀ a o, H a = some o → ObjOk P w H h a o
end

section
variable {P : Program} {w : World} {H H' : Hp} {h h' : Heap} {a : Addr} {o : HO}
theorem ObjOk.lt (x : ObjOk P w H h a o) : a < h.objs.size := by
  cases o with
  | lst xs => obtain ⟨_, _, _, _, e⟩ := x; exact Heap.lt_size e
  | tup xs => obtain ⟨_, _, _, p⟩ := x; exact p.lt
  | dK kvs => obtain ⟨_, _, _, _, o, _, _, e, _⟩ := x; exact Heap.lt_size e
  | dT kvs => obtain ⟨_, _, _, _, o, _, _, e, _⟩ := x; exact Heap.lt_size e
  | set S n => obtain ⟨o, _, _, _, e, _⟩ := x; exact Heap.lt_size e
  | ins C dx fs => obtain ⟨_, _, _, e, _⟩ := x; exact Heap.lt_size e
  | own y => obtain ⟨_, e⟩ := x; exact Heap.lt_size e
  | xd fs => obtain ⟨_, ⟨_, _, _, e, _⟩, _⟩ := x; exact Heap.lt_size e
  | rng lo hi => obtain ⟨_, _, _, e⟩ := x; exact Heap.lt_size e
  | frz ob u => obtain ⟨e, _⟩ := x; exact Heap.lt_size e
  | tbl ps => exact Heap.lt_size (show h.get? a = some _ from x)
  | met f y => exact Heap.lt_size (show h.get? a = some _ from x)
  | ext φ => obtain ⟨_, ⟨_, e⟩, _⟩ := x; exact Heap.lt_size e
theorem Paired.mapP {α β : Type} {F G : α → β → Prop} : ∀ {l₁ : List α} {l₂ : List β}, Paired F l₁ l₂ → (∀ a b, F a b → G a b) → Paired G l₁ l₂
  | _, _, .nil, _ => .nil
  | _, _, .cons r t, f => .cons (f _ _ r) (Paired.mapP t f)
/-- what an object's description leans on: its own object, its own dict, the tuples -/
theorem ObjOk.stay (x : ObjOk P w H h a o) (k : ∀ b u, (b = a ∨ H b = some (.own a)) → h.get? b = some u → h'.get? b = some u)
    (ho : ∀ b, H b = some (.own a) → H' b = some (.own a)) (ht : ∀ b xs, H b = some (.tup xs) → H' b = some (.tup xs)) : ObjOk P w H' h' a o := by
  induction o with
  | lst xs => obtain ⟨z, its, n, r, e⟩ := x; exact ⟨z, its, n, r, k _ _ (.inl rfl) e⟩
  | tup xs => obtain ⟨z, its, r, ob, e, c⟩ := x; exact ⟨z, its, r, ob, k _ _ (.inl rfl) e, c⟩
  | dK kvs => obtain ⟨z, y, vs, r, ob, es, ep, e, c⟩ := x; exact ⟨z, y, vs, r, ob, es, ep, k _ _ (.inl rfl) e, c⟩
  | dT kvs =>
    obtain ⟨z, y, xs, r, ob, es, ep, e, c⟩ := x
    exact ⟨z, y, xs, Paired.mapP r fun p q z => ⟨z.1, ht _ _ z.2.1, z.2.2⟩, ob, es, ep, k _ _ (.inl rfl) e, c⟩
  | set S n => obtain ⟨ob, es, ep, t, e, c⟩ := x; exact ⟨ob, es, ep, t, k _ _ (.inl rfl) e, c⟩
  | ins C dx fs =>
    obtain ⟨d, z, ne, e, mA, ⟨od, es, ep, e2, c⟩, r⟩ := x
    exact ⟨ho _ d, z, ne, k _ _ (.inl rfl) e, mA, ⟨od, es, ep, k _ _ (.inr d) e2, c⟩, r⟩
  | own y => obtain ⟨ob, e⟩ := x; exact ⟨ob, k _ _ (.inl rfl) e⟩
  | xd fs => obtain ⟨mA, ⟨od, es, ep, e, c⟩, r⟩ := x; exact ⟨mA, ⟨od, es, ep, k _ _ (.inl rfl) e, c⟩, r⟩
  | rng lo hi => obtain ⟨t, u, v, e⟩ := x; exact ⟨t, u, v, k _ _ (.inl rfl) e⟩
  | frz ob u ih => obtain ⟨e, q⟩ := x; exact ⟨k _ _ (.inl rfl) e, ih q⟩
  | tbl ps =>
    have e : h.get? a = some { cls := .none, data := .fields ps } := x
    show h'.get? a = some { cls := .none, data := .fields ps }
    exact k a _ (.inl rfl) e
  | met f y =>
    have e : h.get? a = some (PySem.W.methodObj (.ref f) (.ref y)) := x
    show h'.get? a = some (PySem.W.methodObj (.ref f) (.ref y))
    exact k a _ (.inl rfl) e
  | ext φ => obtain ⟨p, ⟨o, e⟩, st⟩ := x; exact ⟨st _ _ p fun o q => k _ _ (.inl rfl) q, ⟨o, k _ _ (.inl rfl) e⟩, st⟩
theorem HOk.lt (x : HOk P w H h) (e : H a = some o) : a < h.objs.size := (x a o e).lt
theorem HOk.fresh (x : HOk P w H h) (e : h.objs.size ≤ a) : H a = none := by
  cases q : H a with
  | none => rfl
  | some u => exact absurd (Nat.lt_of_lt_of_le (x.lt q) e) (Nat.lt_irrefl _)
/-- every object of the heap is kept -/
theorem HOk.kept (x : HOk P w H h) (k : ∀ b u, h.get? b = some u → h'.get? b = some u) : HOk P w H h' := fun a o e =>
  (x a o e).stay (fun b u _ q => k b u q) (fun _ q => q) fun _ _ q => q
/-- a new object is laid and tracked -/
theorem HOk.laid (x : HOk P w H h) (k : ∀ b u, h.get? b = some u → h'.get? b = some u) (hp : h.objs.size ≤ a) (new : ObjOk P w (upd H a o) h' a o) : HOk P w (upd H a o) h' := fun b u e => by
  have hn := x.fresh hp
  by_cases hb : b = a
  · subst hb; rw [upd_same] at e; cases e; exact new
  · rw [upd_ne hb] at e
    exact (x b u e).stay (fun c v _ q => k c v q) (fun c q => by rw [upd_ne (ne_of_none q hn)]; exact q) fun c xs q => by rw [upd_ne (ne_of_none q hn)]; exact q
end

/-- what may be read as u: it is u, or a known u -/
def Rd (H : Hp) (a : Addr) (u : HO) : Prop := H a = some u ∨ ∃ o, H a = some (.frz o u)
theorem Rd.ok {P : Program} {w : World} {H : Hp} {h : Heap} {a : Addr} {u : HO} (r : Rd H a u) (x : HOk P w H h) : ObjOk P w H h a u := by
  rcases r with r | ⟨o, r⟩
  · exact x a u r
  · obtain ⟨_, q⟩ := x a _ r
    exact q
/-- what may be written -/
def Mut : Option HO → Prop
  | some (.lst _) => True
  | some (.dK _) => True
  | some (.dT _) => True
  | some (.set _ _) => True
  | some (.ins _ _ _) => True
  | some (.ext _) => True
  | _ => False
section
variable {P : Program} {w : World} {H : Hp} {h h' : Heap} {x e : Addr} {o' : HO}
/-- the object at e is changed: x itself, or the dict of the instance x -/
theorem HOk.write (ok : HOk P w H h) (mu : Mut (H x)) (he : e = x ∨ H e = some (.own x)) (k : ∀ b u, b ≠ e → h.get? b = some u → h'.get? b = some u) (heo : ∃ u, h'.get? e = some u)
    (new : ObjOk P w (upd H x o') h' x o') : HOk P w (upd H x o') h' := fun b u q => by
  have nown : ∀ c y, H c = some (.own y) → c ≠ x := fun c y r z => by subst z; rw [r] at mu; exact mu
  have ntup : ∀ c xs, H c = some (.tup xs) → c ≠ x := fun c xs r z => by subst z; rw [r] at mu; exact mu
  by_cases hb : b = x
  · subst hb; rw [upd_same] at q; cases q; exact new
  · rw [upd_ne hb] at q
    by_cases hbe : b = e
    · have q' : H b = some (.own x) := by
        rcases he with z | z
        · exact absurd (hbe.trans z) hb
        · rw [hbe]; exact z
      rw [q] at q'; cases q'
      obtain ⟨v, hv⟩ := heo
      exact ⟨v, by rw [hbe]; exact hv⟩
    · refine (ok b u q).stay (fun c v hc r => k c v ?_ r) (fun c r => by rw [upd_ne (nown c b r)]; exact r) fun c xs r => by rw [upd_ne (ntup c xs r)]; exact r
      rcases hc with rfl | hc
      · exact hbe
      · rintro rfl
        rcases he with z | z
        · exact nown c b hc z
        · rw [hc] at z; cases z; exact hb rfl
end

/-! ### kept unless tracked; of the frames at fs (the callers') the slots may change (an exception that passes writes there); of the records at ex (iterators) nothing is said -/
structure Un (fs ex : List Addr) (H H' : Hp) (h h' : Heap) : Prop where
  keep : ∀ b o, h.get? b = some o → H b = none → b ∉ fs → b ∉ ex → h'.get? b = some o
  slot : ∀ b o, h.get? b = some o → H b = none → b ∈ fs → b ∉ ex → ∃ sl, h'.get? b = some { o with slots := sl }
  free : ∀ b o, h.get? b = some o → H b = none → b ∉ ex → H' b = none
  there : ∀ b o, h.get? b = some o → b ∉ ex → ∃ o', h'.get? b = some o'
  tups : ∀ b xs, H b = some (.tup xs) → H' b = some (.tup xs)
  frzs : ∀ b o u, H b = some (.frz o u) → H' b = some (.frz o u)
  tbls : ∀ b ps, H b = some (.tbl ps) → ∃ more, H' b = some (.tbl (ps ++ more))
section
variable {fs fs' ex ex' : List Addr} {H H1 H2 : Hp} {h h1 h2 h' : Heap} {a x e : Addr} {o : HO}
theorem Un.any (u : Un fs ex H H1 h h1) {b : Addr} {ob : Obj} (q : h.get? b = some ob) (n : H b = none) (hx : b ∉ ex) : ∃ sl, h1.get? b = some { ob with slots := sl } := by
  by_cases hb : b ∈ fs
  · exact u.slot b ob q n hb hx
  · exact ⟨ob.slots, u.keep b ob q n hb hx⟩
theorem Un.kept (k : ∀ b u, h.get? b = some u → h'.get? b = some u) : Un fs ex H H h h' :=
  ⟨fun b ob q _ _ _ => k b ob q, fun b ob q _ _ _ => ⟨ob.slots, k b ob q⟩, fun _ _ _ n _ => n, fun b ob q _ => ⟨ob, k b ob q⟩, fun _ _ q => q, fun _ _ _ q => q, fun _ ps q => ⟨#[], by rw [q]; simp⟩⟩
theorem Un.refl : Un fs ex H H h h := Un.kept fun _ _ q => q
theorem Un.laid (k : ∀ b u, h.get? b = some u → h'.get? b = some u) (hp : h.objs.size ≤ a) (hn : H a = none) : Un fs ex H (upd H a o) h h' where
  keep := fun b u q _ _ _ => k b u q
  slot := fun b u q _ _ _ => ⟨u.slots, k b u q⟩
  free := fun b u q n _ => by rw [upd_ne (Nat.ne_of_lt (Nat.lt_of_lt_of_le (Heap.lt_size q) hp))]; exact n
  there := fun b u q _ => ⟨u, k b u q⟩
  tups := fun b xs q => by rw [upd_ne (ne_of_none q hn)]; exact q
  frzs := fun b u xs q => by rw [upd_ne (ne_of_none q hn)]; exact q
  tbls := fun b ps q => ⟨#[], by rw [upd_ne (ne_of_none q hn), q]; simp⟩
theorem Un.write (mu : Mut (H x)) (he : e = x ∨ H e = some (.own x)) (k : ∀ b u, b ≠ e → h.get? b = some u → h'.get? b = some u) (heo : ∃ u, h'.get? e = some u) : Un fs ex H (upd H x o) h h' := by
  have hx : ∀ b, H b = none → b ≠ x := fun b n z => by subst z; rw [n] at mu; exact mu
  have hb : ∀ b, H b = none → b ≠ e := fun b n z => by
    subst z
    rcases he with r | r
    · exact hx b n r
    · rw [n] at r; cases r
  have hm : ∀ b u, H b = some u → ¬ Mut (some u) → b ≠ x := fun b u q nm z => by subst z; rw [q] at mu; exact nm mu
  refine ⟨fun b u q n _ _ => k b u (hb b n) q, fun b u q n _ _ => ⟨u.slots, k b u (hb b n) q⟩, fun b u q n _ => by rw [upd_ne (hx b n)]; exact n, fun b u q _ => ?_,
    fun b xs q => by rw [upd_ne (hm b _ q fun z => z)]; exact q, fun b u xs q => by rw [upd_ne (hm b _ q fun z => z)]; exact q, fun b ps q => ⟨#[], by rw [upd_ne (hm b _ q fun z => z), q]; simp⟩⟩
  by_cases hbe : b = e
  · subst hbe; exact heo
  · exact ⟨u, k b u hbe q⟩
end

/-! ### the heap without what is tracked -/
def trk (h : Heap) (H : Hp) : List Addr := (List.range h.objs.size).filter fun a => (H a).isSome
def hidT (h : Heap) (H : Hp) : Heap := PySem.W.hideAll h (trk h H)
theorem hidT_size (h : Heap) (H : Hp) : (hidT h H).objs.size = h.objs.size := PySem.W.hideAll_size _ _
theorem hidT_get {h : Heap} {H : Hp} {b : Addr} {o : Obj} (e : h.get? b = some o) (n : H b = none) : (hidT h H).get? b = some o :=
  PySem.W.hideAll_get _ e fun hm => by
    have q : (H b).isSome = true := (List.mem_filter.mp hm).2
    rw [n] at q; simp at q
theorem of_hidT {h : Heap} {H : Hp} {b : Addr} {o : Obj} (e : (hidT h H).get? b = some o) : h.get? b = some o ∧ H b = none := by
  have e' : h.get? b = some o := PySem.W.of_hideAll (trk h H) e
  refine ⟨e', ?_⟩
  cases q : H b with
  | none => rfl
  | some x =>
    have hm : b ∈ trk h H := List.mem_filter.mpr ⟨List.mem_range.mpr (Heap.lt_size e'), by simp [q]⟩
    have z : (hidT h H).get? b = none := PySem.W.hideAll_none (trk h H) hm
    rw [z] at e; cases e

/-! ### OpenK's ledger, filled with every new object but one -/
def allNews (g h : Heap) (L : Addr) : List (Addr × Obj) := (List.range h.objs.size).filterMap fun a => if a = L ∨ (g.get? a).isSome = true then none else (h.get? a).map fun o => (a, o)
def rest (g h : Heap) (L d : Addr) : List (Addr × Obj) := (allNews g h L).filter fun p => decide (p.1 ≠ d)
end L2

namespace L2
open PySem PySem.Spec PyProof.Rows

/-- the module's facts, over the base: the heap at the law's entry without what is tracked there -/
structure Mod (K : PySem.W.Frag) (mg : Str → Option Value) (base : Heap) : Prop where
  kin : K.In base
  glob : base.Ns mainGlobals mg
  blt : ∃ mb, base.Ns builtinsNs mb ∧ ∀ x : Str, x ≠ "__name__" → mb x = bootBuiltins x
  nolimit : base.NoLimit

/-- the context: a def's body (or a comprehension's block) running. base: fixed through the whole law; s₀, H₀: the entry; outer: the frames whose slots others may change (a def's callers); stack: all frames that run;
   ex: iterators that were made ahead of the entry and are walked here (a comprehension's); fn: the names whose cells were made at the entry (a def: all; a comprehension's block: its own); calm: not within an except suite; pn: pins that every state bears; xe: what is wanted of an exception that leaves the code -/
structure Cx where
  prog : Program
  w : World
  K : PySem.W.Frag
  mg : Str → Option Value
  base : Heap
  A : Around
  N : List Str
  s₀ : Shared
  H₀ : Hp
  env : Env
  outer : List Env
  stack : List Env
  ex : List Addr
  fn : Str → Bool
  calm : Bool
  pn : List (Addr × Obj)
  xe : Value → Shared → Prop
/-- the callers' frames -/
def frs (l : List Env) : List Addr := l.filterMap (·.frame)
abbrev Cx.fs (X : Cx) : List Addr := frs X.outer

def Vis (sc : Scope) (x : Str) : Prop := sc.names.lookup x = some .local ∨ sc.names.lookup x = some .cell ∨ sc.names.lookup x = some .free
def Loc (sc : Scope) (x : Str) : Prop := sc.names.lookup x = some .local ∨ sc.names.lookup x = some .cell
def Look (env : Env) (h : Heap) (m : Str → Option Value) (x : Str) (u : Value) : Prop :=
  (env.kindOf x = some .local ∧ m x = some u) ∨ ((env.kindOf x = some .cell ∨ env.kindOf x = some .free) ∧ ∃ c, env.cells.lookup x = some c ∧ h.IsCell c (some u))

structure Cx.Ok (X : Cx) : Prop where
  mod : Mod X.K X.mg X.base
  kind : X.env.scope.kind = .function
  glob : X.env.globals = mainGlobals
  blt : X.env.builtins = builtinsNs
  above : X.s₀.heap.objs.size ≤ X.env.locals
  inj : ∀ x y c, X.env.cells.lookup x = some c → X.env.cells.lookup y = some c → x = y
  has : ∀ x, (X.env.kindOf x = some .cell ∨ X.env.kindOf x = some .free) → ∃ c, X.env.cells.lookup x = some c
  cab : ∀ x c, X.fn x = true → X.env.cells.lookup x = some c → X.s₀.heap.objs.size ≤ c
  hd : X.calm = true → X.A.handled = none
  frames : X.A.frames = some X.stack
  stk : X.stack = X.outer ∨ (X.stack = X.env :: X.outer ∧ X.env.frame = some X.env.locals)
  exf : ∀ b ∈ X.ex, b ≠ X.env.locals ∧ ∀ x c, X.env.cells.lookup x = some c → c ≠ b
  bs : ∀ b o, X.base.get? b = some o → X.s₀.heap.get? b = some o ∧ X.H₀ b = none
  bsz : X.base.objs.size ≤ X.s₀.heap.objs.size
  noex : ∀ b o, X.base.get? b = some o → b ∉ X.ex
  exfs : ∀ b ∈ X.ex, b ∉ X.fs
  funs : X.s₀.heap.FunFrames X.base X.outer
  frf : ∀ b ∈ X.fs, X.H₀ b = none

structure Inv (X : Cx) (pins : List (Addr × Obj)) (σ : List (Option V)) (H : Hp) (s : Shared) : Prop where
  ok : X.Ok
  os : s.os = X.s₀.os
  bare : AllBare s.gens
  base : Un X.fs X.ex X.H₀ H X.s₀.heap s.heap
  loc : ∃ m, s.heap.Ns X.env.locals m ∧ ∀ (i : Nat) (x : Str) (v : V), X.N[i]? = some x → σ[i]? = some (some v) → Vis X.env.scope x → ∃ u, RelV v u ∧ Look X.env s.heap m x u
  cell : ∀ x c, X.env.cells.lookup x = some c → ∃ v, s.heap.IsCell c v
  free : H X.env.locals = none
  freeC : ∀ x c, X.env.cells.lookup x = some c → H c = none
  pin : ∀ p ∈ X.pn ++ pins, s.heap.get? p.1 = some p.2 ∧ H p.1 = none ∧ p.1 ≠ X.env.locals ∧ p.1 ∉ X.fs ∧ ∀ v, p.2.data ≠ .cell v
  hok : HOk X.prog X.w H s.heap
  len : σ.length = X.N.length

section
variable {X : Cx} {pins : List (Addr × Obj)} {σ : List (Option V)} {H H' : Hp} {s : Shared} {h' : Heap}

theorem Cx.Ok.nofr (ok : X.Ok) {b : Addr} {o : Obj} (e : X.base.get? b = some o) : b ∉ X.fs := fun hb => by
  have := (ok.funs.mem hb).1
  rw [e] at this; cases this
theorem Inv.bs (I : Inv X pins σ H s) : ∀ b o, X.base.get? b = some o → s.heap.get? b = some o ∧ H b = none := fun b o e =>
  ⟨I.base.keep b o (I.ok.bs b o e).1 (I.ok.bs b o e).2 (I.ok.nofr e) (I.ok.noex b o e), I.base.free b o (I.ok.bs b o e).1 (I.ok.bs b o e).2 (I.ok.noex b o e)⟩
theorem Inv.bk (I : Inv X pins σ H s) : ∀ b o, X.base.get? b = some o → s.heap.get? b = some o := fun b o e => (I.bs b o e).1
theorem Inv.mod (I : Inv X pins σ H s) : Mod X.K X.mg X.base := I.ok.mod
theorem Inv.kIn (I : Inv X pins σ H s) : X.K.In s.heap := I.ok.mod.kin.keeps I.bk
theorem Inv.lt (I : Inv X pins σ H s) : X.env.locals < s.heap.objs.size := let ⟨_, hn, _⟩ := I.loc; hn.lt
theorem Inv.sz (I : Inv X pins σ H s) : X.s₀.heap.objs.size ≤ s.heap.objs.size := Nat.le_trans I.ok.above (Nat.le_of_lt I.lt)
theorem Inv.nofs (I : Inv X pins σ H s) {a : Addr} (h : s.heap.objs.size ≤ a) : a ∉ X.fs := fun hb => by
  obtain ⟨_, o, ho, _⟩ := I.ok.funs.mem hb
  exact absurd (Nat.lt_of_lt_of_le (Heap.lt_size ho) (Nat.le_trans I.sz h)) (Nat.lt_irrefl _)
theorem Inv.cne (I : Inv X pins σ H s) : ∀ x c, X.env.cells.lookup x = some c → c ≠ X.env.locals := fun x c e z => by
  obtain ⟨v, o, ho, hd⟩ := I.cell x c e
  obtain ⟨m, ⟨o', es, ep, ho', hd', _⟩, _⟩ := I.loc
  rw [z, ho'] at ho; cases ho; rw [hd'] at hd; cases hd
theorem Inv.funs (I : Inv X pins σ H s) : s.heap.FunFrames X.base X.outer := by
  have all : ∀ (l : List Env), (∀ b ∈ frs l, b ∈ X.fs) → X.s₀.heap.FunFrames X.base l → s.heap.FunFrames X.base l := by
    intro l
    induction l with
    | nil => intro _ _; trivial
    | cons env r ih =>
      intro hs hl
      obtain ⟨hk, ⟨L, o, hf, hn, ho, hd⟩, hr⟩ := hl
      have hL : L ∈ X.fs := hs L (by unfold frs; rw [List.filterMap_cons, hf]; exact List.mem_cons_self)
      obtain ⟨sl, e⟩ := I.base.slot L o ho (I.ok.frf L hL) hL fun z => I.ok.exfs L z hL
      exact ⟨hk, ⟨L, _, hf, hn, e, hd⟩, ih (fun b hb => hs b (by unfold frs; rw [List.filterMap_cons, hf]; exact List.mem_cons_of_mem _ hb)) hr⟩
  exact all X.outer (fun _ hb => hb) I.ok.funs

/-- the frames that run, for a call -/
theorem Inv.stack (I : Inv X pins σ H s) : s.heap.FunFrames X.base X.stack := by
  rcases I.ok.stk with e | ⟨e, hf⟩
  · rw [e]; exact I.funs
  · rw [e]
    obtain ⟨m, hn, _⟩ := I.loc
    refine .cons (by rw [I.ok.kind]; decide) hf hn ?_ I.funs
    exact Heap.get?_none_of_le (Nat.le_trans I.ok.bsz I.ok.above)
theorem Inv.stkSub (I : Inv X pins σ H s) : ∀ b ∈ frs X.stack, b ∈ X.env.locals :: X.fs := fun b hb => by
  rcases I.ok.stk with e | ⟨e, hf⟩
  · rw [e] at hb; exact List.mem_cons_of_mem _ hb
  · rw [e] at hb
    unfold frs at hb
    rw [List.filterMap_cons, hf] at hb
    exact hb
theorem Inv.stkFree (I : Inv X pins σ H s) : ∀ b ∈ frs X.stack, H b = none := fun b hb => by
  rcases List.mem_cons.mp (I.stkSub b hb) with e | hb
  · rw [e]; exact I.free
  · obtain ⟨_, o, ho, _⟩ := I.ok.funs.mem hb
    exact I.base.free b o ho (I.ok.frf b hb) fun z => I.ok.exfs b z hb

/-- THE STEP: the untracked objects but the frame and the records at ch are kept (the callers' frames up to slots), the frame's map is kept, the new abstract heap is held -/
theorem Inv.step {g' : Array GenState} {t' : Nat} {d' : Drawn} {ch : List Addr} (I : Inv X pins σ H s)
    (hch : ∀ b ∈ ch, (b ∈ X.ex ∨ X.s₀.heap.objs.size ≤ b) ∧ b ≠ X.env.locals ∧ (∀ x c, X.env.cells.lookup x = some c → c ≠ b) ∧ ∀ p ∈ X.pn ++ pins, p.1 ≠ b)
    (keep : ∀ b o, b ≠ X.env.locals → b ∉ X.fs → b ∉ ch → s.heap.get? b = some o → H b = none → h'.get? b = some o)
    (slot : ∀ b o, b ≠ X.env.locals → b ∈ X.fs → b ∉ ch → s.heap.get? b = some o → H b = none → ∃ sl, h'.get? b = some { o with slots := sl }) (free : ∀ b o, b ∉ ch → s.heap.get? b = some o → H b = none → H' b = none)
    (there : ∀ b o, b ∉ ch → s.heap.get? b = some o → ∃ o', h'.get? b = some o')
    (tups : ∀ b xs, H b = some (.tup xs) → H' b = some (.tup xs)) (frzs : ∀ b o u, H b = some (.frz o u) → H' b = some (.frz o u)) (tbls : ∀ b ps, H b = some (.tbl ps) → ∃ more, H' b = some (.tbl (ps ++ more)))
    (ns : ∀ m, s.heap.Ns X.env.locals m → h'.Ns X.env.locals m) (hok : HOk X.prog X.w H' h') (hg : AllBare g') :
    Inv X pins σ H' { s with heap := h', gens := g', drawn := d', toks := t' } := by
  have neL : ∀ b o, X.s₀.heap.get? b = some o → b ≠ X.env.locals := fun b o e => Nat.ne_of_lt (Nat.lt_of_lt_of_le (Heap.lt_size e) I.ok.above)
  have neC : ∀ b o, X.s₀.heap.get? b = some o → b ∉ X.ex → b ∉ ch := fun b o e hx hb => by
    rcases (hch b hb).1 with z | z
    · exact hx z
    · exact absurd (Nat.lt_of_lt_of_le (Heap.lt_size e) z) (Nat.lt_irrefl _)
  have cellK : ∀ x c, X.env.cells.lookup x = some c → ∀ v, s.heap.IsCell c v → h'.IsCell c v := fun x c e v ⟨o, ho, hd⟩ => by
    have nch : c ∉ ch := fun z => (hch c z).2.2.1 x c e rfl
    by_cases hc : c ∈ X.fs
    · obtain ⟨sl, q⟩ := slot c o (I.cne x c e) hc nch ho (I.freeC x c e)
      exact ⟨_, q, hd⟩
    · exact ⟨o, keep c o (I.cne x c e) hc nch ho (I.freeC x c e), hd⟩
  refine ⟨I.ok, I.os, hg, ⟨fun b o e n hb hx => ?_, fun b o e n hb hx => ?_, fun b o e n hx => ?_, fun b o e hx => ?_, fun b xs e => tups b xs (I.base.tups b xs e), fun b o xs e => frzs b o xs (I.base.frzs b o xs e), fun b ps e => ?_⟩, ?_, fun x c e => ?_, ?_, fun x c e => ?_, fun p hp => ?_, hok, I.len⟩
  · exact keep b o (neL b o e) hb (neC b o e hx) (I.base.keep b o e n hb hx) (I.base.free b o e n hx)
  · obtain ⟨sl, e1⟩ := I.base.slot b o e n hb hx
    obtain ⟨sl', e2⟩ := slot b _ (neL b o e) hb (neC b o e hx) e1 (I.base.free b o e n hx)
    exact ⟨sl', e2⟩
  · obtain ⟨o', e1⟩ := I.base.there b o e hx
    exact free b o' (neC b o e hx) e1 (I.base.free b o e n hx)
  · obtain ⟨o', e1⟩ := I.base.there b o e hx
    exact there b o' (neC b o e hx) e1
  · obtain ⟨m1, e1⟩ := I.base.tbls b ps e
    obtain ⟨m2, e2⟩ := tbls b _ e1
    exact ⟨m1 ++ m2, by rw [e2, Array.append_assoc]⟩
  · obtain ⟨m, hn, hl⟩ := I.loc
    refine ⟨m, ns m hn, fun i x v e1 e2 e3 => ?_⟩
    obtain ⟨u, r, l⟩ := hl i x v e1 e2 e3
    refine ⟨u, r, ?_⟩
    rcases l with l | ⟨k, c, e, z⟩
    · exact .inl l
    · exact .inr ⟨k, c, e, cellK x c e _ z⟩
  · obtain ⟨v, z⟩ := I.cell x c e
    exact ⟨v, cellK x c e v z⟩
  · obtain ⟨m, ⟨o, _, _, ho, _⟩, _⟩ := I.loc
    exact free _ o (fun z => (hch _ z).2.1 rfl) ho I.free
  · obtain ⟨v, o, ho, hd⟩ := I.cell x c e
    exact free c o (fun z => (hch c z).2.2.1 x c e rfl) ho (I.freeC x c e)
  · obtain ⟨e, n, ne, nf, d⟩ := I.pin p hp
    have nch : p.1 ∉ ch := fun z => (hch p.1 z).2.2.2 p hp rfl
    exact ⟨keep p.1 p.2 ne nf nch e n, free p.1 p.2 nch e n, ne, nf, d⟩
/-- .. where the frame's own object is kept too -/
theorem Inv.un {t' : Nat} (I : Inv X pins σ H s) (u : Un X.fs [] H H' s.heap h') (hok : HOk X.prog X.w H' h') : Inv X pins σ H' { s with heap := h', toks := t' } := by
  obtain ⟨m, ⟨o, es, ep, ho, r⟩, _⟩ := id I.loc
  obtain ⟨sl, hL⟩ := u.any ho I.free (by simp)
  exact I.step (g' := s.gens) (d' := s.drawn) (ch := []) (fun _ z => nomatch z) (fun b o _ hb _ e n => u.keep b o e n hb (by simp)) (fun b o _ hb _ e n => u.slot b o e n hb (by simp)) (fun b o _ e n => u.free b o e n (by simp)) (fun b o _ e => u.there b o e (by simp)) u.tups u.frzs u.tbls (fun m' hm => by
    obtain ⟨o', es', ep', ho', r'⟩ := hm
    rw [ho] at ho'; cases ho'
    exact ⟨_, es', ep', hL, r'⟩) hok I.bare
/-- behind a call (or a comprehension's block): the slots of this frame may have changed too, the records at ch may have turned -/
theorem Inv.call {g' : Array GenState} {t' : Nat} {d' : Drawn} {ch : List Addr} (I : Inv X pins σ H s) (u : Un (frs X.stack) ch H H' s.heap h') (hok : HOk X.prog X.w H' h') (hg : AllBare g')
    (hch : ∀ b ∈ ch, (b ∈ X.ex ∨ X.s₀.heap.objs.size ≤ b) ∧ b ≠ X.env.locals ∧ (∀ x c, X.env.cells.lookup x = some c → c ≠ b) ∧ ∀ p ∈ X.pn ++ pins, p.1 ≠ b) :
    Inv X pins σ H' { s with heap := h', gens := g', drawn := d', toks := t' } := by
  obtain ⟨m, ⟨o, es, ep, ho, r⟩, _⟩ := id I.loc
  obtain ⟨sl, hL⟩ := u.any ho I.free fun z => (hch _ z).2.1 rfl
  exact I.step (ch := ch) hch (fun b o hL hb hc e n => u.keep b o e n (fun z => (List.mem_cons.mp (I.stkSub b z)).elim hL hb) hc) (fun b o _ _ hc e n => u.any e n hc) (fun b o hc e n => u.free b o e n hc) (fun b o hc e => u.there b o e hc) u.tups u.frzs u.tbls (fun m' hm => by
    obtain ⟨o', es', ep', ho', r'⟩ := hm
    rw [ho] at ho'; cases ho'
    exact ⟨_, es', ep', hL, r'⟩) hok hg
/-- an untracked record of ours (an iterator) has turned -/
theorem Inv.turned {t' : Nat} {it : Addr} (I : Inv X pins σ H s) (k : ∀ b o, b ≠ it → s.heap.get? b = some o → h'.get? b = some o) (hn : H it = none) (hL : it ≠ X.env.locals)
    (h1 : it ∈ X.ex ∨ X.s₀.heap.objs.size ≤ it) (h2 : ∀ x c, X.env.cells.lookup x = some c → c ≠ it) (h3 : ∀ p ∈ X.pn ++ pins, p.1 ≠ it) : Inv X pins σ H { s with heap := h', toks := t' } := by
  have nit : ∀ b u, H b = some u → b ≠ it := fun b u e z => by rw [z, hn] at e; cases e
  refine I.step (g' := s.gens) (d' := s.drawn) (ch := [it]) (fun b hb => ?_) (fun b o _ _ hc e _ => k b o (fun z => hc (by simp [z])) e) (fun b o _ _ hc e _ => ⟨o.slots, k b o (fun z => hc (by simp [z])) e⟩) (fun _ _ _ _ n => n)
    (fun b o hc e => ⟨o, k b o (fun z => hc (by simp [z])) e⟩) (fun _ _ e => e) (fun _ _ _ e => e) (fun b ps e => ⟨#[], by rw [e]; simp⟩) (fun m hm => ?_) (fun b u e => ?_) I.bare
  · have e : b = it := by simpa using hb
    subst e
    exact ⟨h1, hL, h2, h3⟩
  · obtain ⟨o, es, ep, ho, r⟩ := hm
    exact ⟨o, es, ep, k _ o (Ne.symm hL) ho, r⟩
  · refine (I.hok b u e).stay (fun c v hc q => k c v ?_ q) (fun _ q => q) fun _ _ q => q
    rcases hc with z | z
    · rw [z]; exact nit b u e
    · exact nit c _ z
theorem Inv.tok (I : Inv X pins σ H s) (t : Nat) : Inv X pins σ H { s with toks := t } := I.un (h' := s.heap) (t' := t) Un.refl I.hok
/-- all objects kept -/
theorem Inv.kept {t' : Nat} (I : Inv X pins σ H s) (k : ∀ b u, s.heap.get? b = some u → h'.get? b = some u) : Inv X pins σ H { s with heap := h', toks := t' } := I.un (Un.kept k) (I.hok.kept k)
/-- a new object laid and tracked -/
theorem Inv.laid {a : Addr} {o : HO} {t' : Nat} (I : Inv X pins σ H s) (k : ∀ b u, s.heap.get? b = some u → h'.get? b = some u) (hp : s.heap.objs.size ≤ a) (new : ObjOk X.prog X.w (upd H a o) h' a o) :
    Inv X pins σ (upd H a o) { s with heap := h', toks := t' } := I.un (Un.laid k hp (I.hok.fresh hp)) (I.hok.laid k hp new)
/-- an object written -/
theorem Inv.write {x e : Addr} {o : HO} {t' : Nat} (I : Inv X pins σ H s) (mu : Mut (H x)) (he : e = x ∨ H e = some (.own x)) (k : ∀ b u, b ≠ e → s.heap.get? b = some u → h'.get? b = some u) (heo : ∃ u, h'.get? e = some u)
    (new : ObjOk X.prog X.w (upd H x o) h' x o) : Inv X pins σ (upd H x o) { s with heap := h', toks := t' } := I.un (Un.write mu he k heo) (I.hok.write mu he k heo new)
theorem Inv.pins_of {pins' : List (Addr × Obj)} (I : Inv X pins σ H s) (h : ∀ p ∈ pins', s.heap.get? p.1 = some p.2 ∧ H p.1 = none ∧ p.1 ≠ X.env.locals ∧ p.1 ∉ X.fs ∧ ∀ v, p.2.data ≠ .cell v) : Inv X pins' σ H s :=
  ⟨I.ok, I.os, I.bare, I.base, I.loc, I.cell, I.free, I.freeC, fun p hp => (List.mem_append.mp hp).elim (fun z => I.pin p (List.mem_append_left _ z)) (h p), I.hok, I.len⟩

theorem nodup_ix {N : List Str} (hN : N.Nodup) {i j : Nat} {x : Str} (a : N[i]? = some x) (b : N[j]? = some x) : i = j := by
  obtain ⟨h1, e1⟩ := List.getElem?_eq_some_iff.mp a
  obtain ⟨h2, e2⟩ := List.getElem?_eq_some_iff.mp b
  exact (List.getElem_inj hN).mp (e1.trans e2.symm)

/-- a name is stored; what changed -/
theorem store_ok2 {M : Model} {A : Around} {E : Value → Shared → Prop} {i : Nat} {x : Str} {v : V} {u : Value} {Q : Unit → Shared → Prop} (I : Inv X pins σ H s) (hN : X.N.Nodup) (hi : X.N[i]? = some x) (hx : Loc X.env.scope x) (r : RelV v u)
    (h : ∀ s', Inv X pins (σ.set i (some v)) H s' → (∃ a, Heap.SameBut a s.heap s'.heap ∧ (a = X.env.locals ∨ X.env.cells.lookup x = some a)) → Q () s') (hf : X.fn x = true ∨ X.env.scope.names.lookup x = some .local := by first | exact .inl rfl | exact .inr rfl | assumption) : wpAny M A (storeName X.env x u) Q E s := by
  obtain ⟨m, hn, hl⟩ := id I.loc
  have hcls : (X.env.scope.kind == .class || (X.env.scope.kind == .module && X.env.locals != X.env.globals)) = false := by rw [I.ok.kind]; rfl
  have hiσ : i < σ.length := by rw [I.len]; exact (List.getElem?_eq_some_iff.mp hi).1
  have cne := I.cne
  have tracked : ∀ {a : Addr} {h' : Heap}, (∃ o, s.heap.get? a = some o ∧ H a = none) → Heap.SameBut a s.heap h' → HOk X.prog X.w H h' := fun {a h'} ha hs b ob e => by
    obtain ⟨_, _, hfree⟩ := ha
    refine (I.hok b ob e).stay (fun c w' hc q => (hs.2 c ?_).trans q) (fun _ q => q) fun _ _ q => q
    rintro rfl
    rcases hc with rfl | hc
    · rw [hfree] at e; cases e
    · rw [hfree] at hc; cases hc
  rcases hx with hk | hk
  · refine wpAny_storeName_local hk hn (fun h' hn' hs => ?_) hcls
    obtain ⟨oL, _, _, hoL, _⟩ := id hn
    refine h _ ⟨I.ok, I.os, I.bare, ⟨fun b o e n hb hx => ?_, fun b o e n hb hx => ?_, I.base.free, fun b o e hx => ?_, I.base.tups, I.base.frzs, I.base.tbls⟩, ⟨_, hn', fun j y v' e1 e2 e3 => ?_⟩, fun y c e => ?_, I.free, I.freeC, fun p hp => ?_, tracked ⟨oL, hoL, I.free⟩ hs, by simpa using I.len⟩ ⟨_, hs, .inl rfl⟩
    · exact (hs.2 b (Nat.ne_of_lt (Nat.lt_of_lt_of_le (Heap.lt_size e) I.ok.above))).trans (I.base.keep b o e n hb hx)
    · obtain ⟨sl, e1⟩ := I.base.slot b o e n hb hx
      exact ⟨sl, (hs.2 b (Nat.ne_of_lt (Nat.lt_of_lt_of_le (Heap.lt_size e) I.ok.above))).trans e1⟩
    · obtain ⟨o', e1⟩ := I.base.there b o e hx
      exact ⟨o', (hs.2 b (Nat.ne_of_lt (Nat.lt_of_lt_of_le (Heap.lt_size e) I.ok.above))).trans e1⟩
    · by_cases hj : j = i
      · subst hj
        rw [hi] at e1; cases e1
        rw [List.getElem?_set_self hiσ] at e2
        cases e2
        exact ⟨u, r, .inl ⟨hk, by simp⟩⟩
      · rw [List.getElem?_set_ne (Ne.symm hj)] at e2
        obtain ⟨u', r', q⟩ := hl j y v' e1 e2 e3
        refine ⟨u', r', ?_⟩
        rcases q with ⟨k, e⟩ | ⟨k, c, e, z⟩
        · refine .inl ⟨k, ?_⟩
          have : y ≠ x := fun e => hj (nodup_ix hN e1 (e ▸ hi))
          simp [this, e]
        · exact .inr ⟨k, c, e, z.sameBut hs (cne y c e)⟩
    · obtain ⟨w', z⟩ := I.cell y c e
      exact ⟨w', z.sameBut hs (cne y c e)⟩
    · obtain ⟨e, n, ne, nf, d⟩ := I.pin p hp
      exact ⟨(hs.2 p.1 ne).trans e, n, ne, nf, d⟩
  · have hfn : X.fn x = true := by
      rcases hf with z | z
      · exact z
      · rw [z] at hk; cases hk
    obtain ⟨c, hc⟩ := I.ok.has x (.inl hk)
    obtain ⟨w', z⟩ := I.cell x c hc
    refine wpAny_storeName_cell I.ok.kind hk hc z (fun h' hc' hs => ?_)
    obtain ⟨oc, hoc, hocd⟩ := id z
    refine h { s with heap := h' } ⟨I.ok, I.os, I.bare, ⟨fun b o e n hb hx => ?_, fun b o e n hb hx => ?_, I.base.free, fun b o e hx => ?_, I.base.tups, I.base.frzs, I.base.tbls⟩, ⟨m, hn.sameBut hs (Ne.symm (cne x c hc)), fun j y v' e1 e2 e3 => ?_⟩, fun y c' e => ?_, I.free, I.freeC, fun p hp => ?_, tracked ⟨oc, hoc, I.freeC x c hc⟩ hs, by simpa using I.len⟩ ⟨c, hs, .inr hc⟩
    · exact (hs.2 b (Nat.ne_of_lt (Nat.lt_of_lt_of_le (Heap.lt_size e) (I.ok.cab x c hfn hc)))).trans (I.base.keep b o e n hb hx)
    · obtain ⟨sl, e1⟩ := I.base.slot b o e n hb hx
      exact ⟨sl, (hs.2 b (Nat.ne_of_lt (Nat.lt_of_lt_of_le (Heap.lt_size e) (I.ok.cab x c hfn hc)))).trans e1⟩
    · obtain ⟨o', e1⟩ := I.base.there b o e hx
      exact ⟨o', (hs.2 b (Nat.ne_of_lt (Nat.lt_of_lt_of_le (Heap.lt_size e) (I.ok.cab x c hfn hc)))).trans e1⟩
    · by_cases hj : j = i
      · subst hj
        rw [hi] at e1; cases e1
        rw [List.getElem?_set_self hiσ] at e2
        cases e2
        exact ⟨u, r, .inr ⟨.inl hk, c, hc, hc'⟩⟩
      · rw [List.getElem?_set_ne (Ne.symm hj)] at e2
        obtain ⟨u', r', q⟩ := hl j y v' e1 e2 e3
        refine ⟨u', r', ?_⟩
        rcases q with q | ⟨k, c', e, z'⟩
        · exact .inl q
        · refine .inr ⟨k, c', e, z'.sameBut hs ?_⟩
          rintro rfl
          exact hj (nodup_ix hN e1 (I.ok.inj _ _ _ e hc ▸ hi))
    · by_cases hcc : c' = c
      · subst hcc; exact ⟨_, hc'⟩
      · obtain ⟨w2, z2⟩ := I.cell y c' e
        exact ⟨w2, z2.sameBut hs hcc⟩
    · obtain ⟨e, n, ne, nf, d⟩ := I.pin p hp
      refine ⟨(hs.2 p.1 ?_).trans e, n, ne, nf, d⟩
      intro q
      rw [q, hoc] at e
      have q' : oc = p.2 := Option.some.inj e
      exact d w' (by rw [← q']; exact hocd)
theorem store_ok {M : Model} {A : Around} {E : Value → Shared → Prop} {i : Nat} {x : Str} {v : V} {u : Value} {Q : Unit → Shared → Prop} (I : Inv X pins σ H s) (hN : X.N.Nodup) (hi : X.N[i]? = some x) (hx : Loc X.env.scope x) (r : RelV v u)
    (h : ∀ s', Inv X pins (σ.set i (some v)) H s' → Q () s') (hf : X.fn x = true ∨ X.env.scope.names.lookup x = some .local := by first | exact .inl rfl | exact .inr rfl | assumption) : wpAny M A (storeName X.env x u) Q E s :=
  store_ok2 I hN hi hx r (fun s' I' _ => h s' I') hf
/-- behind a call or a block, the state as it is -/
theorem Inv.call' {s' : Shared} {ch : List Addr} (I : Inv X pins σ H s) (ho : s'.os = s.os) (u : Un (frs X.stack) ch H H' s.heap s'.heap) (hok : HOk X.prog X.w H' s'.heap) (hg : AllBare s'.gens)
    (hch : ∀ b ∈ ch, (b ∈ X.ex ∨ X.s₀.heap.objs.size ≤ b) ∧ b ≠ X.env.locals ∧ (∀ x c, X.env.cells.lookup x = some c → c ≠ b) ∧ ∀ p ∈ X.pn ++ pins, p.1 ≠ b) : Inv X pins σ H' s' := by
  obtain ⟨h', g', d', t', o'⟩ := s'
  have e : o' = s.os := ho
  subst e
  exact I.call (g' := g') (t' := t') (d' := d') u hok hg hch
end

/-! ### the judgements -/
/-- an exception: its class, its own dict's address (where it has one), the abstract heap behind it -/
abbrev XK := Value → Option Addr → Hp → Prop
abbrev St := List (Option V)
abbrev VK := V → Hp → Prop
/-- an expression's reading; a test's; an argument list's -/
abbrev TE := St → Hp → VK → Prop
abbrev TT := St → Hp → (Bool → Hp → Prop) → Prop
abbrev TA := St → Hp → (List V → Hp → Prop) → Prop
/-- what is wanted behind a statement -/
structure Ends where
  nx : St → Hp → Prop
  rt : VK
  bk : St → Hp → Prop := fun _ _ => False
  ct : St → Hp → Prop := fun _ _ => False
abbrev TS := Ends → St → Hp → Prop

def EP (X : Cx) (pins : List (Addr × Obj)) (σ : St) (Q : VK) (u : Value) (s' : Shared) : Prop := ∃ v H', Inv X pins σ H' s' ∧ RelV v u ∧ Q v H'
def TP (X : Cx) (pins : List (Addr × Obj)) (σ : St) (Q : Bool → Hp → Prop) (b : Bool) (s' : Shared) : Prop := ∃ H', Inv X pins σ H' s' ∧ Q b H'
def AP (X : Cx) (pins : List (Addr × Obj)) (σ : St) (Q : List V → Hp → Prop) (us : List Value) (s' : Shared) : Prop := ∃ vs H', Inv X pins σ H' s' ∧ Vals vs us ∧ Q vs H'
def SP (X : Cx) (pins : List (Addr × Obj)) (D : Ends) (f : Flow) (s' : Shared) : Prop :=
  match f with
  | .next => ∃ σ' H', Inv X pins σ' H' s' ∧ D.nx σ' H'
  | .brk => ∃ σ' H', Inv X pins σ' H' s' ∧ D.bk σ' H'
  | .cont => ∃ σ' H', Inv X pins σ' H' s' ∧ D.ct σ' H'
  | .ret u => ∃ v σ' H', Inv X pins σ' H' s' ∧ RelV v u ∧ D.rt v H'

def PE (X : Cx) (e : Expr) (t : TE) : Prop :=
  ∀ (pins : List (Addr × Obj)) (s : Shared) (σ : St) (H : Hp) (Q : VK), Inv X pins σ H s → t σ H Q → wpAny (model X.prog X.w) X.A (eval e X.env) (EP X pins σ Q) X.xe s
def PT (X : Cx) (e : Expr) (t : TT) : Prop :=
  ∀ (pins : List (Addr × Obj)) (s : Shared) (σ : St) (H : Hp) (Q : Bool → Hp → Prop), Inv X pins σ H s → t σ H Q → wpAny (model X.prog X.w) X.A (isTrue e X.env (eval e X.env)) (TP X pins σ Q) X.xe s
/-- a test whatever its 'whole' is (and, or) -/
def PW (X : Cx) (e : Expr) (t : TT) : Prop :=
  ∀ (whole : Sem Value) (pins : List (Addr × Obj)) (s : Shared) (σ : St) (H : Hp) (Q : Bool → Hp → Prop), Inv X pins σ H s → t σ H Q → wpAny (model X.prog X.w) X.A (isTrue e X.env whole) (TP X pins σ Q) X.xe s
theorem PW.pt {X : Cx} {e : Expr} {t : TT} (h : PW X e t) : PT X e t := h _
/-- an argument list (no star), from the left -/
def PA (X : Cx) (es : List Expr) (t : TA) : Prop :=
  ∀ (pos : Pos) (pins : List (Addr × Obj)) (s : Shared) (σ : St) (H : Hp) (Q : List V → Hp → Prop), Inv X pins σ H s → t σ H Q → wpAny (model X.prog X.w) X.A (spliced (backTo pos (starEach es X.env))) (AP X pins σ Q) X.xe s
def PS (X : Cx) (st : Stmt) (t : TS) : Prop :=
  ∀ (pins : List (Addr × Obj)) (s : Shared) (σ : St) (H : Hp) (D : Ends), Inv X pins σ H s → t D σ H → wpAny (model X.prog X.w) X.A (exec st X.env) (SP X pins D) X.xe s
def PSs (X : Cx) (st : List Stmt) (t : TS) : Prop :=
  ∀ (pins : List (Addr × Obj)) (s : Shared) (σ : St) (H : Hp) (D : Ends), Inv X pins σ H s → t D σ H → wpAny (model X.prog X.w) X.A (execs st X.env) (SP X pins D) X.xe s
/-- weaken the end -/
theorem thn {α : Type} {t : Sem α} {Q Q' : α → Shared → Prop} {M : Model} {A : Around} {E : Value → Shared → Prop} {s : Shared} (h : wpAny M A t Q E s) (hQ : ∀ a s, Q a s → Q' a s) : wpAny M A t Q' E s := wpAny_mono h hQ fun _ _ x => x
end L2

namespace L2
open PySem PySem.Spec PyProof.Rows
section
variable {X : Cx}

/-! ### names and constants -/
def tVar (i : Nat) : TE := fun σ H Q => ∃ v, σ[i]? = some (some v) ∧ Q v H
def tC (v : V) : TE := fun _ H Q => Q v H
theorem pe_var {i : Nat} {x : Str} {pos : Pos} (hN : X.N[i]? = some x) (hv : Vis X.env.scope x) (hd : (x == ("__debug__" : Str)) = false := by decide) (hcd : (x == ("__classdict__" : Str)) = false := by decide) : PE X (.Name x pos) (tVar i) := by
  intro pins s σ H Q I h
  obtain ⟨v, e, h⟩ := h
  obtain ⟨m, hn, hl⟩ := I.loc
  obtain ⟨u, r, l⟩ := hl i x v hN e hv
  have fin : EP X pins σ Q u s := ⟨v, H, I, r, h⟩
  rcases l with ⟨hk, hm⟩ | ⟨hk, c, hc, hcell⟩
  · exact wpAny_Name (wpAny_loadName_local I.ok.kind hk hn hm fin) hd
  · rcases hk with hk | hk
    · exact wpAny_Name (wpAny_loadName_cell I.ok.kind hk hc hcell fin) hd
    · exact wpAny_Name (wpAny_loadName_free I.ok.kind hk hc hcell fin hcd) hd
theorem pe_int {i j pos} : PE X (.Constant (.int i) j pos) (tC (.int i)) := fun _ _ _ H _ I h => wpAny_Constant_int ⟨.int i, H, I.tok _, ⟨_, rfl⟩, h⟩
theorem pe_bl {b j pos} : PE X (.Constant (.bool b) j pos) (tC (.bl b)) := fun _ _ _ H _ I h => Constant_bool ⟨.bl b, H, I, rfl, h⟩
theorem pe_non {j pos} : PE X (.Constant .none j pos) (tC .non) := fun _ _ _ H _ I h => Constant_none ⟨.non, H, I, rfl, h⟩
theorem pe_str {x j pos} : PE X (.Constant (.str x) j pos) (tC (.str x)) := fun _ _ _ H _ I h => Calls.Constant_str ⟨.str x, H, I.tok _, ⟨_, rfl⟩, h⟩

/-- a global name of the def -/
def Gl (X : Cx) (x : Str) : Prop := X.env.kindOf x = some .globalImplicit
theorem ld_glob {E : Value → Shared → Prop} {pins : List (Addr × Obj)} {s : Shared} {σ : St} {H : Hp} {x : Str} {u : Value} {pos : Pos} {Q : Value → Shared → Prop} (I : Inv X pins σ H s) (hg : Gl X x) (hm : X.mg x = some u) (h : Q u s)
    (hd : (x == ("__debug__" : Str)) = false := by decide) : wpAny (model X.prog X.w) X.A (eval (.Name x pos) X.env) Q E s :=
  Calls.Name_function_global I.ok.kind hg (Calls.loadGlobal_global (by rw [I.ok.glob]; exact I.mod.glob.keeps I.bk) hm h) hd
theorem ld_blt {E : Value → Shared → Prop} {pins : List (Addr × Obj)} {s : Shared} {σ : St} {H : Hp} {x : Str} {u : Value} {pos : Pos} {Q : Value → Shared → Prop} (I : Inv X pins σ H s) (hg : Gl X x) (hm : X.mg x = none) (hv : bootBuiltins x = some u) (h : Q u s)
    (hn : x ≠ "__name__" := by decide) (hd : (x == ("__debug__" : Str)) = false := by decide) : wpAny (model X.prog X.w) X.A (eval (.Name x pos) X.env) Q E s := by
  obtain ⟨mb, h1, h2⟩ := I.mod.blt
  exact Calls.Name_function_global I.ok.kind hg (Calls.loadGlobal_builtin (by rw [I.ok.glob]; exact I.mod.glob.keeps I.bk) hm (by rw [I.ok.blt]; exact h1.keeps I.bk) ((h2 x hn).trans hv) h) hd
/-- a module's constant, a class, a function, as a value -/
theorem pe_glob {x : Str} {v : V} {u : Value} {pos : Pos} (hg : Gl X x) (hm : X.mg x = some u) (r : RelV v u) (hd : (x == ("__debug__" : Str)) = false := by decide) : PE X (.Name x pos) (tC v) :=
  fun _ _ _ H _ I h => ld_glob I hg hm ⟨v, H, I, r, h⟩ hd
theorem pe_bltn {x : Str} {v : V} {u : Value} {pos : Pos} (hg : Gl X x) (hm : X.mg x = none) (hv : bootBuiltins x = some u) (r : RelV v u) (hn : x ≠ "__name__" := by decide) (hd : (x == ("__debug__" : Str)) = false := by decide) : PE X (.Name x pos) (tC v) :=
  fun _ _ _ H _ I h => ld_blt I hg hm hv ⟨v, H, I, r, h⟩ hn hd

/-! ### arithmetic -/
/-- two ints -/
def t2I (ta tb : TE) (k : Int → Int → Hp → Prop) : St → Hp → Prop := fun σ H => ta σ H fun x H1 => tb σ H1 fun y H2 => ∃ i j, x = .int i ∧ y = .int j ∧ k i j H2
def tAdd (ta tb : TE) : TE := fun σ H Q => t2I ta tb (fun i j H2 => Q (.int (i + j)) H2) σ H
def tSub (ta tb : TE) : TE := fun σ H Q => t2I ta tb (fun i j H2 => Q (.int (i - j)) H2) σ H
/-- the left factor below 2^64 -/
def tMul (ta tb : TE) : TE := fun σ H Q => t2I ta tb (fun i j H2 => (-(2 ^ 64) < i ∧ i < 2 ^ 64) ∧ Q (.int (i * j)) H2) σ H
variable {a b : Expr} {ta tb : TE} {pos : Pos}
/-! ### comparisons -/
def PC (X : Cx) (op : CmpOp) (a b : Expr) (t : TE) : Prop :=
  ∀ (pins : List (Addr × Obj)) (s : Shared) (σ : St) (H : Hp) (Q : VK), Inv X pins σ H s → t σ H Q →
    wpAny (model X.prog X.w) X.A (eval a X.env) (fun v s₁ => wpAny (model X.prog X.w) X.A (eval b X.env) (fun u s₂ => wpAny (model X.prog X.w) X.A (compareOp op v u) (EP X pins σ Q) X.xe s₂) X.xe s₁) X.xe s
def tCmp (p : Int → Int → Bool) (ta tb : TE) : TE := fun σ H Q => t2I ta tb (fun i j H2 => Q (.bl (p i j)) H2) σ H
abbrev tLt : TE → TE → TE := tCmp fun i j => decide (i < j)
abbrev tLe : TE → TE → TE := tCmp fun i j => decide (i ≤ j)
abbrev tGt : TE → TE → TE := tCmp fun i j => decide (j < i)
abbrev tGe : TE → TE → TE := tCmp fun i j => decide (j ≤ i)
abbrev tEqI : TE → TE → TE := tCmp fun i j => decide (i = j)
abbrev tNeI : TE → TE → TE := tCmp fun i j => !decide (i = j)
/-- is None -/
def tIsN (ta : TE) : TE := fun σ H Q => ta σ H fun x H1 => Q (.bl (decide (x = .non))) H1
def tNotN (ta : TE) : TE := fun σ H Q => ta σ H fun x H1 => Q (.bl (!decide (x = .non))) H1
/-- a comparison as a value, as a test -/
def tB (t : TE) : TT := fun σ H Q => t σ H fun x H1 => ∃ c, x = .bl c ∧ Q c H1
theorem pt_cmp {op : CmpOp} {t : TE} (h : PC X op a b t) (h1 : behindInMarks op b = false := by first | exact nobehind _ (by decide) (by decide) | rfl) : PT X (.Compare a [op] [b] pos) (tB t) := by
  intro pins s σ H Q I hw
  refine wpAny_isTrue_Compare1 (thn (h pins s σ H _ I hw) fun v s1 h1 => thn h1 fun u s2 h2 => thn h2 fun c s3 ⟨x, H1, I1, r1, q1⟩ => ?_) h1
  obtain ⟨d, rfl, q⟩ := q1
  cases r1
  exact wpAny_truthy_bool ⟨H1, I1, q⟩
/-- an expression whose value is a bool, as a test -/
theorem pt_val {e : Expr} {t : TE} (h : PE X e t) (he : ∀ whole, isTrue e X.env whole = (do let v ← whole; standAt e.pos; holding [v] (truthy v)) := by intro _; rfl) : PT X e (tB t) := by
  intro pins s σ H Q I hw
  refine isTrue_plain (thn (h pins s σ H _ I hw) fun v s1 ⟨x, H1, I1, r1, q1⟩ => ?_) (he _)
  obtain ⟨d, rfl, q⟩ := q1
  cases r1
  exact wpAny_truthy_bool ⟨H1, I1, q⟩

/-! ### and, or, not -/
variable {tA tB' : TT} {rest : List Expr}
def tAnd (t u : TT) : TT := fun σ H Q => t σ H fun c H1 => if c = true then u σ H1 Q else Q false H1
def tOr (t u : TT) : TT := fun σ H Q => t σ H fun c H1 => if c = true then Q true H1 else u σ H1 Q
def tNot (t : TT) : TT := fun σ H Q => t σ H fun c H1 => Q (!c) H1
theorem pw_and1 (ha : PT X a tA) : PW X (.BoolOp .And [a] pos) tA := by
  intro wh pins s σ H Q I h
  refine isTrue_and (thn (ha pins s σ H Q I h) fun c s1 e => ?_)
  cases c with
  | true => exact isTrue_and_nil e
  | false => exact e
theorem pw_or1 (ha : PT X a tA) : PW X (.BoolOp .Or [a] pos) tA := by
  intro wh pins s σ H Q I h
  refine isTrue_or (thn (ha pins s σ H Q I h) fun c s1 e => ?_)
  cases c with
  | false => exact isTrue_or_nil e
  | true => exact e
theorem pw_and (ha : PT X a tA) (hb : PW X (.BoolOp .And (b :: rest) pos) tB') : PW X (.BoolOp .And (a :: b :: rest) pos) (tAnd tA tB') := by
  intro wh pins s σ H Q I h
  refine isTrue_and (thn (ha pins s σ H _ I h) fun c s1 ⟨H1, I1, q1⟩ => ?_)
  cases c with
  | true => exact hb wh pins s1 σ H1 Q I1 q1
  | false => exact ⟨H1, I1, q1⟩
theorem pw_or (ha : PT X a tA) (hb : PW X (.BoolOp .Or (b :: rest) pos) tB') : PW X (.BoolOp .Or (a :: b :: rest) pos) (tOr tA tB') := by
  intro wh pins s σ H Q I h
  refine isTrue_or (thn (ha pins s σ H _ I h) fun c s1 ⟨H1, I1, q1⟩ => ?_)
  cases c with
  | true => exact ⟨H1, I1, q1⟩
  | false => exact hb wh pins s1 σ H1 Q I1 q1
theorem pt_not (ha : PT X a tA) : PT X (.UnaryOp .Not a pos) (tNot tA) := by
  intro pins s σ H Q I h
  exact isTrue_not (ha pins s σ H (fun c H1 => Q (!c) H1) I h)
/-- .. as values (bools) -/
def tAndV (ta tb : TE) : TE := fun σ H Q => ta σ H fun x H1 => ∃ c, x = .bl c ∧ if c = true then tb σ H1 Q else Q (.bl false) H1
def tOrV (ta tb : TE) : TE := fun σ H Q => ta σ H fun x H1 => ∃ c, x = .bl c ∧ if c = true then Q (.bl true) H1 else tb σ H1 Q
def tNotV (ta : TE) : TE := fun σ H Q => ta σ H fun x H1 => ∃ c, x = .bl c ∧ Q (.bl (!c)) H1
theorem pe_one {op} {t : TE} (h : PE X a t) : PE X (.BoolOp op [a] pos) t := fun pins s σ H Q I hw => BoolOp_one (h pins s σ H Q I hw)
theorem pe_and (ha : PE X a ta) (hb : PE X (.BoolOp .And (b :: rest) pos) tb) : PE X (.BoolOp .And (a :: b :: rest) pos) (tAndV ta tb) := by
  intro pins s σ H Q I h
  refine BoolOp_and (thn (ha pins s σ H _ I h) fun v s1 ⟨x, H1, I1, r1, q1⟩ => ?_)
  obtain ⟨c, rfl, q1⟩ := q1
  cases r1
  refine wpAny_truthy_bool ?_
  cases c with
  | true => exact hb pins s1 σ H1 Q I1 q1
  | false => exact ⟨.bl false, H1, I1, rfl, q1⟩
theorem pe_or (ha : PE X a ta) (hb : PE X (.BoolOp .Or (b :: rest) pos) tb) : PE X (.BoolOp .Or (a :: b :: rest) pos) (tOrV ta tb) := by
  intro pins s σ H Q I h
  refine BoolOp_or (thn (ha pins s σ H _ I h) fun v s1 ⟨x, H1, I1, r1, q1⟩ => ?_)
  obtain ⟨c, rfl, q1⟩ := q1
  cases r1
  refine wpAny_truthy_bool ?_
  cases c with
  | false => exact hb pins s1 σ H1 Q I1 q1
  | true => exact ⟨.bl true, H1, I1, rfl, q1⟩
theorem pe_not (ha : PE X a ta) : PE X (.UnaryOp .Not a pos) (tNotV ta) := by
  intro pins s σ H Q I h
  refine UnaryOp_ (thn (ha pins s σ H _ I h) fun v s1 ⟨x, H1, I1, r1, q1⟩ => ?_)
  obtain ⟨c, rfl, q1⟩ := q1
  cases r1
  exact not_of (wpAny_truthy_bool ⟨.bl (!c), H1, I1, rfl, q1⟩)
/-- a if t else b -/
def tIf (t : TT) (ta tb : TE) : TE := fun σ H Q => t σ H fun c H1 => if c = true then ta σ H1 Q else tb σ H1 Q
end
end L2

namespace L2
open PySem PySem.Spec PyProof.Rows

/-! ### a list, a tuple that is read: tracked, frozen, or an object of the module -/
def SqL (K : PySem.W.Frag) (H : Hp) (a : Addr) (xs : List V) : Prop :=
  Rd H a (.lst xs) ∨
    ∃ (o : Obj) (its : Array Value) (n : Nat), K.lookup a = some o ∧ o.cls = .type "list" ∧ o.dict = none ∧ o.data = .seq its n ∧ its.size ≤ sizeLine ∧ Vals xs its.toList
def SqT (K : PySem.W.Frag) (H : Hp) (a : Addr) (xs : List V) : Prop :=
  Rd H a (.tup xs) ∨
    ∃ (o : Obj) (its : Array Value) (n : Nat), K.lookup a = some o ∧ o.cls = .type "tuple" ∧ o.data = .seq its n ∧ its.size ≤ sizeLine ∧ Vals xs its.toList
def absV : Value → Option V
  | .none => some .non
  | .bool b => some (.bl b)
  | .int i _ => some (.int i)
  | .str x _ => some (.str x)
  | .bytes b _ => some (.byt b)
  | .float b _ => some (.flt b)
  | .ref a => some (.ref a)
  | .type n => some (.ty n)
  | _ => none
theorem RelV.abs {x : V} {u : Value} (r : RelV x u) : absV u = some x := by
  cases x with
  | non => cases r; rfl
  | bl _ => cases r; rfl
  | int _ => obtain ⟨t, rfl⟩ := r; rfl
  | str _ => obtain ⟨t, rfl⟩ := r; rfl
  | byt _ => obtain ⟨t, rfl⟩ := r; rfl
  | flt _ => obtain ⟨t, rfl⟩ := r; rfl
  | ref _ => cases r; rfl
  | ty _ => cases r; rfl
theorem RelV.inj {x y : V} {u : Value} (r : RelV x u) (q : RelV y u) : x = y := Option.some.inj (r.abs.symm.trans q.abs)
theorem Vals.inj : ∀ {xs ys : List V} {us : List Value}, Vals xs us → Vals ys us → xs = ys
  | _, _, _, .nil, .nil => rfl
  | _, _, _, .cons r t, .cons r' t' => by rw [r.inj r', Vals.inj t t']
section
variable {X : Cx} {pins : List (Addr × Obj)} {σ : St} {H : Hp} {s : Shared} {a : Addr} {xs ys : List V}
theorem SqL.of {K : PySem.W.Frag} (h : H a = some (.lst xs)) : SqL K H a xs := .inl (.inl h)
theorem SqT.of {K : PySem.W.Frag} (h : H a = some (.tup xs)) : SqT K H a xs := .inl (.inl h)
theorem Inv.list (I : Inv X pins σ H s) (h : SqL X.K H a xs) : ∃ its : List Value, Vals xs its ∧ PlainL s.heap a its.toArray ∧ xs.length ≤ sizeLine := by
  rcases h with h | ⟨o, its, n, hk, hc, hd, hs, hz, r⟩
  · obtain ⟨z, its, n, r, e⟩ := h.ok I.hok
    exact ⟨its, r, ⟨_, n, e, rfl, rfl, rfl⟩, z⟩
  · refine ⟨its.toList, r, ⟨o, n, I.kIn a o hk, hc, hd, by simpa using hs⟩, ?_⟩
    have e := r.length
    simp only [Array.length_toList] at e
    omega
theorem Inv.tuple (I : Inv X pins σ H s) (h : SqT X.K H a xs) : ∃ its : List Value, Vals xs its ∧ IsTup s.heap a its.toArray ∧ xs.length ≤ sizeLine := by
  rcases h with h | ⟨o, its, n, hk, hc, hs, hz, r⟩
  · obtain ⟨z, its, r, p⟩ := h.ok I.hok
    exact ⟨its, r, p, z⟩
  · refine ⟨its.toList, r, ⟨o, I.kIn a o hk, hc, n, by simpa using hs⟩, ?_⟩
    have e := r.length
    simp only [Array.length_toList] at e
    omega
theorem Inv.list_inj (I : Inv X pins σ H s) (h : SqL X.K H a xs) (h' : SqL X.K H a ys) : xs = ys := by
  obtain ⟨its, r, ⟨o, n, e, _, _, d⟩, _⟩ := I.list h
  obtain ⟨its', r', ⟨o', n', e', _, _, d'⟩, _⟩ := I.list h'
  rw [e] at e'; cases e'
  rw [d] at d'
  injection d' with d1 _
  have : its = its' := by simpa using congrArg Array.toList d1
  subst this
  exact r.inj r'
theorem Inv.tuple_inj (I : Inv X pins σ H s) (h : SqT X.K H a xs) (h' : SqT X.K H a ys) : xs = ys := by
  obtain ⟨its, r, ⟨o, e, _, n, d⟩, _⟩ := I.tuple h
  obtain ⟨its', r', ⟨o', e', _, n', d'⟩, _⟩ := I.tuple h'
  rw [e] at e'; cases e'
  rw [d] at d'
  injection d' with d1 _
  have : its = its' := by simpa using congrArg Array.toList d1
  subst this
  exact r.inj r'
end

/-! ### another wish about exceptions -/
abbrev Cx.wish (X : Cx) (E : Value → Shared → Prop) : Cx := { X with xe := E }
/-- no exception leaves -/
abbrev Cx.nox (X : Cx) : Cx := X.wish fun _ _ => False
theorem Cx.Ok.wish {X : Cx} (ok : X.Ok) (E : Value → Shared → Prop) : (X.wish E).Ok :=
  ⟨ok.mod, ok.kind, ok.glob, ok.blt, ok.above, ok.inj, ok.has, ok.cab, ok.hd, ok.frames, ok.stk, ok.exf, ok.bs, ok.bsz, ok.noex, ok.exfs, ok.funs, ok.frf⟩
theorem Cx.Ok.unwish {X : Cx} {E : Value → Shared → Prop} (ok : (X.wish E).Ok) : X.Ok :=
  ⟨ok.mod, ok.kind, ok.glob, ok.blt, ok.above, ok.inj, ok.has, ok.cab, ok.hd, ok.frames, ok.stk, ok.exf, ok.bs, ok.bsz, ok.noex, ok.exfs, ok.funs, ok.frf⟩
section
variable {X : Cx} {pins : List (Addr × Obj)} {σ : St} {H : Hp} {s : Shared} {E : Value → Shared → Prop}
theorem Inv.wish (I : Inv X pins σ H s) (E : Value → Shared → Prop) : Inv (X.wish E) pins σ H s := ⟨I.ok.wish E, I.os, I.bare, I.base, I.loc, I.cell, I.free, I.freeC, I.pin, I.hok, I.len⟩
theorem Inv.unwish (I : Inv (X.wish E) pins σ H s) : Inv X pins σ H s := ⟨I.ok.unwish, I.os, I.bare, I.base, I.loc, I.cell, I.free, I.freeC, I.pin, I.hok, I.len⟩
theorem SP.unwish {D : Ends} {f : Flow} {s' : Shared} (h : SP (X.wish E) pins D f s') : SP X pins D f s' := by
  cases f with
  | next => obtain ⟨σ', H', I, q⟩ := h; exact ⟨σ', H', I.unwish, q⟩
  | brk => obtain ⟨σ', H', I, q⟩ := h; exact ⟨σ', H', I.unwish, q⟩
  | cont => obtain ⟨σ', H', I, q⟩ := h; exact ⟨σ', H', I.unwish, q⟩
  | ret u => obtain ⟨v, σ', H', I, r, q⟩ := h; exact ⟨v, σ', H', I.unwish, r, q⟩
theorem PSs.nox {st : List Stmt} {t : TS} (h : PSs X.nox st t) : PSs X st t := fun pins s σ H D I hw =>
  wpAny_mono (h pins s σ H D (I.wish _) hw) (fun _ _ q => q.unwish) fun _ _ z => False.elim z
end

/-! ### blocks and small statements -/
section
variable {X : Cx} {st : Stmt} {rest : List Stmt} {t u : TS} {e : Expr} {te : TE} {pos : Pos}
def tNext : TS := fun D σ H => D.nx σ H
def tSeq (t u : TS) : TS := fun D σ H => t { D with nx := u D } σ H
theorem pss_nil : PSs X [] tNext := fun _ _ σ H _ I h => wpAny_execs_nil ⟨σ, H, I, h⟩
theorem pss_cons (h1 : PS X st t) (h2 : PSs X rest u) : PSs X (st :: rest) (tSeq t u) := by
  intro pins s σ H D I h
  refine wpAny_execs_cons (thn (h1 pins s σ H { D with nx := u D } I h) fun f s1 q => ?_)
  cases f with
  | next =>
    obtain ⟨σ', H', I', q⟩ := q
    exact h2 pins s1 σ' H' D I' q
  | ret v => exact q
  | brk => exact q
  | cont => exact q
theorem pss_one (h1 : PS X st t) : PSs X [st] t := by
  intro pins s σ H D I h
  refine wpAny_execs_cons (thn (h1 pins s σ H D I h) fun f s1 q => ?_)
  cases f with
  | next => exact wpAny_execs_nil q
  | ret v => exact q
  | brk => exact q
  | cont => exact q
def tBreak : TS := fun D σ H => D.bk σ H
def tCont : TS := fun D σ H => D.ct σ H
/-- in a def's body nothing is shown -/
theorem Inv.quiet {pins : List (Addr × Obj)} {σ : St} {H : Hp} {s : Shared} (I : Inv X pins σ H s) : interactive X.env = false := by simp [interactive, I.ok.kind]
/-- an expression whose value is dropped -/
def tDrop (te : TE) : TS := fun D σ H => te σ H fun _ H1 => D.nx σ H1
theorem ps_expr (he : PE X e te) (hs : swapsWith e none pos.line X.env = pure false := by rfl) : PS X (.Expr e pos) (tDrop te) := by
  intro pins s σ H D I h
  exact wpAny_Expr_any (thn (he pins s σ H _ I h) fun v s1 ⟨x, H1, I1, r1, q1⟩ => ⟨σ, H1, I1, q1⟩) I.quiet hs
def tRet (te : TE) : TS := fun D σ H => te σ H D.rt
theorem ps_ret (he : PE X e te) : PS X (.Return (some e) pos) (tRet te) := by
  intro pins s σ H D I h
  exact wpAny_Return_some (thn (he pins s σ H _ I h) fun v s1 ⟨x, H1, I1, r1, q1⟩ => ⟨x, σ, H1, I1, r1, q1⟩)
def tRetN : TS := fun D _ H => D.rt .non H
def tIfS (c : TT) (t u : TS) : TS := fun D σ H => c σ H fun b H1 => if b = true then t D σ H1 else u D σ H1
theorem ps_if {c : Expr} {a b : List Stmt} {tc : TT} (hc : PT X c tc) (ha : PSs X a t) (hb : PSs X b u) : PS X (.If c a b pos) (tIfS tc t u) := by
  intro pins s σ H D I h
  refine wpAny_If (thn (hc pins s σ H _ I h) fun d s1 ⟨H1, I1, q1⟩ => ?_)
  cases d with
  | true => exact ha pins s1 σ H1 D I1 q1
  | false => exact hb pins s1 σ H1 D I1 q1
/-- code that the proof never comes to -/
def tNever : TS := fun _ _ _ => False
end

/-! ### targets -/
abbrev TG := V → St → Hp → (St → Hp → Prop) → Prop
abbrev TGs := List V → St → Hp → (St → Hp → Prop) → Prop
def PG (X : Cx) (target : Expr) (t : TG) : Prop :=
  ∀ (pins : List (Addr × Obj)) (s : Shared) (σ : St) (H : Hp) (v : V) (u : Value) (Q : St → Hp → Prop), Inv X pins σ H s → RelV v u → t v σ H Q →
    wpAny (model X.prog X.w) X.A (assign target X.env u) (fun _ s' => ∃ σ' H', Inv X pins σ' H' s' ∧ Q σ' H') X.xe s
/-- several targets, one after another -/
def PGs (X : Cx) (ts : List Expr) (t : TGs) : Prop :=
  ∀ (pins : List (Addr × Obj)) (s : Shared) (σ : St) (H : Hp) (vs : List V) (us : List Value) (Q : St → Hp → Prop), Inv X pins σ H s → Vals vs us → t vs σ H Q →
    wpAny (model X.prog X.w) X.A (assignInOrder ((assignEach ts X.env).map (·.2)) us) (fun _ s' => ∃ σ' H', Inv X pins σ' H' s' ∧ Q σ' H') X.xe s
/-- o[i] = v, by values -/
abbrev TSet := V → V → V → Hp → (Hp → Prop) → Prop
def PSet (X : Cx) (t : TSet) : Prop :=
  ∀ (pins : List (Addr × Obj)) (s : Shared) (σ : St) (H : Hp) (o i v : V) (ov iv u : Value) (Q : Hp → Prop), Inv X pins σ H s → RelV o ov → RelV i iv → RelV v u → t o i v H Q →
    wpAny (model X.prog X.w) X.A (setItem ov iv u) (fun _ s' => ∃ H', Inv X pins σ H' s' ∧ Q H') X.xe s
/-- a op= b, by values -/
abbrev TIp := V → V → Hp → VK → Prop
def PIp (X : Cx) (op : Operator) (t : TIp) : Prop :=
  ∀ (pins : List (Addr × Obj)) (s : Shared) (σ : St) (H : Hp) (x y : V) (v u : Value) (Q : VK), Inv X pins σ H s → RelV x v → RelV y u → t x y H Q →
    wpAny (model X.prog X.w) X.A (inplaceOp op v u) (EP X pins σ Q) X.xe s
section
variable {X : Cx} {pos : Pos}
def gName (i : Nat) : TG := fun v σ H Q => Q (σ.set i (some v)) H
theorem pg_name {i : Nat} {x : Str} (hN : X.N.Nodup) (hi : X.N[i]? = some x) (hx : Loc X.env.scope x) (hf : X.fn x = true ∨ X.env.scope.names.lookup x = some .local := by first | exact .inl rfl | exact .inr rfl | assumption) : PG X (.Name x pos) (gName i) := by
  intro pins s σ H v u Q I r h
  exact wpAny_assign_Name (store_ok I hN hi hx r (fun s' I' => ⟨_, H, I', h⟩) hf)
def gNil : TGs := fun vs σ H Q => vs = [] ∧ Q σ H
def gCons (t : TG) (u : TGs) : TGs := fun vs σ H Q => ∃ v r, vs = v :: r ∧ t v σ H fun σ' H' => u r σ' H' Q
theorem pgs_nil : PGs X [] gNil := by
  intro pins s σ H vs us Q I r h
  obtain ⟨e, h⟩ := h
  subst e
  cases r
  exact assignInOrder_nil ⟨σ, H, I, h⟩
theorem pgs_cons {e : Expr} {es : List Expr} {t : TG} {u : TGs} (h1 : PG X e t) (h2 : PGs X es u)
    (hs : (assignEach (e :: es) X.env).map (·.2) = assign e X.env :: (assignEach es X.env).map (·.2) := by rfl) : PGs X (e :: es) (gCons t u) := by
  intro pins s σ H vs us Q I r h
  obtain ⟨v, vr, e1, h⟩ := h
  subst e1
  cases r with
  | cons r rr =>
    rw [hs]
    refine assignInOrder_cons (thn (h1 pins s σ H _ _ _ I r h) fun _ s1 ⟨σ1, H1, I1, q1⟩ => ?_)
    exact h2 pins s1 σ1 H1 _ _ Q I1 rr q1
/-- (a, b, ..) = a tuple of that length -/
def gTup (K : PySem.W.Frag) (n : Nat) (t : TGs) : TG := fun v σ H Q => ∃ a xs, v = .ref a ∧ SqT K H a xs ∧ xs.length = n ∧ t xs σ H Q
theorem pg_tup {es : List Expr} {k : Nat} {t : TGs} {n : Nat} (hc : X.calm = true) (h : PGs X es t)
    (hn : (assignEach es X.env).length = n := by rfl) (hst : (assignEach es X.env).findIdx? (·.1) = none := by rfl) : PG X (.Tuple es k pos) (gTup X.K n t) := by
  intro pins s σ H v u Q I r hw
  obtain ⟨a, xs, e1, hq, hl, hw⟩ := hw
  subst e1
  cases r
  obtain ⟨its, rv, ht, hz⟩ := I.tuple hq
  refine assign_Tuple_tuple (I.ok.hd hc) ht (by simp [hn, ← hl, rv.length]) hst fun h' hx => ?_
  have I1 : Inv X pins σ H { s with heap := h' } := I.kept (t' := s.toks) fun b o e => hx b o (Nat.ne_of_lt (Heap.lt_size e)) e
  exact h pins _ σ H xs _ Q I1 (by simpa using rv) hw
/-- o[i] = .. -/
def gSub (to ti : TE) (t : TSet) : TG := fun v σ H Q => to σ H fun o H1 => ti σ H1 fun i H2 => t o i v H2 fun H3 => Q σ H3
theorem pg_sub {o i : Expr} {to ti : TE} {t : TSet} (ho : PE X o to) (hi : PE X i ti) (hs : PSet X t)
    (ha : ∀ v, assign (.Subscript o i pos) X.env v = (do
      let ov ← holding [v] (eval o X.env)
      let iv ← holding [v, ov] (eval i X.env)
      standAt pos
      holding [v, ov, iv] (setItem ov iv v)
      release [v, ov, iv] []) := by intro _; rfl) : PG X (.Subscript o i pos) (gSub to ti t) := by
  intro pins s σ H v u Q I r h
  rw [ha]
  refine wpAny_bind (wpAny_holding (thn (ho pins s σ H _ I h) fun ov s1 ⟨x, H1, I1, r1, q1⟩ => ?_))
  refine wpAny_bind (wpAny_holding (thn (hi pins s1 σ H1 _ I1 q1) fun iv s2 ⟨y, H2, I2, r2, q2⟩ => ?_))
  refine wpAny_bind (wpAny_standAt (wpAny_bind (wpAny_holding (thn (hs pins s2 σ H2 x y v ov iv u _ I2 r1 r2 r q2) fun _ s3 ⟨H3, I3, q3⟩ => ?_))))
  exact wpAny_release ⟨σ, H3, I3, q3⟩
/-- target = value -/
def tAsg (te : TE) (g : TG) : TS := fun D σ H => te σ H fun x H1 => g x σ H1 D.nx
theorem ps_asg {tg e : Expr} {te : TE} {g : TG} (he : PE X e te) (hg : PG X tg g) (hs : swapsWithSole [tg] e pos.line X.env = pure false := by rfl) (hw : swappedStores [tg] e X.env = pure none := by rfl)
    (h1 : (assignEach [tg] X.env).map (·.2) = [assign tg X.env] := by rfl) : PS X (.Assign [tg] e pos) (tAsg te g) := by
  intro pins s σ H D I h
  refine wpAny_Assign_stores (thn (he pins s σ H _ I h) fun v s1 ⟨x, H1, I1, r1, q1⟩ => ?_) hs hw
  rw [h1]
  exact thn (hg pins s1 σ H1 x v _ I1 r1 q1) fun _ s2 q => q
/-- name = value -/
theorem ps_set {i : Nat} {x : Str} {e : Expr} {te : TE} {pos' : Pos} (hN : X.N.Nodup) (hi : X.N[i]? = some x) (hx : Loc X.env.scope x) (he : PE X e te) (hs : swapsWith e (some (.Name x pos')) pos.line X.env = pure false := by rfl) (hf : X.fn x = true ∨ X.env.scope.names.lookup x = some .local := by first | exact .inl rfl | exact .inr rfl | assumption) :
    PS X (.Assign [.Name x pos'] e pos) (tAsg te (gName i)) := by
  intro pins s σ H D I h
  refine wpAny_Assign_Name (thn (he pins s σ H _ I h) fun v s1 ⟨y, H1, I1, r1, q1⟩ => ?_) hs
  exact store_ok I1 hN hi hx r1 (fun s2 I2 => ⟨_, H1, I2, q1⟩) hf
/-- a, b = x, y with plain local names: stored from the right; the pair itself is not tracked (the opening rows as in PyProof/Rows/TupAssign.lean:23) -/
def tPar (i j : Nat) (ta : TA) : TS := fun D σ H => ta σ H fun vs H1 => ∃ v w, vs = [v, w] ∧ D.nx ((σ.set i (some v)).set j (some w)) H1
/-- name op= e -/
def tAug (i : Nat) (te : TE) (ti : TIp) : TS := fun D σ H => ∃ x, σ[i]? = some (some x) ∧ te σ H fun y H1 => ti x y H1 fun z H2 => D.nx (σ.set i (some z)) H2
/-- o[i] op= e -/
def tAugS (to ti te : TE) (tget : V → V → Hp → VK → Prop) (tip : TIp) (tset : TSet) : TS := fun D σ H => to σ H fun o H1 => ti σ H1 fun i H2 => tget o i H2 fun x H3 => te σ H3 fun y H4 => tip x y H4 fun z H5 => tset o i z H5 fun H6 => D.nx σ H6
/-- o[i], by values -/
def PGet (X : Cx) (t : V → V → Hp → VK → Prop) : Prop :=
  ∀ (pins : List (Addr × Obj)) (s : Shared) (σ : St) (H : Hp) (o i : V) (ov iv : Value) (Q : VK), Inv X pins σ H s → RelV o ov → RelV i iv → t o i H Q →
    wpAny (model X.prog X.w) X.A (getItem ov iv) (EP X pins σ Q) X.xe s
/-- ints -/
def ipI (f : Int → Int → Int) : TIp := fun x y H Q => ∃ i j, x = .int i ∧ y = .int j ∧ Q (.int (f i j)) H
end

/-! ### while -/
section
variable {X : Cx} {pos : Pos}
/-- the invariant W with its measure -/
def tWhile (c : TT) (tb : TS) : TS := fun D σ H => ∃ W : Nat → St → Hp → Prop, (∃ m, W m σ H) ∧ ∀ m σ H, W m σ H →
  c σ H fun b H1 => if b = true then ∃ N : St → Hp → Prop, (∀ σ' H', N σ' H' → ∃ m', m' < m ∧ W m' σ' H') ∧ tb { D with nx := N, ct := N, bk := D.nx } σ H1 else D.nx σ H1
theorem ps_while {c : Expr} {body : List Stmt} {tc : TT} {tb : TS} (hp : PassesOwn (model X.prog X.w) X.A X.env X.xe) (hc : PT X c tc) (hb : PSs X body tb) : PS X (.While c body [] pos) (tWhile tc tb) := by
  intro pins s σ H D I h
  obtain ⟨W, ⟨m0, w0⟩, turn⟩ := h
  refine wpAny_While (codeAny_whileLoop (fun n s' => ∃ σ' H', Inv X pins σ' H' s' ∧ W n σ' H') ?_ m0 ⟨σ, H, I, w0⟩)
  rintro n s1 ⟨σ1, H1, I1, w1⟩
  refine wpAny_passesOwn hp (thn (hc pins s1 σ1 H1 _ I1 (turn n σ1 H1 w1)) fun b s2 ⟨H2, I2, q2⟩ => ?_)
  cases b with
  | true =>
    obtain ⟨N, hN, q2⟩ := q2
    rw [if_pos rfl]
    refine wpAny_passesOwn hp (thn (hb pins s2 σ1 H2 _ I2 q2) fun f s3 q3 => ?_)
    cases f with
    | next =>
      obtain ⟨σ3, H3, I3, n3⟩ := q3
      obtain ⟨m', hm, w3⟩ := hN σ3 H3 n3
      exact ⟨m', hm, σ3, H3, I3, w3⟩
    | cont =>
      obtain ⟨σ3, H3, I3, n3⟩ := q3
      obtain ⟨m', hm, w3⟩ := hN σ3 H3 n3
      exact ⟨m', hm, σ3, H3, I3, w3⟩
    | brk => exact q3
    | ret v => exact q3
  | false =>
    rw [if_neg Bool.false_ne_true]
    exact wpAny_execs_nil ⟨σ1, H2, I2, q2⟩
end

/-! ### what a loop or a comprehension walks -/
/-- at turn i: it yields x (the heap may grow), or it stops -/
structure It where
  go : Nat → Hp → Prop
  yld : Nat → Hp → V → Hp → Prop
  stop : Nat → Hp → Prop
/-- the iterator's own objects may turn: they are not the frame's, not pinned, younger than the entry (or a comprehension's own) -/
def FpOk (X : Cx) (pins : List (Addr × Obj)) (H : Hp) (b : Addr) : Prop :=
  H b = none ∧ b ≠ X.env.locals ∧ b ∉ X.fs ∧ (b ∈ X.ex ∨ X.s₀.heap.objs.size ≤ b) ∧ (∀ x c, X.env.cells.lookup x = some c → c ≠ b) ∧ ∀ p ∈ X.pn ++ pins, p.1 ≠ b
theorem Inv.fpOk {X : Cx} {pins : List (Addr × Obj)} {σ : St} {H H' : Hp} {s : Shared} {b : Addr} (I : Inv X pins σ H s) (hb : s.heap.objs.size ≤ b) (hn : H' b = none) : FpOk X pins H' b := by
  refine ⟨hn, Nat.ne_of_gt (Nat.lt_of_lt_of_le I.lt hb), I.nofs hb, .inr (Nat.le_trans I.sz hb), fun x c e z => ?_, fun p hp z => ?_⟩
  · obtain ⟨v, q⟩ := I.cell x c e
    exact absurd (Nat.lt_of_lt_of_le q.lt (by rw [z]; exact hb)) (Nat.lt_irrefl _)
  · exact absurd (Nat.lt_of_lt_of_le (Heap.lt_size (I.pin p hp).1) (by rw [z]; exact hb)) (Nat.lt_irrefl _)
structure Turn (P : Program) (w : World) (K : PySem.W.Frag) (tg : Expr) (J : It) (fp : List Addr) (it : Addr) (tn : Nat → Heap → Prop) : Prop where
  mem : it ∈ fp
  obj : ∀ i h, tn i h → ∀ b ∈ fp, ∃ o, h.get? b = some o ∧ ∀ v, o.data ≠ .cell v
  keep : ∀ i h h', tn i h → (∀ b ∈ fp, ∀ o, h.get? b = some o → h'.get? b = some o) → tn i h'
  item : ∀ (X : Cx), X.prog = P → X.w = w → X.K = K → X.calm = true → ∀ (i : Nat) (pins : List (Addr × Obj)) (s : Shared) (σ : St) (H : Hp) (E : Value → Shared → Prop), Inv X pins σ H s → (∀ b ∈ fp, FpOk X pins H b) → tn i s.heap → J.go i H →
    wpAny (model P w) X.A (pyNext (.ref it)) (fun r s1 => ∃ u, r = some u ∧
      wpAny (model P w) X.A (letOwnedTupleGo tg (.ref it) u) (fun _ s2 => ∃ x H', Inv X pins σ H' s2 ∧ RelV x u ∧ J.yld i H x H' ∧ tn (i + 1) s2.heap ∧ ∀ b ∈ fp, H' b = none) E s1) E s
  done : ∀ (X : Cx), X.prog = P → X.w = w → X.K = K → X.calm = true → ∀ (i : Nat) (pins : List (Addr × Obj)) (s : Shared) (σ : St) (H : Hp) (E : Value → Shared → Prop), Inv X pins σ H s → (∀ b ∈ fp, FpOk X pins H b) → tn i s.heap → J.stop i H →
    wpAny (model P w) X.A (pyNext (.ref it)) (fun r s1 => r = none ∧ Inv X pins σ H s1) E s
  self : ∀ (A : Around) (i : Nat) (s : Shared) (Q : Value → Shared → Prop) (E : Value → Shared → Prop), tn i s.heap → Q (.ref it) s → wpAny (model P w) A (pyIter (.ref it)) Q E s
abbrev TI := St → Hp → (It → Hp → Prop) → Prop
/-- an iterator has come -/
def PIE (X : Cx) (pins : List (Addr × Obj)) (σ : St) (tg : Expr) (R : It → Hp → Prop) (itv : Value) (s2 : Shared) : Prop :=
  ∃ (it : Addr) (fp : List Addr) (tn : Nat → Heap → Prop) (J : It) (H' : Hp), itv = .ref it ∧ Inv X pins σ H' s2 ∧ Turn X.prog X.w X.K tg J fp it tn ∧ tn 0 s2.heap ∧ (∀ b ∈ fp, FpOk X pins H' b) ∧ R J H'
def PI (X : Cx) (tg iter : Expr) (wi : TI) : Prop :=
  ∀ (pins : List (Addr × Obj)) (s : Shared) (σ : St) (H : Hp) (R : It → Hp → Prop), Inv X pins σ H s → wi σ H R →
    wpAny (model X.prog X.w) X.A (eval iter X.env) (fun v s1 => wpAny (model X.prog X.w) X.A (pyIter v) (PIE X pins σ tg R) X.xe s1) X.xe s

/-- the step ahead of the store is nothing for an iterator that keeps no tuple -/
theorem go_of {M : Model} {A : Around} {E : Value → Shared → Prop} {s : Shared} {tg : Expr} {it : Addr} {u : Value} {o : Obj} {n : String} {vs : Array Value} {Q : Unit → Shared → Prop} (ho : s.heap.get? it = some o) (hc : o.cls = .type n) (hd : o.data = .fields vs)
    (hn : ["enumerate", "zip", "dict_itemiterator", "dict_reverseitemiterator", "odict_iterator", "itertools.zip_longest", "itertools.pairwise"].contains n = false) (hQ : Q () s) : wpAny M A (letOwnedTupleGo tg (.ref it) u) Q E s := by
  unfold letOwnedTupleGo
  cases tg <;> first
    | exact wpAny_pure hQ
    | (cases u <;> first
        | exact wpAny_pure hQ
        | (refine wpAny_bind (wpAny_load ho ?_)
           rw [hc, hd]
           show wpAny M A (if (["enumerate", "zip", "dict_itemiterator", "dict_reverseitemiterator", "odict_iterator", "itertools.zip_longest", "itertools.pairwise"].contains n && vs[0]? == some (rawInt _)) = true then _ else _) Q E s
           rw [if_neg (by intro h; rw [hn, Bool.false_and] at h; cases h)]
           exact wpAny_pure hQ))

/-- the list at a, as it stands at each turn (a loop may append to it) -/
def Itl (K : PySem.W.Frag) (a : Addr) : It :=
  ⟨fun i H => ∃ xs x, SqL K H a xs ∧ xs[i]? = some x, fun i H x H' => H' = H ∧ ∀ xs, SqL K H a xs → xs[i]? = some x, fun i H => ∃ xs, SqL K H a xs ∧ xs.length ≤ i⟩
def Itt (K : PySem.W.Frag) (a : Addr) : It :=
  ⟨fun i H => ∃ xs x, SqT K H a xs ∧ xs[i]? = some x, fun i H x H' => H' = H ∧ ∀ xs, SqT K H a xs → xs[i]? = some x, fun i H => ∃ xs, SqT K H a xs ∧ xs.length ≤ i⟩
/-- lo, lo + 1, .. (n of them) -/
def Itr (lo : Int) (n : Nat) : It := ⟨fun i _ => i < n, fun i H x H' => H' = H ∧ x = .int (lo + i), fun i _ => n ≤ i⟩
theorem turn_list {P : Program} {w : World} {K : PySem.W.Frag} {tg : Expr} (a it : Addr) : Turn P w K tg (Itl K a) [it] it (fun i h => h.IsListIter it a i) where
  mem := by simp
  obj := fun i h st b hb => by
    have e : b = it := by simpa using hb
    subst e
    obtain ⟨o, e, c, d⟩ := st
    exact ⟨o, e, fun v z => by rw [d] at z; cases z⟩
  keep := fun i h h' st k => st.at fun o e => k it (by simp) o e
  item := by
    intro X hP hw hK hc i pins s σ H E I hf st hg
    subst hP hw hK
    obtain ⟨xs, x, hq, hx⟩ := hg
    obtain ⟨its, rv, p, hz⟩ := I.list hq
    obtain ⟨u, hu, ru⟩ := rv.get hx
    obtain ⟨f0, f1, f2, f3, f4, f5⟩ := hf it (by simp)
    refine wpAny_pyNext_list_item st p.isList (x := u) (by simpa using hu) fun h' st' sb => ?_
    have I1 : Inv X pins σ H { s with heap := h' } := I.turned (t' := s.toks) (fun b o hb e => (sb.2 b hb).trans e) f0 f1 f3 f4 f5
    obtain ⟨o, e, c, d⟩ := id st'
    exact ⟨u, rfl, go_of (s := { s with heap := h' }) e c d (by decide) ⟨x, H, I1, ru, ⟨rfl, fun ys hy => by rw [I.list_inj hy hq]; exact hx⟩, st', fun b hb => (hf b hb).1⟩⟩
  done := by
    intro X hP hw hK hc i pins s σ H E I hf st hg
    subst hP hw hK
    obtain ⟨xs, hq, hx⟩ := hg
    obtain ⟨its, rv, p, hz⟩ := I.list hq
    obtain ⟨f0, f1, f2, f3, f4, f5⟩ := hf it (by simp)
    have hl := rv.length
    exact wpAny_pyNext_list_end (I.ok.hd hc) st p.isList (by simp; omega) fun h' eb => ⟨rfl, I.turned (t' := s.toks) (fun b o hb e => eb b o hb e) f0 f1 f3 f4 f5⟩
  self := fun _ _ _ _ _ st h => wpAny_pyIter_listiter st h
end L2

namespace L2
open PySem PySem.Spec PyProof.Rows
section
variable {X : Cx} {tg : Expr}
def iList (K : PySem.W.Frag) (tl : TE) : TI := fun σ H R => tl σ H fun x H1 => ∃ a, x = .ref a ∧ (∃ xs, SqL K H1 a xs) ∧ R (Itl K a) H1
def iTup (K : PySem.W.Frag) (tl : TE) : TI := fun σ H R => tl σ H fun x H1 => ∃ a, x = .ref a ∧ (∃ xs, SqT K H1 a xs) ∧ R (Itt K a) H1
theorem pi_list {l : Expr} {tl : TE} (hl : PE X l tl) : PI X tg l (iList X.K tl) := by
  intro pins s σ H R I h
  refine thn (hl pins s σ H _ I h) fun v s1 ⟨x, H1, I1, r1, q1⟩ => ?_
  obtain ⟨a, e, ⟨xs, hq⟩, q⟩ := q1
  subst e
  cases r1
  obtain ⟨its, rv, p, hz⟩ := I1.list hq
  refine wpAny_pyIter_list p.isList ?_
  refine ⟨s1.heap.objs.size, [s1.heap.objs.size], _, _, H1, rfl, I1.kept (t' := s1.toks) fun b o e => Heap.get?_push_of_some _ e, turn_list a _, ⟨_, Heap.get?_push_size _ rfl, rfl, rfl⟩, fun b hb => ?_, q⟩
  have e : b = s1.heap.objs.size := by simpa using hb
  subst e
  exact I1.fpOk (Nat.le_refl _) (I1.hok.fresh (Nat.le_refl _))
def iRng1 (ta : TA) : TI := fun σ H R => ta σ H fun vs H1 => ∃ j : Int, vs = [.int j] ∧ -(2 ^ 62) ≤ j ∧ j < 2 ^ 62 ∧ R (Itr 0 j.toNat) H1
def iRng2 (ta : TA) : TI := fun σ H R => ta σ H fun vs H1 => ∃ i j : Int, vs = [.int i, .int j] ∧ (-(2 ^ 62) ≤ i ∧ i < 2 ^ 62 ∧ -(2 ^ 62) ≤ j ∧ j < 2 ^ 62) ∧ R (Itr i (j - i).toNat) H1
/-! ### for -/
/-- W: the invariant by the turn and a measure; N: what the body is to reach -/
def tFor (wi : TI) (g : TG) (tb : TS) : TS := fun D σ H => wi σ H fun J H1 => ∃ W : Nat → Nat → St → Hp → Prop, (∃ m, W 0 m σ H1) ∧ ∀ i m σ H, W i m σ H →
  (J.stop i H ∧ D.nx σ H) ∨ (J.go i H ∧ ∃ N : St → Hp → Prop, (∀ σ' H', N σ' H' → ∃ m', m' < m ∧ W (i + 1) m' σ' H') ∧ ∀ x H', J.yld i H x H' → g x σ H' fun σ2 H2 => tb { D with nx := N, ct := N, bk := D.nx } σ2 H2)
/-- the records at fp as they stand -/
def pinsAt (fp : List Addr) (h : Heap) : List (Addr × Obj) := fp.filterMap fun b => (h.get? b).map fun o => (b, o)
theorem mem_pinsAt {fp : List Addr} {h : Heap} {b : Addr} {o : Obj} (hb : b ∈ fp) (e : h.get? b = some o) : (b, o) ∈ pinsAt fp h := List.mem_filterMap.mpr ⟨b, hb, by rw [e]; rfl⟩
theorem of_pinsAt {fp : List Addr} {h : Heap} {p : Addr × Obj} (hp : p ∈ pinsAt fp h) : p.1 ∈ fp ∧ h.get? p.1 = some p.2 := by
  obtain ⟨b, hb, e⟩ := List.mem_filterMap.mp hp
  cases q : h.get? b with
  | none => rw [q] at e; cases e
  | some o =>
    rw [q] at e
    have e' : (b, o) = p := Option.some.inj e
    subst e'
    exact ⟨hb, q⟩
theorem Inv.pinned {pins : List (Addr × Obj)} {σ : St} {H : Hp} {s : Shared} {fp : List Addr} (I : Inv X pins σ H s) (hf : ∀ b ∈ fp, FpOk X pins H b) (ho : ∀ b ∈ fp, ∃ o, s.heap.get? b = some o ∧ ∀ v, o.data ≠ .cell v) : Inv X (pins ++ pinsAt fp s.heap) σ H s :=
  I.pins_of fun p hp => (List.mem_append.mp hp).elim (fun z => I.pin p (List.mem_append_right _ z)) fun z => by
    obtain ⟨hb, e⟩ := of_pinsAt z
    obtain ⟨f0, f1, f2, _⟩ := hf p.1 hb
    obtain ⟨o, e', d⟩ := ho p.1 hb
    rw [e] at e'; cases e'
    exact ⟨e, f0, f1, f2, d⟩
theorem Inv.unpinned {pins pl : List (Addr × Obj)} {σ : St} {H : Hp} {s : Shared} (I : Inv X (pins ++ pl) σ H s) : Inv X pins σ H s := I.pins_of fun p hp => I.pin p (List.mem_append_right _ (List.mem_append_left _ hp))
theorem ps_for {iter : Expr} {body : List Stmt} {wi : TI} {g : TG} {tb : TS} {pos : Pos} (hp : PassesOwn (model X.prog X.w) X.A X.env X.xe) (hc : X.calm = true) (hi : PI X tg iter wi) (hg : PG X tg g) (hb : PSs X body tb)
    (hs : ∀ x, foldedSetIterable iter X.env x = pure x := by intro _; rfl) : PS X (.For tg iter body [] pos) (tFor wi g tb) := by
  intro pins s σ H D I h
  refine wpAny_For (thn (hi pins s σ H _ I h) fun v s1 h1 => thn h1 fun itv s2 h2 => ?_) hs
  obtain ⟨it, fp, tn, J, H2, e, I2, T, st2, f2, W, ⟨m0, w0⟩, turn⟩ := h2
  subst e
  -- what stays true of the iterator's objects through the loop
  have stat : ∀ {H' : Hp}, (∀ b ∈ fp, H' b = none) → ∀ b ∈ fp, FpOk X pins H' b := fun hn b hb => ⟨hn b hb, (f2 b hb).2⟩
  refine codeAny_forLoop_any (fun n s' => ∃ i σ' H', Inv X pins σ' H' s' ∧ tn i s'.heap ∧ (∀ b ∈ fp, H' b = none) ∧ W i n σ' H') ?_ m0 ⟨0, σ, H2, I2, st2, fun b hb => (f2 b hb).1, w0⟩
  rintro n s3 ⟨i, σ3, H3, I3, st3, fr3, w3⟩
  rcases turn i n σ3 H3 w3 with ⟨stop, qn⟩ | ⟨go, N, hN, step⟩
  · refine wpAny_passesOwn hp (thn (T.done X rfl rfl rfl hc i pins s3 σ3 H3 X.xe I3 (stat fr3) st3 stop) fun r s4 ⟨hr, I4⟩ => ?_)
    subst hr
    exact wpAny_execs_nil ⟨σ3, H3, I4, qn⟩
  · refine wpAny_passesOwn hp (thn (T.item X rfl rfl rfl hc i pins s3 σ3 H3 X.xe I3 (stat fr3) st3 go) fun r s4 ⟨u, hr, h4⟩ => ?_)
    subst hr
    refine wpAny_passesOwn hp (thn h4 fun _ s5 ⟨x, H5, I5, r5, y5, st5, fr5⟩ => ?_)
    have I5' := I5.pinned (stat fr5) (T.obj _ _ st5)
    refine wpAny_passesOwn hp (thn (hg _ s5 σ3 H5 x u _ I5' r5 (step x H5 y5)) fun _ s6 ⟨σ6, H6, I6, q6⟩ => ?_)
    refine wpAny_passesOwn hp (thn (hb _ s6 σ6 H6 _ I6 q6) fun f s7 q7 => ?_)
    have again : ∀ {σ7 : St} {H7 : Hp}, Inv X (pins ++ pinsAt fp s5.heap) σ7 H7 s7 → N σ7 H7 → ∃ m, m < n ∧ ∃ i σ' H', Inv X pins σ' H' s7 ∧ tn i s7.heap ∧ (∀ b ∈ fp, H' b = none) ∧ W i m σ' H' := fun {σ7 H7} I7 n7 => by
      obtain ⟨m', hm, w7⟩ := hN σ7 H7 n7
      refine ⟨m', hm, i + 1, σ7, H7, I7.unpinned, T.keep _ _ _ st5 fun b hb o e => (I7.pin (b, o) (List.mem_append_right _ (List.mem_append_right _ (mem_pinsAt hb e)))).1, fun b hb => ?_, w7⟩
      obtain ⟨o, e, d⟩ := T.obj _ _ st5 b hb
      exact (I7.pin (b, o) (List.mem_append_right _ (List.mem_append_right _ (mem_pinsAt hb e)))).2.1
    cases f with
    | next => obtain ⟨σ7, H7, I7, n7⟩ := q7; exact again I7 n7
    | cont => obtain ⟨σ7, H7, I7, n7⟩ := q7; exact again I7 n7
    | brk => obtain ⟨σ7, H7, I7, q7⟩ := q7; exact ⟨σ7, H7, I7.unpinned, q7⟩
    | ret v => obtain ⟨x7, σ7, H7, I7, r7, q7⟩ := q7; exact ⟨x7, σ7, H7, I7.unpinned, r7, q7⟩
end

/-! ### the forms one uses -/
/-- over a list that the body leaves as it is -/
theorem for_list {K : PySem.W.Frag} {a : Addr} {xs : List V} {g : TG} {tb : TS} {D : Ends} {σ : St} {H : Hp} (Pv : Nat → St → Hp → Prop) (h0 : Pv 0 σ H) (hl : ∀ i σ H, i ≤ xs.length → Pv i σ H → SqL K H a xs)
    (hs : ∀ i x σ H, xs[i]? = some x → Pv i σ H → g x σ H fun σ2 H2 => tb { D with nx := Pv (i + 1), ct := Pv (i + 1), bk := D.nx } σ2 H2) (hd : ∀ σ H, Pv xs.length σ H → D.nx σ H) :
    ∃ W : Nat → Nat → St → Hp → Prop, (∃ m, W 0 m σ H) ∧ ∀ i m σ H, W i m σ H →
      ((Itl K a).stop i H ∧ D.nx σ H) ∨ ((Itl K a).go i H ∧ ∃ N : St → Hp → Prop, (∀ σ' H', N σ' H' → ∃ m', m' < m ∧ W (i + 1) m' σ' H') ∧ ∀ x H', (Itl K a).yld i H x H' → g x σ H' fun σ2 H2 => tb { D with nx := N, ct := N, bk := D.nx } σ2 H2) := by
  refine ⟨fun i m σ H => m = xs.length - i ∧ i ≤ xs.length ∧ Pv i σ H, ⟨xs.length, by simp, Nat.zero_le _, h0⟩, ?_⟩
  rintro i m σ H ⟨rfl, hi, p⟩
  have q := hl i σ H hi p
  by_cases hlt : i < xs.length
  · refine .inr ⟨⟨xs, xs[i], q, by simp [hlt]⟩, Pv (i + 1), fun σ' H' p' => ⟨xs.length - (i + 1), by omega, rfl, hlt, p'⟩, fun x H' y => ?_⟩
    obtain ⟨e, y⟩ := y
    subst e
    exact hs i x σ _ (y xs q) p
  · have e : i = xs.length := by omega
    subst e
    exact .inl ⟨⟨xs, q, Nat.le_refl _⟩, hd σ H p⟩
end L2

namespace L2
open PySem PySem.Spec PyProof.Rows

abbrev R2 := V → V → Hp → VK → Prop
/-- a two-place operation on values: f is binaryOp op, inplaceOp op or compareOp op -/
def OpR (X : Cx) (f : Value → Value → Sem Value) (r : R2) : Prop :=
  ∀ (pins : List (Addr × Obj)) (s : Shared) (σ : St) (H : Hp) (x y : V) (v u : Value) (Q : VK), Inv X pins σ H s → RelV x v → RelV y u → r x y H Q →
    wpAny (model X.prog X.w) X.A (f v u) (EP X pins σ Q) X.xe s
/-- a one-place operation -/
def UnR (X : Cx) (f : Value → Sem Value) (r : V → Hp → VK → Prop) : Prop :=
  ∀ (pins : List (Addr × Obj)) (s : Shared) (σ : St) (H : Hp) (x : V) (v : Value) (Q : VK), Inv X pins σ H s → RelV x v → r x H Q →
    wpAny (model X.prog X.w) X.A (f v) (EP X pins σ Q) X.xe s
/-- a call of a value that is known (a builtin, a type) with values -/
def CallR (X : Cx) (f : Value) (r : List V → Hp → VK → Prop) : Prop :=
  ∀ (pins : List (Addr × Obj)) (s : Shared) (σ : St) (H : Hp) (xs : List V) (us : List Value) (Q : VK), Inv X pins σ H s → Vals xs us → r xs H Q →
    wpAny (model X.prog X.w) X.A (call f us) (EP X pins σ Q) X.xe s
/-- a value's truth -/
def TruR (X : Cx) (r : V → Hp → (Bool → Hp → Prop) → Prop) : Prop :=
  ∀ (pins : List (Addr × Obj)) (s : Shared) (σ : St) (H : Hp) (x : V) (v : Value) (Q : Bool → Hp → Prop), Inv X pins σ H s → RelV x v → r x H Q →
    wpAny (model X.prog X.w) X.A (truthy v) (TP X pins σ Q) X.xe s

def tOp (r : R2) (ta tb : TE) : TE := fun σ H Q => ta σ H fun x H1 => tb σ H1 fun y H2 => r x y H2 Q
def tUn (r : V → Hp → VK → Prop) (ta : TE) : TE := fun σ H Q => ta σ H fun x H1 => r x H1 Q
/-- ints in, under C, and a value out -/
def rI (C : Int → Int → Prop) (g : Int → Int → V) : R2 := fun x y H Q => ∃ i j, x = .int i ∧ y = .int j ∧ C i j ∧ Q (g i j) H
def rI0 (g : Int → Int → V) : R2 := fun x y H Q => ∃ i j, x = .int i ∧ y = .int j ∧ Q (g i j) H
def rU (g : Int → V) : V → Hp → VK → Prop := fun x H Q => ∃ i, x = .int i ∧ Q (g i) H

section
variable {X : Cx} {a b c : Expr} {ta tb tc : TE} {pos : Pos}

theorem binT (ha : PE X a ta) (hb : PE X b tb) {pins : List (Addr × Obj)} {s : Shared} {σ : St} {H : Hp} {R : V → V → Hp → Prop} (I : Inv X pins σ H s)
    (h : ta σ H fun x H1 => tb σ H1 fun y H2 => R x y H2) {Q : Value → Shared → Prop} {f : Value → Value → Sem Value}
    (hf : ∀ v u s2 x y H2, Inv X pins σ H2 s2 → RelV x v → RelV y u → R x y H2 → wpAny (model X.prog X.w) X.A (f v u) Q X.xe s2) :
    wpAny (model X.prog X.w) X.A (eval a X.env) (fun v s₁ => wpAny (model X.prog X.w) X.A (eval b X.env) (fun u s₂ => wpAny (model X.prog X.w) X.A (f v u) Q X.xe s₂) X.xe s₁) X.xe s := by
  refine thn (ha pins s σ H _ I h) fun v s1 ⟨x, H1, I1, r1, q1⟩ => ?_
  refine thn (hb pins s1 σ H1 _ I1 q1) fun u s2 ⟨y, H2, I2, r2, q2⟩ => ?_
  exact hf v u s2 x y H2 I2 r1 r2 q2

theorem pe_op {op : Operator} {r : R2} (ho : OpR X (binaryOp op) r) (ha : PE X a ta) (hb : PE X b tb) : PE X (.BinOp a op b pos) (tOp r ta tb) := by
  intro pins s σ H Q I h
  exact wpAny_BinOp (binT ha hb I h fun v u s2 x y H2 I2 rx ry q => ho pins s2 σ H2 x y v u Q I2 rx ry q)
theorem pe_un {op : UnaryOp} {r : V → Hp → VK → Prop} (ho : UnR X (unaryOp op) r) (ha : PE X a ta) : PE X (.UnaryOp op a pos) (tUn r ta) := by
  intro pins s σ H Q I h
  exact UnaryOp_ (thn (ha pins s σ H _ I h) fun v s1 ⟨x, H1, I1, r1, q1⟩ => ho pins s1 σ H1 x v Q I1 r1 q1)
/-! ### ints -/
theorem opI {f : Value → Value → Sem Value} {C : Int → Int → Prop} {g : Int → Int → Int}
    (rule : ∀ (i j : Int) (t u : Tok) (s : Shared) (Q : Value → Shared → Prop) (E : Value → Shared → Prop), C i j → Q (.int (g i j) s.toks) { s with toks := s.toks + 1 } → wpAny (model X.prog X.w) X.A (f (.int i t) (.int j u)) Q E s) :
    OpR X f (rI C fun i j => .int (g i j)) := by
  intro pins s σ H x y v u Q I rx ry h
  obtain ⟨i, j, rfl, rfl, hc, q⟩ := h
  obtain ⟨t, rfl⟩ := rx
  obtain ⟨t', rfl⟩ := ry
  exact rule i j t t' s _ _ hc ⟨.int (g i j), H, I.tok _, ⟨_, rfl⟩, q⟩
theorem opI0 {f : Value → Value → Sem Value} {g : Int → Int → Int}
    (rule : ∀ (i j : Int) (t u : Tok) (s : Shared) (Q : Value → Shared → Prop) (E : Value → Shared → Prop), Q (.int (g i j) s.toks) { s with toks := s.toks + 1 } → wpAny (model X.prog X.w) X.A (f (.int i t) (.int j u)) Q E s) :
    OpR X f (rI0 fun i j => .int (g i j)) := by
  intro pins s σ H x y v u Q I rx ry h
  obtain ⟨i, j, rfl, rfl, q⟩ := h
  obtain ⟨t, rfl⟩ := rx
  obtain ⟨t', rfl⟩ := ry
  exact rule i j t t' s _ _ ⟨.int (g i j), H, I.tok _, ⟨_, rfl⟩, q⟩
theorem opB0 {f : Value → Value → Sem Value} {g : Int → Int → Bool}
    (rule : ∀ (i j : Int) (t u : Tok) (s : Shared) (Q : Value → Shared → Prop) (E : Value → Shared → Prop), Q (.bool (g i j)) s → wpAny (model X.prog X.w) X.A (f (.int i t) (.int j u)) Q E s) :
    OpR X f (rI0 fun i j => .bl (g i j)) := by
  intro pins s σ H x y v u Q I rx ry h
  obtain ⟨i, j, rfl, rfl, q⟩ := h
  obtain ⟨t, rfl⟩ := rx
  obtain ⟨t', rfl⟩ := ry
  exact rule i j t t' s _ _ ⟨.bl (g i j), H, I, rfl, q⟩

def CDiv (i j : Int) : Prop := 0 < j ∧ j < 1073741824
def CDivN (i j : Int) : Prop := j ≠ 0 ∧ j.natAbs < 1073741824
def CPow (i j : Int) : Prop := 0 ≤ j ∧ j ≤ 1000000 ∧ i.natAbs < 2 ^ 64
def CMul (i j : Int) : Prop := (-(2 ^ 64) < i ∧ i < 2 ^ 64) ∨ (-(2 ^ 64) < j ∧ j < 2 ^ 64)
theorem CMul.ok {i j : Int} (h : CMul i j) : IntMulOk i j := by
  rcases h with ⟨h1, h2⟩ | ⟨h1, h2⟩
  · exact .of_left (intBits_le_64 h1 h2)
  · exact .of_right (intBits_le_64 h1 h2)
theorem op_add : OpR X (binaryOp .Add) (rI0 fun i j => .int (i + j)) := opI0 fun _ _ _ _ _ _ _ q => add_int q
theorem op_sub : OpR X (binaryOp .Sub) (rI0 fun i j => .int (i - j)) := opI0 fun _ _ _ _ _ _ _ q => sub_int q
theorem op_mul : OpR X (binaryOp .Mult) (rI CMul fun i j => .int (i * j)) := opI fun _ _ _ _ _ _ _ hc q => mul_int q hc.ok
/-- // by a positive divisor -/
theorem op_fdiv : OpR X (binaryOp .FloorDiv) (rI CDiv fun i j => .int (i / j)) := opI fun i j _ _ _ _ _ hc q => by
  have h1 : (0 : Int) < j := hc.1
  have h2 : j < 1073741824 := hc.2
  exact floordiv_int (by omega) (by rw [Int.fdiv_eq_ediv_of_nonneg i (by omega)]; exact q) (.inl (PyProof.noPylong_small (by omega)))
/-- % by a positive divisor of any size -/
theorem op_mod : OpR X (binaryOp .Mod) (rI (fun _ j => 0 < j) fun i j => .int (i % j)) := opI fun i j _ _ _ _ _ hc q => by
  have h1 : (0 : Int) < j := hc
  exact mod_int' (by omega) (by rw [Int.fmod_eq_emod_of_nonneg i (by omega)]; exact q)
theorem op_pow : OpR X (binaryOp .Pow) (rI CPow fun i j => .int (i ^ j.toNat)) := opI fun _ _ _ _ _ _ _ hc q => pow_int_small hc.1 hc.2.1 hc.2.2 q
theorem unI {f : Value → Sem Value} {g : Int → Int}
    (rule : ∀ (i : Int) (t : Tok) (s : Shared) (Q : Value → Shared → Prop) (E : Value → Shared → Prop), Q (.int (g i) s.toks) { s with toks := s.toks + 1 } → wpAny (model X.prog X.w) X.A (f (.int i t)) Q E s) :
    UnR X f (rU fun i => .int (g i)) := by
  intro pins s σ H x v Q I rx h
  obtain ⟨i, rfl, q⟩ := h
  obtain ⟨t, rfl⟩ := rx
  exact rule i t s _ _ ⟨.int (g i), H, I.tok _, ⟨_, rfl⟩, q⟩
theorem un_neg : UnR X (unaryOp .USub) (rU fun i => .int (-i)) := unI fun _ _ _ _ _ q => neg_int q
/-! ### bools among ints: n += (a < b) -/
end

/-! ### comparisons -/
/-- the scalars that == tells apart as data does -/
def scal : V → V → Bool
  | .non, .non => true | .non, .int _ => true | .int _, .non => true | .non, .bl _ => true | .bl _, .non => true | .non, .str _ => true | .str _, .non => true
  | .int _, .int _ => true | .bl _, .bl _ => true | .str _, .str _ => true | .byt _, .byt _ => true
  | .int _, .str _ => true | .str _, .int _ => true | .bl _, .str _ => true | .str _, .bl _ => true
  | _, _ => false
def rEq : R2 := fun x y H Q => scal x y = true ∧ Q (.bl (decide (x = y))) H
def rNe : R2 := fun x y H Q => scal x y = true ∧ Q (.bl (!decide (x = y))) H

theorem dec_int {i j : Int} : decide (V.int i = V.int j) = (i == j) := by
  rw [Bool.eq_iff_iff]
  simp
theorem dec_bl {i j : Bool} : decide (V.bl i = V.bl j) = (i == j) := by
  rw [Bool.eq_iff_iff]
  simp
theorem dec_str {i j : Str} : decide (V.str i = V.str j) = (i == j) := by
  rw [Bool.eq_iff_iff]
  simp
theorem dec_byt {i j : Array UInt8} : decide (V.byt i = V.byt j) = (i.toList == j.toList) := by
  rw [Bool.eq_iff_iff]
  cases i
  cases j
  simp

section
variable {X : Cx} {a b c : Expr} {ta tb tc : TE} {pos : Pos}
theorem fin_bl {pins : List (Addr × Obj)} {σ : St} {H : Hp} {s : Shared} {Q : VK} {k k' : Bool} (I : Inv X pins σ H s) (q : Q (.bl k) H) (e : k = k') : EP X pins σ Q (.bool k') s := by
  subst e
  exact ⟨.bl k, H, I, rfl, q⟩
theorem op_eq : OpR X (compareOp .Eq) rEq := by
  intro pins s σ H x y v u Q I rx ry h
  obtain ⟨hs, q⟩ := h
  cases x with
  | non =>
    cases rx
    cases y with
    | non => cases ry; exact PySem.EqNone.eq_none_none (fin_bl I q (by simp))
    | bl j => cases ry; exact PySem.EqNone.eq_none_bool (fin_bl I q (by simp))
    | int j => obtain ⟨t', rfl⟩ := ry; exact PySem.EqNone.eq_none_int (fin_bl I q (by simp))
    | str j => obtain ⟨t', rfl⟩ := ry; exact PySem.EqNone.eq_none_str (fin_bl I q (by simp))
    | _ => exact absurd (show false = true from hs) Bool.false_ne_true
  | bl i =>
    cases rx
    cases y with
    | non => cases ry; exact PySem.EqNone.eq_bool_none (fin_bl I q (by simp))
    | bl j => cases ry; exact eq_bool (fin_bl I q dec_bl)
    | str j => obtain ⟨t', rfl⟩ := ry; exact PySem.EqMixed.eq_bool_str (fin_bl I q (by simp))
    | _ => exact absurd (show false = true from hs) Bool.false_ne_true
  | int i =>
    obtain ⟨t, rfl⟩ := rx
    cases y with
    | non => cases ry; exact PySem.EqNone.eq_int_none (fin_bl I q (by simp))
    | int j => obtain ⟨t', rfl⟩ := ry; exact eq_int (fin_bl I q dec_int)
    | str j => obtain ⟨t', rfl⟩ := ry; exact PySem.EqMixed.eq_int_str (fin_bl I q (by simp))
    | _ => exact absurd (show false = true from hs) Bool.false_ne_true
  | str i =>
    obtain ⟨t, rfl⟩ := rx
    cases y with
    | non => cases ry; exact PySem.EqNone.eq_str_none (fin_bl I q (by simp))
    | bl j => cases ry; exact PySem.EqMixed.eq_str_bool (fin_bl I q (by simp))
    | int j => obtain ⟨t', rfl⟩ := ry; exact PySem.EqMixed.eq_str_int (fin_bl I q (by simp))
    | str j => obtain ⟨t', rfl⟩ := ry; exact eq_str (fin_bl I q dec_str)
    | _ => exact absurd (show false = true from hs) Bool.false_ne_true
  | byt i =>
    obtain ⟨t, rfl⟩ := rx
    cases y with
    | byt j => obtain ⟨t', rfl⟩ := ry; exact PySem.W.eq_bytes (fin_bl I q dec_byt)
    | _ => exact absurd (show false = true from hs) Bool.false_ne_true
  | _ => cases y <;> exact absurd (show false = true from hs) Bool.false_ne_true
theorem op_ne : OpR X (compareOp .NotEq) rNe := by
  intro pins s σ H x y v u Q I rx ry h
  obtain ⟨hs, q⟩ := h
  cases x with
  | non =>
    cases rx
    cases y with
    | non => cases ry; exact PySem.EqNone.ne_none_none (fin_bl I q (by simp))
    | bl j => cases ry; exact PySem.EqNone.ne_none_bool (fin_bl I q (by simp))
    | int j => obtain ⟨t', rfl⟩ := ry; exact PySem.EqNone.ne_none_int (fin_bl I q (by simp))
    | str j => obtain ⟨t', rfl⟩ := ry; exact PySem.EqNone.ne_none_str (fin_bl I q (by simp))
    | _ => exact absurd (show false = true from hs) Bool.false_ne_true
  | bl i =>
    cases rx
    cases y with
    | non => cases ry; exact PySem.EqNone.ne_bool_none (fin_bl I q (by simp))
    | bl j => cases ry; exact ne_bool (fin_bl I q (congrArg not dec_bl))
    | str j => obtain ⟨t', rfl⟩ := ry; exact PySem.EqMixed.ne_bool_str (fin_bl I q (by simp))
    | _ => exact absurd (show false = true from hs) Bool.false_ne_true
  | int i =>
    obtain ⟨t, rfl⟩ := rx
    cases y with
    | non => cases ry; exact PySem.EqNone.ne_int_none (fin_bl I q (by simp))
    | int j => obtain ⟨t', rfl⟩ := ry; exact ne_int (fin_bl I q (congrArg not dec_int))
    | str j => obtain ⟨t', rfl⟩ := ry; exact PySem.EqMixed.ne_int_str (fin_bl I q (by simp))
    | _ => exact absurd (show false = true from hs) Bool.false_ne_true
  | str i =>
    obtain ⟨t, rfl⟩ := rx
    cases y with
    | non => cases ry; exact PySem.EqNone.ne_str_none (fin_bl I q (by simp))
    | bl j => cases ry; exact PySem.EqMixed.ne_str_bool (fin_bl I q (by simp))
    | int j => obtain ⟨t', rfl⟩ := ry; exact PySem.EqMixed.ne_str_int (fin_bl I q (by simp))
    | str j => obtain ⟨t', rfl⟩ := ry; exact ne_str (fin_bl I q (congrArg not dec_str))
    | _ => exact absurd (show false = true from hs) Bool.false_ne_true
  | byt i =>
    obtain ⟨t, rfl⟩ := rx
    cases y with
    | byt j => obtain ⟨t', rfl⟩ := ry; exact PySem.W.ne_bytes (fin_bl I q (congrArg not dec_byt))
    | _ => exact absurd (show false = true from hs) Bool.false_ne_true
  | _ => cases y <;> exact absurd (show false = true from hs) Bool.false_ne_true

theorem op_lt : OpR X (compareOp .Lt) (rI0 fun i j => .bl (decide (i < j))) := opB0 fun _ _ _ _ _ _ _ q => lt_int q
theorem op_le : OpR X (compareOp .LtE) (rI0 fun i j => .bl (decide (i ≤ j))) := opB0 fun _ _ _ _ _ _ _ q => le_int q
theorem op_gt : OpR X (compareOp .Gt) (rI0 fun i j => .bl (decide (j < i))) := opB0 fun _ _ _ _ _ _ _ q => gt_int q
theorem op_ge : OpR X (compareOp .GtE) (rI0 fun i j => .bl (decide (j ≤ i))) := opB0 fun _ _ _ _ _ _ _ q => ge_int q
/-- is None, is not None: the right side a value none -/
theorem op_isN : OpR X (compareOp .Is) (fun x y H Q => y = .non ∧ Q (.bl (decide (x = .non))) H) := by
  intro pins s σ H x y v u Q I rx ry h
  obtain ⟨rfl, q⟩ := h
  cases ry
  refine is_none_gen (fin_bl I q ?_)
  cases x <;> first
    | (cases rx; rfl)
    | (obtain ⟨t, rfl⟩ := rx; rfl)
theorem op_notN : OpR X (compareOp .IsNot) (fun x y H Q => y = .non ∧ Q (.bl (!decide (x = .non))) H) := by
  intro pins s σ H x y v u Q I rx ry h
  obtain ⟨rfl, q⟩ := h
  cases ry
  refine isnot_none_gen (fin_bl I q ?_)
  cases x <;> first
    | (cases rx; rfl)
    | (obtain ⟨t, rfl⟩ := rx; rfl)

/-- is, is not of two objects that are tracked lists or instances -/
def isObj : HO → Bool
  | .lst _ => true
  | .ins _ _ _ => true
  | _ => false
theorem nomark (b : Expr) {op : CmpOp} (h : op ≠ .In := by decide) (h2 : op ≠ .NotIn := by decide) : behindInMarks op b = false := by
  have e1 : (op == CmpOp.In) = false := by cases op <;> first | rfl | exact absurd rfl h
  have e2 : (op == CmpOp.NotIn) = false := by cases op <;> first | rfl | exact absurd rfl h2
  cases b <;> simp [behindInMarks, e1, e2]
/-- a comparison as a value; hm: nomark b, or (for in, not in) by with_unfolding_all rfl -/
theorem pe_cmpR {op : CmpOp} {r : R2} (ho : OpR X (compareOp op) r) (ha : PE X a ta) (hb : PE X b tb) (hm : behindInMarks op b = false) : PE X (.Compare a [op] [b] pos) (tOp r ta tb) := by
  intro pins s σ H Q I h
  exact wpAny_Compare1 (binT ha hb I h fun v u s2 x y H2 I2 rx ry q => ho pins s2 σ H2 x y v u Q I2 rx ry q) hm
/-- a reading of a value as a test -/
def tTest (t : TE) : TT := fun σ H Q => t σ H fun x H' => ∃ k, x = .bl k ∧ Q k H'
theorem pt_cmpR {op : CmpOp} {r : R2} (ho : OpR X (compareOp op) r) (ha : PE X a ta) (hb : PE X b tb) (hm : behindInMarks op b = false) : PT X (.Compare a [op] [b] pos) (tTest (tOp r ta tb)) := by
  intro pins s σ H Q I h
  refine wpAny_isTrue_Compare1 (thn (ha pins s σ H _ I h) fun v s1 ⟨x, H1, I1, r1, q1⟩ => thn (hb pins s1 σ H1 _ I1 q1) fun u s2 ⟨y, H2, I2, r2, q2⟩ =>
    thn (ho pins s2 σ H2 x y v u _ I2 r1 r2 q2) fun c s3 ⟨z, H3, I3, r3, k, e, q3⟩ => ?_) hm
  subst e
  cases r3
  exact wpAny_truthy_bool ⟨H3, I3, q3⟩
/-- a op1 b op2 c -/
def tChain (r r' : R2) (ta tb tc : TE) : TE := fun σ H Q => ta σ H fun x H1 => tb σ H1 fun y H2 => r x y H2 fun z H3 => ∃ k, z = .bl k ∧
  (if k = true then tc σ H3 fun w' H4 => r' y w' H4 Q else Q (.bl false) H3)
theorem pe_chain {op op' : CmpOp} {r r' : R2} (ho : OpR X (compareOp op) r) (ho' : OpR X (compareOp op') r') (ha : PE X a ta) (hb : PE X b tb) (hc : PE X c tc)
    (hm : lastMarks [op, op'] [b, c] = false := by with_unfolding_all rfl) : PE X (.Compare a [op, op'] [b, c] pos) (tChain r r' ta tb tc) := by
  intro pins s σ H Q I h
  refine Compare_chain (thn (ha pins s σ H _ I h) fun v s1 ⟨x, H1, I1, r1, q1⟩ => chain_link (thn (hb pins s1 σ H1 _ I1 q1) fun u s2 ⟨y, H2, I2, r2, q2⟩ =>
    thn (ho pins s2 σ H2 x y v u _ I2 r1 r2 q2) fun d s3 ⟨z, H3, I3, r3, k, e, q3⟩ => ?_)) hm
  subst e
  cases r3
  refine wpAny_truthy_bool ?_
  cases k with
  | false => exact ite_ff ⟨.bl false, H3, I3, rfl, q3⟩
  | true => exact ite_tt (chain_last (thn (hc pins s3 σ H3 _ I3 q3) fun w' s4 ⟨z', H4, I4, r4, q4⟩ => ho' pins s4 σ H4 y z' u w' Q I4 r2 r4 q4))
/-! ### truth -/
/-- a value's truth by the abstract heap -/
def TruV (K : PySem.W.Frag) (x : V) (H : Hp) (k : Bool) : Prop :=
  match x with
  | .non => k = false
  | .bl b => k = b
  | .int i => k = (i != 0)
  | .str y => y.length ≤ sizeLine ∧ k = ((y.length : Int) != 0)
  | .byt y => y.size ≤ sizeLine ∧ k = ((y.size : Int) != 0)
  | .ref p => (∃ xs, SqL K H p xs ∧ k = !xs.isEmpty) ∨ (∃ xs, SqT K H p xs ∧ k = !xs.isEmpty) ∨ ∃ kvs, H p = some (.dK kvs) ∧ k = !kvs.isEmpty
  | _ => False
theorem line63 : (sizeLine : Nat) < 2 ^ 63 := by rw [sizeLine_eq]; decide
/-! ### strs and bytes -/
def PlainIxT (b : Expr) : Prop := ∀ o i, subscripted b false o i = operate [o, i] (getItem o i)
/-! ### scalar builtins, by CallR -/
theorem vals1 {x : V} {us : List Value} (r : Vals [x] us) : ∃ u, us = [u] ∧ RelV x u := by
  cases r with
  | cons r1 r2 => cases r2; exact ⟨_, rfl, r1⟩
theorem vals2 {x y : V} {us : List Value} (r : Vals [x, y] us) : ∃ u w', us = [u, w'] ∧ RelV x u ∧ RelV y w' := by
  cases r with
  | cons r1 r2 =>
    cases r2 with
    | cons r3 r4 => cases r4; exact ⟨_, _, rfl, r1, r3⟩
theorem call_max2 (hc : X.calm = true) : CallR X (.builtin "max") (fun xs H Q => ∃ i j, xs = [.int i, .int j] ∧ Q (.int (if j > i then j else i)) H) := by
  intro pins s σ H xs us Q I r h
  obtain ⟨i, j, rfl, q⟩ := h
  obtain ⟨u, w', rfl, ⟨t, rfl⟩, ⟨t', rfl⟩⟩ := vals2 r
  refine max_two_ints (I.ok.hd hc) fun h' tk k => ⟨_, H, I.kept k, ?_, q⟩
  by_cases hj : j > i
  · rw [if_pos hj, if_pos hj]; exact ⟨_, rfl⟩
  · rw [if_neg hj, if_neg hj]; exact ⟨_, rfl⟩
/-- len of a str, a bytes, a list, a tuple -/
def LenV (K : PySem.W.Frag) (x : V) (H : Hp) (n : Nat) : Prop :=
  match x with
  | .str y => y.length ≤ sizeLine ∧ n = y.length
  | .byt y => y.size ≤ sizeLine ∧ n = y.size
  | .ref p => (∃ xs, SqL K H p xs ∧ n = xs.length) ∨ ∃ xs, SqT K H p xs ∧ n = xs.length
  | _ => False
end
end L2

namespace L2
open PySem PySem.Spec PyProof.Rows

/-! ### an instance, its attributes a map -/
structure ObjM (h : Heap) (x dx C : Addr) (mA : Str → Option Value) : Prop where
  obj : h.get? x = some (PySem.W.instObj C dx)
  ns : h.Ns1 dx mA
  ne : dx ≠ x

theorem lookIn_ns {h : Heap} {dx : Addr} {mA : Str → Option Value} (n : h.Ns1 dx mA) : ∃ od, h.get? dx = some od ∧ ∀ name, PySem.W.lookIn name od = some (mA name) := by
  obtain ⟨o, es, ep, ho, hd, hk, _, hm⟩ := n
  refine ⟨o, ho, fun name => ?_⟩
  have e := hm name
  unfold nsFind findBy at e
  rw [← Array.find?_toList] at e
  unfold PySem.W.lookIn
  rw [hd]
  dsimp only
  split
  · rename_i y q
    rw [q] at e
    exact congrArg some e
  · rename_i q
    rw [q] at e
    have a : es.toList.any (·.refKey) = false := by
      rw [List.any_eq_false]
      intro y hy
      obtain ⟨z, t, hkey⟩ := hk y (Array.mem_toList_iff.mp hy)
      simp [DictEntry.refKey, hkey]
    have a' : ¬ es.toList.any (·.refKey) = true := by rw [a]; exact Bool.false_ne_true
    rw [if_neg a']
    exact congrArg some e

theorem ObjM.look {h : Heap} {x dx C : Addr} {mA : Str → Option Value} (I : ObjM h x dx C mA) : ∃ od, PySem.W.InstAt h x (PySem.W.instObj C dx) C (some od) ∧ ∀ name, PySem.W.lookIn name od = some (mA name) :=
  let ⟨od, ho, hl⟩ := lookIn_ns I.ns
  ⟨od, ⟨I.obj, rfl, rfl, ho⟩, hl⟩

section
variable {prog : Program} {w : World} {A : Around} {E : Value → Shared → Prop} {s : Shared} {K : PySem.W.Frag} {x dx C f : Addr} {mA : Str → Option Value} {name : Str} {v : Value}

end

/-! ### the attributes as a list of pairs -/
def putF (f : Str) (v : V) : List (Str × V) → List (Str × V)
  | [] => [(f, v)]
  | (g, x) :: r => if g = f then (g, v) :: r else (g, x) :: putF f v r
section
variable {P : Program} {w : World} {H H' : Hp} {h h' : Heap} {a C dx : Addr} {fs fs' : List (Str × V)}
theorem ins_get (hok : HOk P w H h) (e : H a = some (.ins C dx fs)) : ∃ mA, ObjM h a dx C mA ∧ (∀ f, RelO (fs.lookup f) (mA f)) ∧ PySem.Within mA (fs.map (·.1)) ∧ fs.length ≤ 1000 ∧ H dx = some (.own a) := by
  obtain ⟨d, z, ne, ob, mA, n, r, q⟩ := (show ObjOk P w H h a (.ins C dx fs) from hok a _ e)
  exact ⟨mA, ⟨ob, n, ne⟩, r, q, z, d⟩
end

/-! ### what of the text a class must have -/
structure Cls (K : PySem.W.Frag) (C : Addr) : Prop where
  pg : PySem.W.plainGet K C Str.empty = true
  hd : PySem.W.hasDictIn K C = true
  po : PySem.W.plainOver K C = true
  sa : PySem.W.findIn K (.ref C) "__setattr__" = some (some (.builtin "object.__setattr__"))
theorem Cls.get {K : PySem.W.Frag} {C : Addr} (c : Cls K C) (f : Str) : PySem.W.plainGet K C f = true := c.pg
/-- no class of it has the name -/
def NoAttr (K : PySem.W.Frag) (C : Addr) (f : Str) : Prop := PySem.W.findIn K (.ref C) f = some none
/-- a constant of the class -/
structure Con (K : PySem.W.Frag) (C : Addr) (f : Str) (v : V) (u : Value) : Prop where
  at_ : PySem.W.findIn K (.ref C) f = some (some u)
  rel : RelV v u
  get : PySem.W.specialIn K u "__get__" = some none
  cp : PySem.W.copiedNames.contains f = false
/-- a method: a plain def of the class or of one above it -/
structure Meth (K : PySem.W.Frag) (C : Addr) (m : Str) (f : Addr) : Prop where
  at_ : PySem.W.findIn K (.ref C) m = some (some (.ref f))
  fn : PySem.W.isFn K (.ref f) = true
  kp : PySem.W.keepIn K (.ref f) = true

section
variable {X : Cx} {pins : List (Addr × Obj)} {σ : St} {H : Hp} {s : Shared} {a C dx : Addr} {fs : List (Str × V)} {f : Str} {v : V} {A : Around} {E : Value → Shared → Prop}

end

/-! ### readings and rules -/
/-- e.f, an attribute of the instance -/
def tFld (K : PySem.W.Frag) (ta : TE) (f : Str) : TE := fun σ H Q => ta σ H fun x H1 => ∃ a C dx fs v, x = .ref a ∧ H1 a = some (.ins C dx fs) ∧ Cls K C ∧ NoAttr K C f ∧ fs.lookup f = some v ∧ Q v H1
/-- e.f, a constant of the class -/
def tCon (K : PySem.W.Frag) (ta : TE) (f : Str) : TE := fun σ H Q => ta σ H fun x H1 => ∃ a C dx fs v u, x = .ref a ∧ H1 a = some (.ins C dx fs) ∧ Cls K C ∧ Con K C f v u ∧ fs.lookup f = none ∧ Q v H1
/-- e.f = value -/
def sFld (K : PySem.W.Frag) (ta tv : TE) (f : Str) : TS := fun D σ H => tv σ H fun y H1 => ta σ H1 fun x H2 => ∃ a C dx fs, x = .ref a ∧ H2 a = some (.ins C dx fs) ∧ Cls K C ∧ NoAttr K C f ∧ fs.length < 1000 ∧
  D.nx σ (upd H2 a (.ins C dx (putF f y fs)))
/-- an augmented operator on two values -/
def InOp (X : Cx) (op : Operator) (rd : V → V → Hp → VK → Prop) : Prop :=
  ∀ (pins : List (Addr × Obj)) (s : Shared) (σ : St) (H : Hp) (x y : V) (u v : Value) (Q : VK), Inv X pins σ H s → RelV x u → RelV y v → rd x y H Q → wpAny (model X.prog X.w) X.A (inplaceOp op u v) (EP X pins σ Q) X.xe s
/-- e.f op= value -/
def sFldAug (K : PySem.W.Frag) (ta tv : TE) (rd : V → V → Hp → VK → Prop) (f : Str) : TS := fun D σ H => ta σ H fun x H1 => ∃ a C dx fs v, x = .ref a ∧ H1 a = some (.ins C dx fs) ∧ Cls K C ∧ NoAttr K C f ∧ fs.lookup f = some v ∧
  tv σ H1 fun y H2 => rd v y H2 fun z H3 => ∃ dx' fs', H3 a = some (.ins C dx' fs') ∧ fs'.length < 1000 ∧ D.nx σ (upd H3 a (.ins C dx' (putF f z fs')))

section
variable {X : Cx} {o e value : Expr} {f : Str} {pos pos' tpos : Pos} {ta tv : TE}
def rAdd : V → V → Hp → VK → Prop := fun x y H Q => ∃ i j, x = .int i ∧ y = .int j ∧ Q (.int (i + j)) H
def rSub : V → V → Hp → VK → Prop := fun x y H Q => ∃ i j, x = .int i ∧ y = .int j ∧ Q (.int (i - j)) H
end

/-! ### isinstance -/
section
variable {X : Cx} {pins : List (Addr × Obj)} {σ : St} {H : Hp} {s : Shared} {A : Around} {E : Value → Shared → Prop} {Q : Value → Shared → Prop} {c : Value} {b : Bool}
/-- the type of a value, as the fragment's deciders take it; for an instance its class -/
inductive TyOf (K : PySem.W.Frag) (H : Hp) : V → Value → Prop where
  | non : TyOf K H .non (.type "NoneType")
  | bl (x : Bool) : TyOf K H (.bl x) (.type "bool")
  | int (i : Int) : TyOf K H (.int i) (.type "int")
  | str (x : Str) : TyOf K H (.str x) (.type "str")
  | flt (x : UInt64) : TyOf K H (.flt x) (.type "float")
  | lst {a : Addr} {xs : List V} (e : H a = some (.lst xs)) : TyOf K H (.ref a) (.type "list")
  | frz {a : Addr} {o : Obj} {xs : List V} (e : H a = some (.frz o (.lst xs))) : TyOf K H (.ref a) (.type "list")
  | tup {a : Addr} {xs : List V} (e : H a = some (.tup xs)) : TyOf K H (.ref a) (.type "tuple")
  | dK {a : Addr} {kvs : List (Key × V)} (e : H a = some (.dK kvs)) : TyOf K H (.ref a) (.type "dict")
  | dT {a : Addr} {kvs : List (List Key × V)} (e : H a = some (.dT kvs)) : TyOf K H (.ref a) (.type "dict")
  | ins {a C dx : Addr} {fs : List (Str × V)} (e : H a = some (.ins C dx fs)) (cl : Cls K C) (ha : PySem.W.findIn K (.ref C) "__class__" = some (some (.builtin "object.__class__")))
      (hn : PySem.W.specialIn K (.builtin "object.__class__") "__get__" = some (some (.builtin "getset_descriptor.__get__"))) (htk : PySem.W.takesIn K (.builtin "object.__class__") = some true)
      (hm : PySem.W.mroIn K C (.type "object") = some true) : TyOf K H (.ref a) (.ref C)
/-- isinstance(x, c) for one class c, a built-in or an own one: kitOne's answer -/
theorem isinst_ok {x : V} {u t : Value} (I : Inv X pins σ H s) (rx : RelV x u) (ty : TyOf X.K H x t) (e : PySem.W.kitOne X.K t c = some b) (h : ∀ tk, Q (.bool b) { s with toks := tk }) :
    wpAny (model X.prog X.w) A (call (.builtin "isinstance") [u, c]) Q E s := by
  cases ty with
  | non => cases (show u = Value.none from rx); exact PySem.W.kia_one PySem.W.kitx_none I.kIn True.intro e (fun z => nomatch z) h
  | bl y => cases (show u = Value.bool y from rx); exact PySem.W.kia_one PySem.W.kitx_bool I.kIn True.intro e (fun z => nomatch z) h
  | int i => obtain ⟨t, q⟩ := (show ∃ t, u = Value.int i t from rx); cases q; exact PySem.W.kia_one PySem.W.kitx_int I.kIn True.intro e (fun z => nomatch z) h
  | str y => obtain ⟨t, q⟩ := (show ∃ t, u = Value.str y t from rx); cases q; exact PySem.W.kia_one PySem.W.kitx_str I.kIn True.intro e (fun z => nomatch z) h
  | flt y => obtain ⟨t, q⟩ := (show ∃ t, u = Value.float y t from rx); cases q; exact PySem.W.kia_one PySem.W.kitx_float I.kIn True.intro e (fun z => nomatch z) h
  | @lst a xs ea =>
    cases (show u = Value.ref a from rx)
    obtain ⟨_, _, n, _, h1⟩ := (show ObjOk X.prog X.w H s.heap a (.lst xs) from I.hok a _ ea)
    exact PySem.W.kia_one PySem.W.kitx_list I.kIn ⟨_, h1, rfl⟩ e (fun z => nomatch z) h
  | @frz a ob xs ea =>
    cases (show u = Value.ref a from rx)
    obtain ⟨_, _, _, n, _, h1⟩ := (show ObjOk X.prog X.w H s.heap a (.frz ob (.lst xs)) from I.hok a _ ea)
    exact PySem.W.kia_one PySem.W.kitx_list I.kIn ⟨_, h1, rfl⟩ e (fun z => nomatch z) h
  | @tup a xs ea =>
    cases (show u = Value.ref a from rx)
    obtain ⟨_, _, _, p⟩ := (show ObjOk X.prog X.w H s.heap a (.tup xs) from I.hok a _ ea)
    obtain ⟨o, h1, h2, _⟩ := p
    exact PySem.W.kia_one PySem.W.kitx_tuple I.kIn ⟨o, h1, h2⟩ e (fun z => nomatch z) h
  | @dK a kvs ea =>
    cases (show u = Value.ref a from rx)
    obtain ⟨_, _, vs, _, p⟩ := (show ObjOk X.prog X.w H s.heap a (.dK kvs) from I.hok a _ ea)
    obtain ⟨o, es, ep, h1, h2, _⟩ := p
    exact PySem.W.kia_one PySem.W.kitx_dict I.kIn ⟨o, h1, h2.1⟩ e (fun z => nomatch z) h
  | @dT a kvs ea =>
    cases (show u = Value.ref a from rx)
    obtain ⟨_, _, xs, _, o, es, ep, h1, h2, _⟩ := (show ObjOk X.prog X.w H s.heap a (.dT kvs) from I.hok a _ ea)
    exact PySem.W.kia_one PySem.W.kitx_dict I.kIn ⟨o, h1, h2.1⟩ e (fun z => nomatch z) h
  | @ins a C dx fs ea cl ha hn htk hm =>
    cases (show u = Value.ref a from rx)
    obtain ⟨mA, O, _⟩ := ins_get I.hok ea
    obtain ⟨od, J, _⟩ := O.look
    exact PySem.W.kia_one (PySem.W.kitx_own (cl.get _) cl.hd ha hn htk hm) I.kIn J e (fun z => nomatch z) h
end
end L2

namespace L2
open PySem PySem.Spec PyProof.Rows

/-! ### room -/
structure Room (k : Nat) (A : Around) : Prop where
  hd : A.handled = none
  dp : A.depth + 3 * k + 5 < recursionLimit
  un : A.units + 16 * k + 200 < cLine
theorem Room.mono {j k : Nat} {A : Around} (r : Room k A) (h : j ≤ k) : Room j A := ⟨r.hd, by have := r.dp; omega, by have := r.un; omega⟩
theorem Room.deeper {k : Nat} {A : Around} (r : Room (k + 1) A) (env : Env) : Room k (A.deeper env) :=
  ⟨r.hd, by have := r.dp; show A.depth + 1 + 3 * k + 5 < _; omega, by have := r.un; show A.units + 3 + 16 * k + 200 < _; omega⟩
theorem Room.depth {k : Nat} {A : Around} (r : Room k A) : A.depth < recursionLimit := by have := r.dp; omega
theorem Room.units {k : Nat} {A : Around} (r : Room k A) : A.units + 64 < cLine := by have := r.un; omega
/-! ### argument lists and displays -/
def tNil : TA := fun _ H Q => Q [] H
def tCons (ta : TE) (tr : TA) : TA := fun σ H Q => ta σ H fun x H1 => tr σ H1 fun xs H2 => Q (x :: xs) H2
section
variable {X : Cx} {e : Expr} {es : List Expr} {te : TE} {t : TA} {pos : Pos}
theorem pa_nil : PA X [] tNil := fun _ _ _ _ H Q I h => Calls.spliced_nil ⟨[], H, I, .nil, h⟩
theorem pa_cons (ha : PE X e te) (hr : PA X es t) (hs : starEach (e :: es) X.env = (false, eval e X.env) :: starEach es X.env := by rfl) : PA X (e :: es) (tCons te t) := by
  intro pos pins s σ H Q I h
  rw [hs]
  show wpAny _ _ (spliced ((false, eval e X.env) :: backTo pos (starEach es X.env))) _ _ s
  refine Calls.spliced_cons (thn (ha pins s σ H _ I h) fun u s1 ⟨x, H1, I1, r1, q1⟩ => ?_)
  exact thn (hr pos pins s1 σ H1 _ I1 q1) fun us s2 ⟨xs, H2, I2, r2, q2⟩ => ⟨x :: xs, H2, I2, .cons r1 r2, q2⟩

/-- a tuple, a list of written items -/
def tTup (t : TA) : TE := fun σ H Q => t σ H fun xs H1 => xs.length ≤ sizeLine ∧ ∀ p, H1 p = none → Q (.ref p) (upd H1 p (.tup xs))
def tLst (t : TA) : TE := fun σ H Q => t σ H fun xs H1 => xs.length ≤ sizeLine ∧ ∀ p, H1 p = none → Q (.ref p) (upd H1 p (.lst xs))
theorem pe_tup {x1} (h : PA X es t) : PE X (.Tuple es x1 pos) (tTup t) := by
  intro pins s σ H Q I hq
  refine wpAny_Tuple_spliced (thn (h pos pins s σ H _ I hq) fun us s1 ⟨xs, H1, I1, r, z, q⟩ => ⟨by rw [← r.length]; exact z, ?_⟩)
  have hf : H1 s1.heap.objs.size = none := I1.hok.fresh (Nat.le_refl _)
  refine ⟨.ref s1.heap.objs.size, upd H1 s1.heap.objs.size (.tup xs), I1.laid (t' := s1.toks) (fun b u e => Heap.get?_push_of_some _ e) (Nat.le_refl _) ?_, rfl, q _ hf⟩
  exact ⟨z, us, r, ⟨_, Heap.get?_push_size _ rfl, rfl, _, rfl⟩⟩
theorem pe_lst (h : PA X es t) : PE X (.List es pos) (tLst t) := by
  intro pins s σ H Q I hq
  refine wpAny_List_spliced (thn (h pos pins s σ H _ I hq) fun us s1 ⟨xs, H1, I1, r, z, q⟩ => ⟨by rw [← r.length]; exact z, ?_⟩)
  have hf : H1 s1.heap.objs.size = none := I1.hok.fresh (Nat.le_refl _)
  refine ⟨.ref s1.heap.objs.size, upd H1 s1.heap.objs.size (.lst xs), I1.laid (t' := s1.toks) (fun b u e => Heap.get?_push_of_some _ e) (Nat.le_refl _) ?_, rfl, q _ hf⟩
  exact ⟨z, us, 0, r, Heap.get?_push_size _ rfl⟩
end

/-! ### what a def promises -/
/-- a def's promise: the bound arguments in the parameters' order, the heap, the wanted end, the wanted exception -/
abbrev Sp := List V → Hp → VK → XK → Prop
/-- how an exception lies behind a call (file 08 gives it): the callers' frames, abstract heap and state ahead of the call, the wish, the exception, the state -/
abbrev CXT := List Env → Hp → Shared → XK → Value → Shared → Prop

/-- the state at a call -/
structure Env0 (P : Program) (w : World) (K : PySem.W.Frag) (mg : Str → Option Value) (base : Heap) (A : Around) (outer : List Env) (s : Shared) (H : Hp) : Prop where
  frames : A.frames = some outer
  mod : Mod K mg base
  bs : ∀ b o, base.get? b = some o → s.heap.get? b = some o ∧ H b = none
  bsz : base.objs.size ≤ s.heap.objs.size
  funs : s.heap.FunFrames base outer
  frf : ∀ b ∈ frs outer, H b = none
  hok : HOk P w H s.heap
  bare : AllBare s.gens
/-- a call's end -/
def CE (outer : List Env) (P : Program) (w : World) (H : Hp) (s : Shared) (Q : VK) (u : Value) (s' : Shared) : Prop :=
  ∃ v H', s'.os = s.os ∧ AllBare s'.gens ∧ Un (frs outer) [] H H' s.heap s'.heap ∧ HOk P w H' s'.heap ∧ RelV v u ∧ Q v H'
def CR (CX : CXT) (outer : List Env) (P : Program) (w : World) (H : Hp) (s : Shared) (Q : VK) (E : XK) (r : Result) (s' : Shared) : Prop :=
  match r with
  | .ok (.ret u) => CE outer P w H s Q u s'
  | .ok _ => False
  | .error e => CX outer H s E e s'
structure FnOk (P : Program) (w : World) (K : PySem.W.Frag) (mg : Str → Option Value) (base : Heap) (CX : CXT) (k : Nat) (f : Addr) (fd : FuncData) (ps : List Str) (sp : Sp) : Prop where
  len : ∀ vs H Q E, sp vs H Q E → vs.length = ps.length
  run : ∀ (A : Around) (outer : List Env) (s : Shared) (H : Hp) (args : Args) (us : List Value) (vs : List V) (Q : VK) (E : XK), Room k A → Env0 P w K mg base A outer s H → BindsTo s fd args (ps.zip us) → Vals vs us → sp vs H Q E →
    codeAny (model P w) A (.call (.ref f) args) (CR CX outer P w H s Q E) s
theorem FnOk.mono {P : Program} {w : World} {K : PySem.W.Frag} {mg : Str → Option Value} {base : Heap} {CX : CXT} {j k : Nat} {f : Addr} {fd : FuncData} {ps : List Str} {sp : Sp} (F : FnOk P w K mg base CX j f fd ps sp) (h : j ≤ k) :
    FnOk P w K mg base CX k f fd ps sp := ⟨F.len, fun A outer s H args us vs Q E hr => F.run A outer s H args us vs Q E (hr.mono h)⟩
section
variable {X : Cx} {pins : List (Addr × Obj)} {σ : St} {H : Hp} {s s' : Shared}
/-- from a body: what a callee wants -/
theorem Inv.env0 (I : Inv X pins σ H s) : Env0 X.prog X.w X.K X.mg X.base X.A X.stack s H :=
  ⟨I.ok.frames, I.ok.mod, I.bs, Nat.le_trans I.ok.bsz I.sz, I.stack, I.stkFree, I.hok, I.bare⟩
/-- behind a call -/
theorem Inv.after {Q : VK} {u : Value} (I : Inv X pins σ H s) (h : CE X.stack X.prog X.w H s Q u s') : EP X pins σ Q u s' := by
  obtain ⟨v, H', os, bare, un, hok, r, q⟩ := h
  obtain ⟨hh, g, d, t, os'⟩ := s'
  obtain rfl : os' = s.os := os
  exact ⟨v, H', I.call (h' := hh) (g' := g) (d' := d) (t' := t) (ch := []) un hok bare (fun b z => absurd z (by simp)), r, q⟩
end

/-! ### calls -/
/-- f(..): the written arguments, then the defaults dvs; E: what is wanted of an exception -/
def tCall (sp : Sp) (dvs : List V) (E : XK) (t : TA) : TE := fun σ H Q => t σ H fun vs H1 => sp (vs ++ dvs) H1 Q E
/-- o.m(..) of an instance of the class at C -/
def tMeth (C : Addr) (m : Str) (sp : Sp) (dvs : List V) (E : XK) (ta : TE) (t : TA) : TE := fun σ H Q => ta σ H fun x H1 => ∃ a dx fs, x = .ref a ∧ H1 a = some (.ins C dx fs) ∧ fs.lookup m = none ∧
  t σ H1 fun vs H2 => sp (x :: (vs ++ dvs)) H2 Q E
/-- C(..): a new instance and its dict, then __init__ -/
def tMake (C : Addr) (sp : Sp) (dvs : List V) (E : XK) (t : TA) : TE := fun σ H Q => t σ H fun vs H1 => ∀ x dx, H1 x = none → H1 dx = none → dx ≠ x →
  sp (.ref x :: (vs ++ dvs)) (upd (upd H1 dx (.own x)) x (.ins C dx [])) (fun v H2 => v = .non ∧ Q (.ref x) H2) E

/-- how the parameters are bound: us the positional arguments, kw the keywords' values by name, ds the defaults that fill up -/
def Binds (K : PySem.W.Frag) (fd : FuncData) (ps : List Str) (ds : List Value) : Prop :=
  ∀ (s : Shared) (us : List Value), K.In s.heap → (us ++ ds).length = ps.length → BindsTo s fd ⟨us, []⟩ (ps.zip (us ++ ds))
/-- every parameter is given -/
theorem Binds.all {K : PySem.W.Frag} {fd : FuncData} {ps : List Str} (h : ∀ us : List Value, us.length = ps.length → bindArgs fd ⟨us, []⟩ = pure (ps.zip us)) : Binds K fd ps [] := fun s us _ hl => by
  rw [List.append_nil] at hl ⊢
  exact .of_eq (h us hl)

/-- an exception of a callee reaches what this body wants of exceptions -/
def Passes (CX : CXT) (X : Cx) (E : XK) : Prop := ∀ (pins : List (Addr × Obj)) (σ : St) (H : Hp) (s : Shared) (e : Value) (s' : Shared), Inv X pins σ H s → CX X.stack H s E e s' → X.xe e s'

section
variable {X : Cx} {CX : CXT} {k : Nat} {f C : Addr} {fd : FuncData} {ps : List Str} {sp : Sp} {dvs : List V} {ds : List Value} {E : XK} {x m : Str} {p pos apos : Pos} {e o : Expr} {es : List Expr} {ta : TE} {t : TA}

/-- the callee runs -/
theorem run_fn {pins : List (Addr × Obj)} {σ : St} {H : Hp} {s : Shared} {Q : VK} {us : List Value} {vs : List V} (F : FnOk X.prog X.w X.K X.mg X.base CX k f fd ps sp) (hr : Room k X.A) (hb : Binds X.K fd ps ds) (hd : Vals dvs ds) (hx : Passes CX X E)
    (I : Inv X pins σ H s) (r : Vals vs us) (h : sp (vs ++ dvs) H Q E) : wpAny (model X.prog X.w) X.A (call (.ref f) us) (EP X pins σ Q) X.xe s := by
  have r2 : Vals (vs ++ dvs) (us ++ ds) := r.append hd
  have hl : (us ++ ds).length = ps.length := by rw [← r2.length]; exact F.len _ _ _ _ h
  refine wpAny_call (codeAny_mono (F.run X.A X.stack s H ⟨us, []⟩ (us ++ ds) (vs ++ dvs) Q E hr I.env0 (hb s us I.kIn hl) r2 h) fun r s' hq => ?_)
  cases r with
  | error e => exact hx pins σ H s e s' I hq
  | ok fl =>
    cases fl with
    | ret u => exact I.after hq
    | next => exact False.elim hq
    | brk => exact False.elim hq
    | cont => exact False.elim hq

theorem pe_call (F : FnOk X.prog X.w X.K X.mg X.base CX k f fd ps sp) (hr : Room k X.A) (hg : Gl X x) (hm : X.mg x = some (.ref f)) (hk : PySem.W.keepIn X.K (.ref f) = true) (hb : Binds X.K fd ps ds) (hd : Vals dvs ds) (hx : Passes CX X E)
    (ha : PA X (e :: es) t) (hdb : (x == ("__debug__" : Str)) = false := by decide) (he : starEach (e :: es) X.env = (false, eval e X.env) :: starEach es X.env := by rfl) (hpl : (backTo pos (starEach es X.env)).any (·.1) = false := by rfl) :
    PE X (.Call (.Name x p) (e :: es) [] pos) (tCall sp dvs E t) := by
  intro pins s σ H Q I h
  refine wpAny_Call_Name_kw (ld_glob I hg hm ?_ hdb)
  refine PySem.W.callWith_K (h₀ := X.base) I.ok.mod.kin hk (thn (ha pos pins s σ H _ I h) fun us s1 ⟨vs, H1, I1, r, q⟩ => ⟨I1.kIn, ?_⟩) he hpl
  exact run_fn F hr hb hd hx I1 r q
/-- what a class must have to be made -/
structure Mk (K : PySem.W.Frag) (C f : Addr) : Prop where
  makes : PySem.W.makesIn K C = true
  init : PySem.W.findIn K (.ref C) "__init__" = some (some (.ref f))
  fn : PySem.W.isFn K (.ref f) = true
  kp : PySem.W.keepIn K (.ref C) = true

end

/-! ### keywords -/
/-- the values of the keywords, from the left -/
def PK (X : Cx) (kws : List Keyword) (t : TA) : Prop :=
  ∀ (pos : Pos) (pins : List (Addr × Obj)) (s : Shared) (σ : St) (H : Hp) (Q : List V → Hp → Prop), Inv X pins σ H s → t σ H Q → wpAny (model X.prog X.w) X.A (evalAll ((backToKw pos (keywordEach kws X.env)).map (·.2))) (AP X pins σ Q) X.xe s
section
variable {X : Cx} {CX : CXT} {k : Nat} {f C : Addr} {fd : FuncData} {ps ks : List Str} {sp : Sp} {E : XK} {x m : Str} {p pos apos kpos : Pos} {e o : Expr} {es : List Expr} {kws : List Keyword} {te ta : TE} {t tk : TA} {nm : Option Str}
/-- how a call with keywords binds: g puts the positional values us and the keywords' values ws (names ks) in the parameters' order, defaults among them -/
structure KBinds (K : PySem.W.Frag) (fd : FuncData) (ps ks : List Str) (g : List Value → List Value → List Value) (gV : List V → List V → List V) : Prop where
  to : ∀ (s : Shared) (us ws : List Value), K.In s.heap → (g us ws).length = ps.length → BindsTo s fd ⟨us, ks.zip ws⟩ (ps.zip (g us ws))
  rel : ∀ {vs : List V} {us : List Value} {zs : List V} {ws : List Value}, Vals vs us → Vals zs ws → Vals (gV vs zs) (g us ws)
def tCallK (sp : Sp) (gV : List V → List V → List V) (E : XK) (t tk : TA) : TE := fun σ H Q => t σ H fun vs H1 => tk σ H1 fun zs H2 => sp (gV vs zs) H2 Q E
variable {g : List Value → List Value → List Value} {gV : List V → List V → List V}
end

/-! ### a def's body keeps its promise -/
/-- names: the parameters first -/
structure FnScope (N P : List Str) (sc : Scope) : Prop where
  kind : sc.kind = .function
  co : sc.isCoroutine = false
  gen : sc.isGenerator = false
  nd : N.Nodup
  pre : N.take P.length = P
  par : ∀ x ∈ P, sc.names.lookup x = some .local ∨ sc.names.lookup x = some .cell
  nofree : ∀ y ∈ sc.names, y.2 ≠ .free

theorem bindL_out {kindOf : Str → Option NameKind} {x : Str} : ∀ {binds : List (Str × Value)} {m : Str → Option Value}, (∀ v, (x, v) ∉ binds) → bindL kindOf binds m x = m x
  | [], _, _ => rfl
  | (n, v) :: r, m, h => by
    unfold bindL
    rw [bindL_out fun w hw => h w (List.mem_cons_of_mem _ hw)]
    split
    · have : x ≠ n := by rintro rfl; exact h v List.mem_cons_self
      simp [this]
    · rfl
theorem bindC_out {kindOf : Str → Option NameKind} {x : Str} : ∀ {binds : List (Str × Value)} {m : Str → Option Value}, (∀ v, (x, v) ∉ binds) → bindC kindOf binds m x = m x
  | [], _, _ => rfl
  | (n, v) :: r, m, h => by
    unfold bindC
    rw [bindC_out fun w hw => h w (List.mem_cons_of_mem _ hw)]
    split
    · rfl
    · have : x ≠ n := by rintro rfl; exact h v List.mem_cons_self
      simp [this]
theorem bindL_get {kindOf : Str → Option NameKind} {x : Str} {v : Value} : ∀ {P : List Str} {vs : List Value} {i : Nat} {m : Str → Option Value}, P.Nodup → P[i]? = some x → vs[i]? = some v → kindOf x = some .local →
    bindL kindOf (P.zip vs) m x = some v
  | [], _, _, _, _, h, _, _ => by simp at h
  | _ :: _, [], _, _, _, _, h, _ => by simp at h
  | p :: P, w :: vs, 0, m, nd, h1, h2, hk => by
    simp at h1 h2; subst h1; subst h2
    show bindL kindOf ((p, w) :: P.zip vs) m p = _
    unfold bindL
    rw [bindL_out fun v hv => (List.nodup_cons.mp nd).1 (List.of_mem_zip hv).1, if_pos hk]
    simp
  | p :: P, w :: vs, i + 1, m, nd, h1, h2, hk => by
    show bindL kindOf ((p, w) :: P.zip vs) m x = _
    unfold bindL
    exact bindL_get (i := i) (List.nodup_cons.mp nd).2 (by simpa using h1) (by simpa using h2) hk
theorem bindC_get {kindOf : Str → Option NameKind} {x : Str} {v : Value} : ∀ {P : List Str} {vs : List Value} {i : Nat} {m : Str → Option Value}, P.Nodup → P[i]? = some x → vs[i]? = some v → kindOf x ≠ some .local →
    bindC kindOf (P.zip vs) m x = some v
  | [], _, _, _, _, h, _, _ => by simp at h
  | _ :: _, [], _, _, _, _, h, _ => by simp at h
  | p :: P, w :: vs, 0, m, nd, h1, h2, hk => by
    simp at h1 h2; subst h1; subst h2
    show bindC kindOf ((p, w) :: P.zip vs) m p = _
    unfold bindC
    rw [bindC_out fun v hv => (List.nodup_cons.mp nd).1 (List.of_mem_zip hv).1, if_neg hk]
    simp
  | p :: P, w :: vs, i + 1, m, nd, h1, h2, hk => by
    show bindC kindOf ((p, w) :: P.zip vs) m x = _
    unfold bindC
    exact bindC_get (i := i) (List.nodup_cons.mp nd).2 (by simpa using h1) (by simpa using h2) hk

/-- the names' values at the entry -/
def start (N : List Str) (vs : List V) : St := vs.map some ++ List.replicate (N.length - vs.length) none

/-- the context of a def's body, at its entry; an exception leaves the frame, then lies as CX says -/
def cxOf (CX : CXT) (P : Program) (w : World) (K : PySem.W.Frag) (mg : Str → Option Value) (base : Heap) (N : List Str) (qual : Str) (scope : Scope) (f : Addr) (cd : Value) (A : Around) (outer : List Env) (s : Shared) (H : Hp) (E : XK) : Cx where
  prog := P
  w := w
  K := K
  mg := mg
  base := base
  A := A.deeper (envOfC qual scope s.heap.objs.size f cd)
  N := N
  s₀ := s
  H₀ := H
  env := envOfC qual scope s.heap.objs.size f cd
  outer := outer
  stack := envOfC qual scope s.heap.objs.size f cd :: outer
  ex := []
  calm := true
  fn := fun _ => true
  pn := []
  xe := fun e s' => wpAny (model P w) (A.deeper (envOfC qual scope s.heap.objs.size f cd)) (leaving (envOfC qual scope s.heap.objs.size f cd) e) (fun _ s'' => CX outer H s E e s'') (fun e' s'' => CX outer H s E e' s'') s'

theorem cell_has {sc : Scope} {n : Nat} {x : Str} (h : sc.names.lookup x = some .cell) : ∃ c, (cellsFrom n sc.names []).lookup x = some c := by
  have q := PySem.W.cellsFrom_some sc.names n [] (.inl h)
  exact Option.isSome_iff_exists.mp q

theorem inv_start {CX : CXT} {P : Program} {w : World} {K : PySem.W.Frag} {mg : Str → Option Value} {base : Heap} {N ps : List Str} {qual : Str} {scope : Scope} {f : Addr} {cd : Value} {A : Around} {outer : List Env} {s s1 : Shared} {H : Hp} {E : XK} {us : List Value} {vs : List V}
    (S : FnScope N ps scope) (hd : A.handled = none) (e0 : Env0 P w K mg base A outer s H) (hl : vs.length = ps.length) (r : Vals vs us)
    (x : InCallC s s.heap.objs.size (bindL (envOfC qual scope s.heap.objs.size f cd).kindOf (ps.zip us) fun _ => none) (cellsFrom (s.heap.objs.size + 1) scope.names []) (bindC (envOfC qual scope s.heap.objs.size f cd).kindOf (ps.zip us) fun _ => none) s1) :
    Inv (cxOf CX P w K mg base N qual scope f cd A outer s H E) [] (start N vs) H s1 := by
  have hpl : ps.length ≤ N.length := by have := congrArg List.length S.pre; rw [List.length_take] at this; omega
  obtain ⟨h1, tk, rfl, hk⟩ := x.done
  have noA : ∀ b : Addr, b ∉ (cxOf CX P w K mg base N qual scope f cd A outer s H E).ex := fun b z => absurd (show b ∈ ([] : List Addr) from z) (by simp)
  refine ⟨⟨e0.mod, S.kind, rfl, rfl, Nat.le_refl _, fun y z c h1 h2 => ?_, fun y hy => ?_, fun y c _ h => ?_, fun _ => hd, Around.frames_deeper e0.frames, .inr ⟨rfl, rfl⟩, fun b z => absurd z (noA b), e0.bs, e0.bsz, fun b _ _ => noA b, fun b z => absurd z (noA b), e0.funs, e0.frf⟩,
    rfl, e0.bare, Un.kept hk, ⟨_, x.toInCall.ns, fun i y v h1 h2 h3 => ?_⟩, fun y c h => ⟨_, x.cell y c h⟩, e0.hok.fresh (Nat.le_refl _), fun y c h => ?_, fun p hp => absurd (show p ∈ ([] : List (Addr × Obj)) from hp) (by simp), e0.hok.kept hk, ?_⟩
  · exact name_of_addr x.apart (PySem.mem_of_lookup h1) (PySem.mem_of_lookup h2)
  · have hy : scope.names.lookup y = some .cell ∨ scope.names.lookup y = some .free := hy
    rcases hy with hy | hy
    · exact cell_has hy
    · exact absurd rfl (S.nofree _ (PySem.mem_of_lookup hy))
  · exact Nat.le_of_lt (x.above y c (PySem.mem_of_lookup h))
  · have hi : i < vs.length := by
      unfold start at h2
      by_cases hi : i < vs.length
      · exact hi
      · rw [List.getElem?_append_right (by simpa using hi)] at h2
        rw [List.getElem?_replicate] at h2
        split at h2 <;> cases h2
    have ha : vs[i]? = some v := by
      unfold start at h2
      rw [List.getElem?_append_left (by simpa using hi), List.getElem?_map] at h2
      cases e : vs[i]? with
      | none => rw [e] at h2; cases h2
      | some a => rw [e] at h2; cases h2; rfl
    obtain ⟨u, hu, rv⟩ := r.get ha
    have hp : ps[i]? = some y := by
      rw [← S.pre, List.getElem?_take_of_lt (by omega)]; exact h1
    have ndP : ps.Nodup := by rw [← S.pre]; exact S.nd.sublist (List.take_sublist _ _)
    refine ⟨u, rv, ?_⟩
    rcases S.par y (List.mem_of_getElem? hp) with k | k
    · exact .inl ⟨k, bindL_get ndP hp hu k⟩
    · obtain ⟨c, e⟩ := cell_has (n := s.heap.objs.size + 1) k
      refine .inr ⟨.inl k, c, e, ?_⟩
      have q := x.cell y c e
      rw [bindC_get ndP hp hu (by show scope.names.lookup y ≠ _; rw [k]; decide)] at q
      exact q
  · exact e0.hok.fresh (Nat.le_of_lt (x.above y c (PySem.mem_of_lookup h)))
  · unfold start
    show _ = N.length
    rw [List.length_append, List.length_map, List.length_replicate]
    omega

/-- THE RULE: a def (or a method) of the text, by its body. The body's reading t is chosen for each entry; it is run at the parameters' values -/
theorem fn_of {CX : CXT} {P : Program} {w : World} {K : PySem.W.Frag} {mg : Str → Option Value} {base : Heap} {k : Nat} {f : Addr} {name qual : Str} {params : Arguments} {body : List Stmt} {scope : Scope} {dV kV doc pm cdv ct oc : Value} {an od : Option Addr}
    {osl : Array (Option Value)} {N ps : List Str} {sp : Sp} (lk : K.lookup f = some ⟨oc, od, .func (PySem.W.fnOf name qual params body scope dV kV doc pm an cdv ct), osl⟩) (hcd : PySem.W.codeIn K cdv qual = true) (S : FnScope N ps scope)
    (len : ∀ vs H Q E, sp vs H Q E → vs.length = ps.length)
    (hbody : ∀ (A : Around) (outer : List Env) (s : Shared) (H : Hp) (vs : List V) (Q : VK) (E : XK), Room k (A.deeper (envOfC qual scope s.heap.objs.size f cdv)) → sp vs H Q E →
      ∃ t, PSs (cxOf CX P w K mg base N qual scope f cdv A outer s H E) body t ∧ t { nx := fun _ H' => Q .non H', rt := Q } (start N vs) H) :
    FnOk P w K mg base CX (k + 1) f (PySem.W.fnOf name qual params body scope dV kV doc pm an cdv ct) ps sp := by
  refine ⟨len, fun A outer s H args us vs Q E hr e0 hb r hsp => ?_⟩
  have hl := len _ _ _ _ hsp
  have KX : K.In s.heap := e0.mod.kin.keeps fun b o e => (e0.bs b o e).1
  have lim : s.heap.NoLimit := e0.mod.nolimit.keeps fun b o e => (e0.bs b o e).1
  have hkind : ∀ y ∈ ps.zip us, scope.names.lookup y.1 = some .local ∨ (scope.names.lookup y.1 = some .cell ∧ ((cellsFrom (s.heap.objs.size + 1) scope.names []).lookup y.1).isSome = true) := fun ⟨n, v⟩ hy => by
    rcases S.par n (List.of_mem_zip hy).1 with q | q
    · exact .inl q
    · exact .inr ⟨q, PySem.W.cellsFrom_some _ _ _ (.inl q)⟩
  refine codeAny_call_function hr.depth (KX _ _ lk) rfl S.co S.gen rfl (PySem.W.codeRec_of KX hcd) (hb _ _ _ _ ?_)
  refine wpAny_newFunctionEnv_cells S.kind hkind fun env he s1 x => ?_
  subst he
  refine ⟨lim.keeps x.toInCall.keep, codeAny_func ?_⟩
  obtain ⟨t, ht, hq⟩ := hbody A outer s H vs Q E (hr.deeper _) hsp
  have I : Inv (cxOf CX P w K mg base N qual scope f cdv A outer s H E) [] (start N vs) H s1 := inv_start S hr.hd e0 hl r x
  refine wpAny_mono (ht [] s1 (start N vs) H _ I hq) (fun fl s' hs => ?_) fun e s' hs => hs
  have fin : ∀ {σ' : St} {H' : Hp} {v : V} {u : Value}, Inv (cxOf CX P w K mg base N qual scope f cdv A outer s H E) [] σ' H' s' → RelV v u → Q v H' → CE outer P w H s Q u s' :=
    fun {σ' H' v u} J rv q => ⟨v, H', J.os, J.bare, J.base, J.hok, rv, q⟩
  cases fl with
  | ret u =>
    obtain ⟨v, σ', H', J, rv, q⟩ := hs
    exact fin J rv q
  | next =>
    obtain ⟨σ', H', J, q⟩ := hs
    exact fin (v := V.non) (u := Value.none) J rfl q
  | brk =>
    obtain ⟨_, _, _, q⟩ := hs
    exact False.elim q
  | cont =>
    obtain ⟨_, _, _, q⟩ := hs
    exact False.elim q
end L2

namespace L2
open PySem PySem.Spec PyProof.Rows
section
variable {X : Cx} {x : Str} {p pos : Pos} {e : Expr} {es : List Expr} {t : TA} {id T : String} {r : List V → Hp → VK → Prop}

def tCB (r : List V → Hp → VK → Prop) (t : TA) : TE := fun σ H Q => t σ H fun vs H1 => r vs H1 Q
/-- f(e, ..), f a built-in function -/
theorem pe_callB (hc : CallR X (.builtin id) r) (hg : Gl X x) (hm : X.mg x = none) (hv : bootBuiltins x = some (.builtin id)) (ha : PA X (e :: es) t) (hn : x ≠ "__name__" := by decide) (hdb : (x == ("__debug__" : Str)) = false := by decide)
    (he : starEach (e :: es) X.env = (false, eval e X.env) :: starEach es X.env := by rfl) (hpl : (backTo pos (starEach es X.env)).any (·.1) = false := by rfl) : PE X (.Call (.Name x p) (e :: es) [] pos) (tCB r t) := by
  intro pins s σ H Q I h
  refine wpAny_Call_Name_kw (ld_blt I hg hm hv ?_ hn hdb)
  exact PyProof.Rows.callWith_builtin1 (thn (ha pos pins s σ H _ I h) fun us s1 ⟨vs, H1, I1, r1, q1⟩ => hc pins s1 σ H1 vs us Q I1 r1 q1) he hpl
/-- T(e, ..), T a built-in type -/
theorem pe_callTy (hc : CallR X (.type T) r) (hg : Gl X x) (hm : X.mg x = none) (hv : bootBuiltins x = some (.type T)) (ha : PA X (e :: es) t) (hn : x ≠ "__name__" := by decide) (hdb : (x == ("__debug__" : Str)) = false := by decide)
    (he : starEach (e :: es) X.env = (false, eval e X.env) :: starEach es X.env := by rfl) (hpl : (backTo pos (starEach es X.env)).any (·.1) = false := by rfl) : PE X (.Call (.Name x p) (e :: es) [] pos) (tCB r t) := by
  intro pins s σ H Q I h
  refine wpAny_Call_Name_kw (ld_blt I hg hm hv ?_ hn hdb)
  exact PyProof.Rows.callWith_type1 (thn (ha pos pins s σ H _ I h) fun us s1 ⟨vs, H1, I1, r1, q1⟩ => hc pins s1 σ H1 vs us Q I1 r1 q1) he hpl
end
end L2

namespace HT
open PySem PyProof.Rows

/-- t < u of tuples of ints -/
def lexLt : List Int → List Int → Bool
  | [], [] => false
  | [], _ :: _ => true
  | _ :: _, [] => false
  | x :: xs, y :: ys => if x = y then lexLt xs ys else decide (x < y)
section
open PySem.SeqAt
open PySem.AutoSeq1 (wpAny_loadPart')
open PySem.MeetsSeq PySem.MeetsSeq2 PySem.MeetsSeq3

end

section
variable {prog : Program} {w : World} {A : Around} {E : Value → Shared → Prop} {s : Shared}

/-! ### t[a:b], not the whole -/
/-- a slice's bound as a place among n (d where it is left out) -/
def sIx (n d : Nat) : Option Int → Nat
  | none => d
  | some v => if v < 0 then (v + (n : Int)).toNat else min v.toNat n
theorem sIx_nat (n d k : Nat) : sIx n d (some (k : Int)) = min k n := by
  show (if (k : Int) < 0 then ((k : Int) + (n : Int)).toNat else min (k : Int).toNat n) = min k n
  rw [if_neg (by omega), Int.toNat_natCast]
end
end HT

namespace L2
open PySem PySem.Spec PyProof.Rows

/-! ### the parts of a slice -/
abbrev TO := St → Hp → (Option Int → Hp → Prop) → Prop
/-- a slice's part (left out, or an int) -/
def PO (X : Cx) (e : Option Expr) (t : TO) : Prop :=
  ∀ (pins : List (Addr × Obj)) (s : Shared) (σ : St) (H : Hp) (Q : Option Int → Hp → Prop), Inv X pins σ H s → t σ H Q →
    wpAny (model X.prog X.w) X.A (evalPart e X.env) (fun u s' => ∃ o H', Inv X pins σ H' s' ∧ IsPart u o ∧ Q o H') X.xe s
def tNoPart : TO := fun _ H Q => Q none H
def tPart (t : TE) : TO := fun σ H Q => t σ H fun x H1 => ∃ i, x = .int i ∧ Q (some i) H1

section
variable {X : Cx} {e : Expr} {te : TE} {lo hi : Option Expr} {tl th : TO} {pos p2 : Pos}

theorem po_some (h : PE X e te) : PO X (some e) (tPart te) := by
  intro pins s σ H Q I hw
  rw [evalPart_some]
  refine thn (h pins s σ H _ I hw) fun u s1 ⟨x, H1, I1, r1, q1⟩ => ?_
  obtain ⟨i, rfl, q⟩ := q1
  obtain ⟨t, rfl⟩ := r1
  exact ⟨some i, H1, I1, .int i t, q⟩

/-- what a slice of a value is, by values: the slice object stands at sl -/
def SlR (X : Cx) (r : V → Option Int → Option Int → Hp → VK → Prop) : Prop :=
  ∀ (pins : List (Addr × Obj)) (s : Shared) (σ : St) (H : Hp) (x : V) (v vl vu : Value) (lo hi : Option Int) (sl : Addr) (Q : VK), Inv X pins σ H s → RelV x v → s.heap.IsSliceOf sl vl vu .none → IsPart vl lo → IsPart vu hi → r x lo hi H Q →
    ∃ T id, typeLookup (.type T) "__getitem__" = pure (some (.builtin id)) ∧ s.TypeIs v T ∧ wpAny (model X.prog X.w) X.A (getItem v (.ref sl)) (EP X pins σ Q) X.xe s
def tSl (r : V → Option Int → Option Int → Hp → VK → Prop) (te : TE) (tl th : TO) : TE := fun σ H Q => te σ H fun x H1 => tl σ H1 fun l H2 => th σ H2 fun u H3 => r x l u H3 Q
/-- a[lo:hi], any a -/
theorem pe_slice {r : V → Option Int → Option Int → Hp → VK → Prop} (hr : SlR X r) (he : PE X e te) (hl : PO X lo tl) (hu : PO X hi th) : PE X (.Subscript e (.Slice lo hi none p2) pos) (tSl r te tl th) := by
  intro pins s σ H Q I h
  refine Subscript_ (thn (he pins s σ H _ I h) fun v s1 ⟨x, H1, I1, r1, q1⟩ => ?_)
  refine wpAny_Slice (thn (hl pins s1 σ H1 _ I1 q1) fun vl s2 ⟨l, H2, I2, pl, q2⟩ => thn (hu pins s2 σ H2 _ I2 q2) fun vu s3 ⟨u, H3, I3, pu, q3⟩ => ?_)
  rw [evalPart_none]
  refine wpAny_pure ?_
  have I4 : Inv X pins σ H3 { s3 with heap := s3.heap.push { cls := .type "slice", data := .fields #[vl, vu, .none] } } := I3.kept (t' := s3.toks) fun b ob q => Heap.get?_push_of_some _ q
  obtain ⟨T, id, hT, ht, hg⟩ := hr pins { s3 with heap := s3.heap.push { cls := .type "slice", data := .fields #[vl, vu, .none] } } σ H3 x v vl vu l u s3.heap.objs.size Q I4 r1 (Heap.IsSliceOf.new ..) pl pu q3
  show wpAny (model X.prog X.w) X.A (subscriptTail e (.Slice lo hi none p2) v (.ref s3.heap.objs.size)) (EP X pins σ Q) X.xe { s3 with heap := s3.heap.push { cls := .type "slice", data := .fields #[vl, vu, .none] } }
  exact tail_any (ops := [.ref s3.heap.objs.size, v]) ht hT hg (by with_unfolding_all rfl)

/-- the items of xs[lo:hi] -/
def cutV (xs : List V) (lo hi : Option Int) : List V := (xs.drop (HT.sIx xs.length 0 lo)).take (HT.sIx xs.length xs.length hi - HT.sIx xs.length 0 lo)
theorem cutV_length (xs : List V) (lo hi : Option Int) : (cutV xs lo hi).length ≤ xs.length := by
  unfold cutV
  rw [List.length_take, List.length_drop]
  omega
/-- t[lo:hi], not the whole of it (the whole would be t itself) -/
def rSlT (K : PySem.W.Frag) : V → Option Int → Option Int → Hp → VK → Prop := fun x lo hi H Q => ∃ a xs, x = .ref a ∧ SqT K H a xs ∧
  ¬ (HT.sIx xs.length 0 lo = 0 ∧ HT.sIx xs.length xs.length hi = xs.length) ∧ ∀ p, H p = none → Q (.ref p) (upd H p (.tup (cutV xs lo hi)))
/-! ### t < u, t + u -/
def rLtT (K : PySem.W.Frag) : R2 := fun x y H Q => ∃ a b ns ms, x = .ref a ∧ y = .ref b ∧ SqT K H a (ns.map V.int) ∧ SqT K H b (ms.map V.int) ∧ Q (.bl (HT.lexLt ns ms)) H
/-- t + u, t not empty: u empty gives t itself -/
def rCatT (K : PySem.W.Frag) : R2 := fun x y H Q => ∃ a b xs ys, x = .ref a ∧ y = .ref b ∧ SqT K H a xs ∧ SqT K H b ys ∧ xs ≠ [] ∧ xs.length + ys.length ≤ sizeLine ∧
  (ys = [] → Q (.ref a) H) ∧ (ys ≠ [] → ∀ p, H p = none → Q (.ref p) (upd H p (.tup (xs ++ ys))))
end
end L2

namespace L2
open PySem PySem.Spec PyProof.Rows

/-! ### places -/
/-- the place that an index of any sign means -/
def ixN (n : Nat) (i : Int) : Option Nat := if 0 ≤ i then (if i < n then some i.toNat else none) else if -(n : Int) ≤ i then some (i + n).toNat else none
def atI {α : Type} (xs : List α) (i : Int) : Option α := (ixN xs.length i).bind fun j => xs[j]?
theorem ixN_seq {n : Nat} {i : Int} {j : Nat} (h : ixN n i = some j) : seqIndex? i n = some j ∧ j < n ∧ -(n : Int) ≤ i ∧ i < n := by
  unfold ixN at h
  by_cases h0 : 0 ≤ i
  · rw [if_pos h0] at h
    by_cases h1 : i < n
    · rw [if_pos h1] at h
      have e : i.toNat = j := Option.some.inj h
      exact ⟨by rw [seqIndex_of h0 h1, e], by omega, by omega, h1⟩
    · rw [if_neg h1] at h; cases h
  · rw [if_neg h0] at h
    by_cases h1 : -(n : Int) ≤ i
    · rw [if_pos h1] at h
      have e : (i + n).toNat = j := Option.some.inj h
      exact ⟨by rw [seqIndex_neg (by omega) h1, e], by omega, h1, by omega⟩
    · rw [if_neg h1] at h; cases h
theorem atI_get {α : Type} {xs : List α} {i : Int} {v : α} (h : atI xs i = some v) : ∃ j, seqIndex? i xs.length = some j ∧ xs[j]? = some v ∧ j < xs.length ∧ -(xs.length : Int) ≤ i ∧ i < xs.length := by
  unfold atI at h
  cases e : ixN xs.length i with
  | none => rw [e] at h; cases h
  | some j =>
    rw [e] at h
    obtain ⟨h1, h2, h3, h4⟩ := ixN_seq e
    exact ⟨j, h1, h, h2, h3, h4⟩
theorem atI_nat {α : Type} {xs : List α} {j : Nat} {v : α} (h : xs[j]? = some v) : atI xs (j : Int) = some v := by
  have hj : j < xs.length := (List.getElem?_eq_some_iff.mp h).1
  have e : ixN xs.length (j : Int) = some j := by
    unfold ixN
    rw [if_pos (by omega), if_pos (by omega)]; simp
  unfold atI; rw [e]; exact h
/-! ### what may be subscripted -/
/-- what stands as an index of a plain subscript -/
def PlainIx (b : Expr) : Prop := ∀ o i, subscripted b false o i = operate [o, i] (getItem o i)
/-- a subscript by values -/
def IxR (X : Cx) (r : R2) : Prop :=
  ∀ (value slice : Expr) (pins : List (Addr × Obj)) (s : Shared) (σ : St) (H : Hp) (x y : V) (v u : Value) (Q : VK), Inv X pins σ H s → RelV x v → RelV y u → r x y H Q →
    subscripted slice false v u = operate [v, u] (getItem v u) → wpAny (model X.prog X.w) X.A (subscriptTail value slice v u) (EP X pins σ Q) X.xe s
/-- a call of a builtin's method by values: the receiver, the arguments -/
def MtR (X : Cx) (id : String) (r : V → List V → Hp → VK → Prop) : Prop :=
  ∀ (pins : List (Addr × Obj)) (s : Shared) (σ : St) (H : Hp) (x : V) (xs : List V) (v : Value) (us : List Value) (Q : VK), Inv X pins σ H s → RelV x v → Vals xs us → r x xs H Q →
    wpAny (model X.prog X.w) X.A (call (.builtin id) (v :: us)) (EP X pins σ Q) X.xe s
section
variable {X : Cx} {a b : Expr} {ta tb : TE} {pos : Pos}
/-- a[b] -/
theorem pe_ix {r : R2} (hr : IxR X r) (ha : PE X a ta) (hb : PE X b tb) (hs : PlainIx b) : PE X (.Subscript a b pos) (tOp r ta tb) := by
  intro pins s σ H Q I h
  exact Subscript_ (binT ha hb I h fun v u s2 x y H2 I2 rx ry q => hr a b pins s2 σ H2 x y v u Q I2 rx ry q (hs _ _))

def rIxL (K : PySem.W.Frag) : R2 := fun x y H Q => ∃ p xs i v, x = .ref p ∧ y = .int i ∧ SqL K H p xs ∧ atI xs i = some v ∧ Q v H
def rIxT (K : PySem.W.Frag) : R2 := fun x y H Q => ∃ p xs i v, x = .ref p ∧ y = .int i ∧ SqT K H p xs ∧ atI xs i = some v ∧ Q v H
def rIxS : R2 := fun x y H Q => ∃ z i c, x = .str z ∧ y = .int i ∧ z.length ≤ sizeLine ∧ atI z.cps.toList i = some c ∧ Q (.str ⟨#[c]⟩) H
theorem ix_list : IxR X (rIxL X.K) := by
  intro value slice pins s σ H x y v u Q I rx ry h hs
  obtain ⟨p, xs, i, z, rfl, rfl, hq, he, q⟩ := h
  cases rx
  obtain ⟨t, rfl⟩ := ry
  obtain ⟨its, r, pl, hz⟩ := I.list hq
  obtain ⟨j, h1, h2, h3, h4, h5⟩ := atI_get he
  obtain ⟨w, ew, rw'⟩ := r.get h2
  have hl := r.length
  have hn := line63
  have fin : EP X pins σ Q w s := ⟨z, H, I, rw', q⟩
  by_cases h0 : 0 ≤ i
  · have hj : i.toNat = j := by
      rw [seqIndex_of h0 h5] at h1
      exact Option.some.inj h1
    exact item_listR pl.isList h0 (by omega) (by rw [hj]; simpa using ew) fin hs
  · have hj : (i + (its.toArray.size : Int)).toNat = j := by
      rw [seqIndex_neg (by omega) h4] at h1
      rw [List.size_toArray, ← hl]
      exact Option.some.inj h1
    exact subscriptTail_builtinR (x := w) pl.isList.typeIs slot_list_getitem.lookup
      (wpAny_getItem_list_neg (Q := fun r s' => r = w ∧ EP X pins σ Q r s') pl.isList (by omega) (by rw [List.size_toArray] <;> omega) (by omega) (by rw [hj]; simpa using ew) ⟨rfl, fin⟩) hs
/-- list, tuple or str -/
def rIx (K : PySem.W.Frag) : R2 := fun x y H Q => rIxL K x y H Q ∨ rIxT K x y H Q ∨ rIxS x y H Q
/-! ### xs[i] = v, any sign -/
/-- the list's object behind a store -/
theorem mapSeq_set (its : List Value) (n j : Nat) (u : Value) : Obj.mapSeq (·.setIfInBounds j u) { cls := .type "list", data := .seq its.toArray n } = { cls := .type "list", data := .seq (its.set j u).toArray n } := by
  simp [Obj.mapSeq]
theorem Inv.lst {pins : List (Addr × Obj)} {σ : St} {H : Hp} {s : Shared} {p : Addr} {xs : List V} (I : Inv X pins σ H s) (h : H p = some (.lst xs)) :
    ∃ (its : List Value) (n : Nat), Vals xs its ∧ s.heap.get? p = some { cls := .type "list", data := .seq its.toArray n } ∧ xs.length ≤ sizeLine := by
  obtain ⟨z, its, n, r, e⟩ := I.hok p _ h
  exact ⟨its, n, r, e, z⟩
/-- the list at p is written by an update of its object -/
theorem Inv.lstUpd {pins : List (Addr × Obj)} {σ : St} {H : Hp} {s : Shared} {p : Addr} {xs ys : List V} {its its' : List Value} {n n' : Nat} {f : Obj → Obj} (I : Inv X pins σ H s) (h : H p = some (.lst xs))
    (ho : s.heap.get? p = some { cls := .type "list", data := .seq its.toArray n }) (hf : f { cls := .type "list", data := .seq its.toArray n } = { cls := .type "list", data := .seq its'.toArray n' }) (r : Vals ys its') (hz : ys.length ≤ sizeLine) (t : Nat) :
    Inv X pins σ (upd H p (.lst ys)) { s with heap := s.heap.update p f, toks := t } := by
  have e : (s.heap.update p f).get? p = some { cls := .type "list", data := .seq its'.toArray n' } := by
    rw [Heap.get?_update_self f ho (by rw [hf] <;> rfl), hf]
  refine I.write (x := p) (e := p) (by rw [h]; trivial) (.inl rfl) (fun b u hb q => (Heap.get?_update_other _ _ (Ne.symm hb)).trans q) ⟨_, e⟩ ?_
  exact ⟨hz, its', n', r, e⟩
def rSetL : V → V → V → Hp → (Hp → Prop) → Prop := fun o i v H Q => ∃ p xs k j, o = .ref p ∧ i = .int k ∧ H p = some (.lst xs) ∧ ixN xs.length k = some j ∧ Q (upd H p (.lst (xs.set j v)))
theorem set_list : PSet X rSetL := by
  intro pins s σ H o i v ov iv u Q I ro ri rv h
  obtain ⟨p, xs, k, j, rfl, rfl, hp, hj, q⟩ := h
  cases ro
  obtain ⟨t, rfl⟩ := ri
  obtain ⟨its, n, r, ho, hz⟩ := I.lst hp
  obtain ⟨h1, h2, h3, h4⟩ := ixN_seq hj
  have hl := r.length
  have hn := line63
  have I' : Inv X pins σ (upd H p (.lst (xs.set j v))) { s with heap := s.heap.update p (Obj.mapSeq (·.setIfInBounds j u)) } :=
    I.lstUpd hp ho (mapSeq_set its n j u) (r.set rv j) (by rw [List.length_set]; exact hz) s.toks
  by_cases h0 : 0 ≤ k
  · have hk : k.toNat = j := by
      rw [seqIndex_of h0 h4] at h1
      exact Option.some.inj h1
    exact PySem.W.ki_setAt ho h0 (by omega) (by rw [List.size_toArray, ← hl]; exact h4) (by rw [hk]; exact ⟨_, I', q⟩)
  · have hk : (k + (its.toArray.size : Int)).toNat = j := by
      rw [seqIndex_neg (by omega) h3] at h1
      rw [List.size_toArray, ← hl]
      exact Option.some.inj h1
    exact PySem.W.ki_setBack ho (by omega) (by rw [List.size_toArray, ← hl]; exact h3) (by omega) (by rw [hk]; exact ⟨_, I', q⟩)

/-! ### slices -/
theorem slice_bounds (lo hi : Option Int) (n : Nat) : (sliceBounds lo hi none n).1 = ((HT.sIx n 0 lo : Nat) : Int) ∧ (sliceBounds lo hi none n).2.1 = ((HT.sIx n n hi : Nat) : Int) ∧ (sliceBounds lo hi none n).2.2 = 1 := by
  refine ⟨?_, ?_, rfl⟩
  · cases lo with
    | none => simp [sliceBounds, HT.sIx]
    | some i =>
      simp only [sliceBounds, HT.sIx, Option.getD_none, show (1 : Int) > 0 by decide, if_true]
      by_cases h : i < 0
      · simp only [h, if_true] <;> omega
      · simp only [h, if_false] <;> omega
  · cases hi with
    | none => simp [sliceBounds, HT.sIx]
    | some i =>
      simp only [sliceBounds, HT.sIx, Option.getD_none, show (1 : Int) > 0 by decide, if_true]
      by_cases h : i < 0
      · simp only [h, if_true] <;> omega
      · simp only [h, if_false] <;> omega
theorem slicePick_cut (its : List Value) (lo hi : Option Int) : slicePick its.toArray lo hi none = ((its.drop (HT.sIx its.length 0 lo)).take (HT.sIx its.length its.length hi - HT.sIx its.length 0 lo)).toArray := by
  obtain ⟨h1, h2, h3⟩ := slice_bounds lo hi its.toArray.size
  unfold slicePick
  rw [h1, h2, h3]
  simp only [sliceRange_one, pick_run, List.size_toArray] <;> rfl
/-- xs[lo:hi] of a list: a new list -/
def rSlL (K : PySem.W.Frag) : V → Option Int → Option Int → Hp → VK → Prop := fun x lo hi H Q => ∃ a xs, x = .ref a ∧ SqL K H a xs ∧ ∀ p, H p = none → Q (.ref p) (upd H p (.lst (cutV xs lo hi)))
theorem sl_list : SlR X (rSlL X.K) := by
  intro pins s σ H x v vl vu lo hi sl Q I rx hs pl pu h
  obtain ⟨a, xs, rfl, hx, q⟩ := h
  cases rx
  obtain ⟨its, r, ht, hz⟩ := I.list hx
  have hlen := r.length
  refine ⟨"list", _, slot_list_getitem.lookup, ht.isList.typeIs, ?_⟩
  refine wpAny_getItem_list_slice ht.isList hs pl pu .none (by simp) ?_ (by rw [List.size_toArray] <;> omega)
  rw [slicePick_cut, ← hlen]
  refine ⟨.ref s.heap.objs.size, _, I.laid (t' := s.toks) (o := .lst (cutV xs lo hi)) (fun b ob q => Heap.get?_push_of_some _ q) (Nat.le_refl _) ?_, rfl, q _ (I.hok.fresh (Nat.le_refl _))⟩
  exact ⟨Nat.le_trans (cutV_length xs lo hi) hz, _, 0, (r.drop (HT.sIx xs.length 0 lo)).take (HT.sIx xs.length xs.length hi - HT.sIx xs.length 0 lo), Heap.get?_push_size _ rfl⟩

/-! ### in, not in: flat items -/
def flatV : V → Bool
  | .non => true
  | .bl _ => true
  | .int _ => true
  | .str _ => true
  | _ => false
/-- == of flat values -/
def eqV : V → V → Bool
  | .non, .non => true
  | .bl a, .bl b => a == b
  | .bl a, .int b => (if a then 1 else 0) == b
  | .int a, .bl b => a == (if b then 1 else 0)
  | .int a, .int b => a == b
  | .str a, .str b => a == b
  | _, _ => false
theorem eqAt_V {A : Around} {s : Shared} {y x : V} {u v : Value} (ry : RelV y u) (rx : RelV x v) (fy : flatV y = true) (fx : flatV x = true) : SeqAt.EqAt A s u v (eqV y x) := by
  cases y with
  | non =>
    cases ry
    cases x with
    | non => cases rx; exact SeqAt.EqAt.same _
    | bl b => cases rx; exact SeqAt.EqAt.none_bool b
    | int b => obtain ⟨t, rfl⟩ := rx; exact SeqAt.EqAt.none_int b t
    | str b => obtain ⟨t, rfl⟩ := rx; exact SeqAt.EqAt.none_str b t
    | _ => exact absurd (show false = true from fx) Bool.false_ne_true
  | bl a =>
    cases ry
    cases x with
    | non => cases rx; exact SeqAt.EqAt.bool_none a
    | bl b => cases rx; exact SeqAt.EqAt.bool_bool a b
    | int b => obtain ⟨t, rfl⟩ := rx; exact SeqAt.EqAt.bool_int a b t
    | str b => obtain ⟨t, rfl⟩ := rx; exact SeqAt.EqAt.bool_str a b t
    | _ => exact absurd (show false = true from fx) Bool.false_ne_true
  | int a =>
    obtain ⟨t', rfl⟩ := ry
    cases x with
    | non => cases rx; exact SeqAt.EqAt.int_none a t'
    | bl b => cases rx; exact SeqAt.EqAt.int_bool a t' b
    | int b => obtain ⟨t, rfl⟩ := rx; exact SeqAt.EqAt.int_int a t' b t
    | str b => obtain ⟨t, rfl⟩ := rx; exact SeqAt.EqAt.int_str a t' b t
    | _ => exact absurd (show false = true from fx) Bool.false_ne_true
  | str a =>
    obtain ⟨t', rfl⟩ := ry
    cases x with
    | non => cases rx; exact SeqAt.EqAt.str_none a t'
    | bl b => cases rx; exact SeqAt.EqAt.str_bool a t' b
    | int b => obtain ⟨t, rfl⟩ := rx; exact SeqAt.EqAt.str_int a t' b t
    | str b => obtain ⟨t, rfl⟩ := rx; exact SeqAt.EqAt.str_str a t' b t
    | _ => exact absurd (show false = true from fx) Bool.false_ne_true
  | _ => exact absurd (show false = true from fy) Bool.false_ne_true
/-- the items' answers, read off the values (a value's own answer does not lean on its token) -/
def eqU (x : V) (u : Value) : Bool := match u with
  | .none => eqV .non x
  | .bool b => eqV (.bl b) x
  | .int i _ => eqV (.int i) x
  | .str z _ => eqV (.str z) x
  | _ => false
theorem eqU_of {x y : V} {u : Value} (r : RelV y u) (f : flatV y = true) : eqU x u = eqV y x := by
  cases y with
  | non => cases r; rfl
  | bl b => cases r; rfl
  | int i => obtain ⟨t, rfl⟩ := r; rfl
  | str z => obtain ⟨t, rfl⟩ := r; rfl
  | _ => exact absurd (show false = true from f) Bool.false_ne_true
theorem any_eqU {x : V} : ∀ {xs : List V} {us : List Value}, Vals xs us → xs.all flatV = true → us.any (eqU x) = xs.any fun y => eqV y x
  | _, _, .nil, _ => rfl
  | y :: xs, u :: us, .cons r t, f => by
    rw [List.all_cons, Bool.and_eq_true] at f
    rw [List.any_cons, List.any_cons, eqU_of r f.1, any_eqU t f.2]
theorem mem_eqAt {A : Around} {s : Shared} {x : V} {v : Value} (rx : RelV x v) (fx : flatV x = true) : ∀ {xs : List V} {us : List Value}, Vals xs us → xs.all flatV = true → ∀ u ∈ us, SeqAt.EqAt A s u v (eqU x u)
  | _, _, .nil, _ => fun u hu => by cases hu
  | y :: xs, u :: us, .cons r t, f => fun u' hu => by
    rw [List.all_cons, Bool.and_eq_true] at f
    rcases List.mem_cons.mp hu with rfl | hu
    · rw [eqU_of r f.1]; exact eqAt_V r rx f.1 fx
    · exact mem_eqAt rx fx t f.2 u' hu
def inV (x : V) (xs : List V) : Bool := xs.any fun y => eqV y x
/-- x in a list or tuple of flat items -/
def rIn (K : PySem.W.Frag) (neg : Bool) : R2 := fun x y H Q => ∃ p xs, y = .ref p ∧ (SqL K H p xs ∨ SqT K H p xs) ∧ flatV x = true ∧ xs.all flatV = true ∧ Q (.bl (if neg then !inV x xs else inV x xs)) H
theorem op_in_seq : OpR X (compareOp .In) (rIn X.K false) := by
  intro pins s σ H x y v u Q I rx ry h
  obtain ⟨p, xs, rfl, hq, fx, fs, q⟩ := h
  cases ry
  rcases hq with hq | hq
  · obtain ⟨its, r, pl, hz⟩ := I.list hq
    refine SeqAt.in_listAt (eqU x) pl.isList (fun w hw => mem_eqAt rx fx r fs w (by simpa using hw)) ⟨.bl _, H, I, rfl, ?_⟩
    rw [show its.toArray.any (eqU x) = its.any (eqU x) by simp, any_eqU r fs]
    exact q
  · obtain ⟨its, r, pl, hz⟩ := I.tuple hq
    refine SeqAt.in_tupleAt (eqU x) pl (fun w hw => mem_eqAt rx fx r fs w (by simpa using hw)) ⟨.bl _, H, I, rfl, ?_⟩
    rw [show its.toArray.any (eqU x) = its.any (eqU x) by simp, any_eqU r fs]
    exact q
/-! ### len, list(x), tuple(x) of any list or tuple that is read -/
theorem call_len_seq : CallR X (.builtin "len") (fun xs H Q => ∃ p ys, xs = [.ref p] ∧ (SqL X.K H p ys ∨ SqT X.K H p ys) ∧ Q (.int ys.length) H) := by
  intro pins s σ H xs us Q I r h
  obtain ⟨p, ys, rfl, hq, q⟩ := h
  obtain ⟨u, rfl, rx⟩ := vals1 r
  cases rx
  have hn := line63
  rcases hq with hq | hq
  · obtain ⟨its, r', pl, hz⟩ := I.list hq
    have hlen := r'.length
    exact Calls.call_len_list pl.isList (by simp only [List.size_toArray] <;> omega) ⟨.int ys.length, H, I.tok _, ⟨s.toks + 1, by rw [List.size_toArray, hlen]⟩, q⟩
  · obtain ⟨its, r', pl, hz⟩ := I.tuple hq
    have hlen := r'.length
    exact len_tuple pl (by simp only [List.size_toArray] <;> omega) ⟨.int ys.length, H, I.tok _, ⟨s.toks + 1, by rw [List.size_toArray, hlen]⟩, q⟩
theorem call_list_of : CallR X (.type "list") (fun xs H Q => ∃ p ys, xs = [.ref p] ∧ (SqL X.K H p ys ∨ SqT X.K H p ys) ∧ ∀ l, H l = none → Q (.ref l) (upd H l (.lst ys))) := by
  intro pins s σ H xs us Q I r h
  obtain ⟨p, ys, rfl, hq, q⟩ := h
  obtain ⟨u, rfl, rx⟩ := vals1 r
  cases rx
  have fin : ∀ (its : List Value), Vals ys its → ys.length ≤ sizeLine → ∀ (h' : Heap) (c' : Nat), (∀ b o', s.heap.get? b = some o' → h'.get? b = some o') →
      h'.get? s.heap.objs.size = some { cls := .type "list", dict := none, data := .seq its.toArray c', slots := #[] } → EP X pins σ Q (.ref s.heap.objs.size) { s with heap := h' } := fun its r' hz h' c' kp e =>
    ⟨.ref s.heap.objs.size, _, I.laid (t' := s.toks) kp (Nat.le_refl _) (show ObjOk X.prog X.w _ h' _ (.lst ys) from ⟨hz, its, c', r', e⟩), rfl, q _ (I.hok.fresh (Nat.le_refl _))⟩
  rcases hq with hq | hq
  · obtain ⟨its, r', pl, hz⟩ := I.list hq
    have hlen := r'.length
    obtain ⟨o, ho, hc, n, hd⟩ := pl.isList
    exact call_list_seq p (.inl rfl) ho hc hd (fun h' c' kp e => fin its r' hz h' c' kp e) (by simp only [List.size_toArray] <;> omega)
  · obtain ⟨its, r', pl, hz⟩ := I.tuple hq
    have hlen := r'.length
    obtain ⟨o, ho, hc, n, hd⟩ := pl
    exact call_list_seq p (.inr rfl) ho hc hd (fun h' c' kp e => fin its r' hz h' c' kp e) (by simp only [List.size_toArray] <;> omega)
/-! ### the call of a builtin's method: o.m(..) -/
/-- the value is of that builtin type -/
def tyV (K : PySem.W.Frag) (T : String) (x : V) (H : Hp) : Prop := match x with
  | .str _ => T = "str"
  | .int _ => T = "int"
  | .ref p => (T = "list" ∧ ∃ xs, SqL K H p xs) ∨ (T = "tuple" ∧ ∃ o, K.lookup p = some o ∧ o.cls = .type "tuple" ∧ o.dict = none) ∨
      (T = "dict" ∧ ((∃ kvs, H p = some (.dK kvs)) ∨ ∃ kvs, H p = some (.dT kvs))) ∨ (T = "set" ∧ ∃ S n, H p = some (.set S n))
  | _ => False
theorem tyV_is {pins : List (Addr × Obj)} {σ : St} {H : Hp} {s : Shared} {T : String} {x : V} {v : Value} (I : Inv X pins σ H s) (r : RelV x v) (ty : tyV X.K T x H) :
    s.TypeIs v T ∧ ∀ a, v = .ref a → ∃ ob, s.heap.get? a = some ob ∧ ob.dict = none := by
  cases x with
  | str z =>
    obtain ⟨t, rfl⟩ := r
    cases (show T = "str" from ty)
    exact ⟨typeIs_str s z t, fun _ e => nomatch e⟩
  | int i =>
    obtain ⟨t, rfl⟩ := r
    cases (show T = "int" from ty)
    exact ⟨typeIs_int s i t, fun _ e => nomatch e⟩
  | ref p =>
    cases r
    rcases ty with ⟨rfl, xs, hq⟩ | ⟨rfl, o, hk, hc, hd⟩ | ⟨rfl, hk⟩ | ⟨rfl, S, n, hk⟩
    · obtain ⟨its, _, pl, _⟩ := I.list hq
      refine ⟨pl.isList.typeIs, fun a e => ?_⟩
      cases e
      obtain ⟨o, n, e, c, hd, _⟩ := pl
      exact ⟨o, e, hd⟩
    · refine ⟨⟨o, I.kIn p o hk, hc⟩, fun a e => ?_⟩
      cases e
      exact ⟨o, I.kIn _ o hk, hd⟩
    · have z : ∃ o, s.heap.get? p = some o ∧ o.ExactDict := by
        rcases hk with ⟨kvs, hk⟩ | ⟨kvs, hk⟩
        · obtain ⟨_, _, _, _, o, _, _, e, ex, _⟩ := I.hok p _ hk
          exact ⟨o, e, ex⟩
        · obtain ⟨_, _, _, _, o, _, _, e, ex, _⟩ := I.hok p _ hk
          exact ⟨o, e, ex⟩
      obtain ⟨o, e, ex⟩ := z
      refine ⟨⟨o, e, ex.1⟩, fun a e2 => ?_⟩
      cases e2
      exact ⟨o, e, ex.2.1⟩
    · obtain ⟨o, _, _, _, e, ex, _⟩ := I.hok p _ hk
      refine ⟨⟨o, e, ex.1⟩, fun a e2 => ?_⟩
      cases e2
      exact ⟨o, e, ex.2.1⟩
  | _ => exact False.elim ty
def tBM0 (K : PySem.W.Frag) (T : String) (r : V → List V → Hp → VK → Prop) (to : TE) : TE := fun σ H Q => to σ H fun x H1 => tyV K T x H1 ∧ r x [] H1 Q
def tBM (K : PySem.W.Frag) (T : String) (r : V → List V → Hp → VK → Prop) (to : TE) (t : TA) : TE := fun σ H Q => to σ H fun x H1 => tyV K T x H1 ∧ t σ H1 fun xs H2 => r x xs H2 Q
variable {o e : Expr} {es : List Expr} {to : TE} {t : TA} {name : Str} {apos cpos : Pos} {T id : String} {r : V → List V → Hp → VK → Prop}
theorem pe_bm0 (pa : PlainAttrs T) (slot : Slot T name id) (hty : typeOf (.builtin id) = pure (.type "method_descriptor")) (hm : MtR X id r) (ho : PE X o to)
    (hbase : attributeBase o name X.env (eval o X.env) = eval o X.env := by rfl) (hline : (apos.endLine == cpos.line) = true := by rfl) : PE X (.Call (.Attribute o name apos) [] [] cpos) (tBM0 X.K T r to) := by
  intro pins s σ H Q I h
  refine wpAny_Call_method0_late hbase hline (thn (ho pins s σ H _ I h) fun v s1 ⟨x, H1, I1, r1, ty, q1⟩ => ?_)
  obtain ⟨h1, h2⟩ := tyV_is I1 r1 ty
  exact ⟨T, id, pa, slot, hty, h1, h2, Calls.callWith_builtin rfl (PySem.evalArgs_none (hm pins s1 σ H1 x [] v [] Q I1 r1 .nil q1))⟩
theorem pe_bm (pa : PlainAttrs T) (slot : Slot T name id) (hty : typeOf (.builtin id) = pure (.type "method_descriptor")) (hm : MtR X id r) (ho : PE X o to) (ha : PA X (e :: es) t)
    (hbase : attributeBase o name X.env (eval o X.env) = eval o X.env := by rfl)
    (hfew : ((backTo cpos (starEach (e :: es) X.env)).all (fun x => !x.1) && (backToKw cpos (keywordEach [] X.env)).all (fun x => x.1.isSome)
      && decide ((e :: es).length + ([] : List Keyword).length + (if ([] : List Keyword).isEmpty then 0 else 1) < 30)) = true := by rfl)
    (hline : (apos.endLine == cpos.line) = true := by rfl) (hs : starEach (e :: es) X.env = (false, eval e X.env) :: starEach es X.env := by rfl) (hplain : (backTo cpos (starEach es X.env)).any (·.1) = false := by rfl) :
    PE X (.Call (.Attribute o name apos) (e :: es) [] cpos) (tBM X.K T r to t) := by
  intro pins s σ H Q I h
  refine wpAny_Call_method_late hbase hfew hline rfl (thn (ho pins s σ H _ I h) fun v s1 ⟨x, H1, I1, r1, ty, q1⟩ => ?_)
  obtain ⟨h1, h2⟩ := tyV_is I1 r1 ty
  refine ⟨T, id, pa, slot, hty, h1, h2, ?_⟩
  have hA := ha cpos pins s1 σ H1 _ I1 q1
  rw [hs] at hA ⊢
  refine Calls.callWith_builtin (by show (false || (backTo cpos (starEach es X.env)).any (·.1)) = false; rw [hplain] <;> rfl) (Calls.evalArgs_plain ?_)
  exact thn hA fun us s2 ⟨vs, H2, I2, r2, q2⟩ => hm pins s2 σ H2 x vs v us Q I2 r1 r2 q2
/- xs.append(e), list.index on a module's tuple .. are MtR facts of 06m -/
end
end L2

namespace L2
open PySem PySem.Spec PyProof.Rows

def MtM (X : Cx) (id : String) (r : V → List V → Hp → VK → Prop) : Prop :=
  ∀ (pins : List (Addr × Obj)) (s : Shared) (σ : St) (H : Hp) (x : V) (xs : List V) (v : Value) (us : List Value) (Q : VK), Inv X pins σ H s → RelV x v → Vals xs us → r x xs H Q →
    wpAny (model X.prog X.w) X.A (call (.builtin id) (v :: us)) (EP X pins σ Q) X.xe s

/-! ### lists of values -/
theorem Vals.one : ∀ {x : V} {us : List Value}, Vals [x] us → ∃ u, us = [u] ∧ RelV x u
  | _, _, .cons r .nil => ⟨_, rfl, r⟩
theorem Vals.zero : ∀ {us : List Value}, Vals [] us → us = []
  | _, .nil => rfl
theorem Vals.rep {xs : List V} {us : List Value} (h : Vals xs us) : ∀ k : Nat, Vals (List.replicate k xs).flatten (List.replicate k us).flatten
  | 0 => .nil
  | k + 1 => by
    rw [List.replicate_succ, List.replicate_succ, List.flatten_cons, List.flatten_cons]
    exact Vals.append h (Vals.rep h k)
theorem foldl_rep (its : List Value) : ∀ (k : Nat) (acc : List Value),
    List.foldl (fun x1 x2 => x1 ++ x2) acc.toArray (List.replicate k its.toArray) = (acc ++ (List.replicate k its).flatten).toArray
  | 0, acc => by simp
  | k + 1, acc => by
    have e : acc.toArray ++ its.toArray = (acc ++ its).toArray := by simp
    have e2 : (acc ++ its) ++ (List.replicate k its).flatten = acc ++ (List.replicate (k + 1) its).flatten := by
      rw [List.replicate_succ, List.flatten_cons, List.append_assoc]
    rw [← e2, ← foldl_rep its k (acc ++ its), ← e, List.replicate_succ, List.foldl_cons]

section
variable {X : Cx} {pins : List (Addr × Obj)} {σ : St} {H : Hp} {s : Shared} {l b : Addr} {xs ys zs : List V}

/-! ### the two steps: a tracked list is rewritten, a new list is laid -/
theorem Inv.lset {its its' : List Value} {n : Nat} {f : Array Value → Array Value} {t' : Nat} (I : Inv X pins σ H s) (hH : H l = some (.lst xs))
    (e : s.heap.get? l = some { cls := .type "list", data := .seq its.toArray n }) (hf : f its.toArray = its'.toArray) (hv : Vals ys its') (hz : ys.length ≤ sizeLine) :
    Inv X pins σ (upd H l (.lst ys)) { s with heap := s.heap.update l (Obj.mapSeq f), toks := t' } := by
  have q := PySem.IsL.update e f
  rw [hf] at q
  refine I.write (x := l) (e := l) (by rw [hH]; exact trivial) (.inl rfl) (fun b' u hb hu => (Heap.get?_update_other s.heap (Obj.mapSeq f) (Ne.symm hb)).trans hu) ⟨_, q⟩ ?_
  exact ⟨hz, its', _, hv, q⟩
theorem Inv.lnew {its : List Value} {t' : Nat} (I : Inv X pins σ H s) (hv : Vals ys its) (hz : ys.length ≤ sizeLine) :
    Inv X pins σ (upd H s.heap.objs.size (.lst ys)) { s with heap := s.heap.push { cls := .type "list", data := .seq its.toArray }, toks := t' } :=
  I.laid (fun _ _ q => Heap.get?_push_of_some _ q) (Nat.le_refl _) ⟨hz, its, 0, hv, Heap.get?_push_size _ rfl⟩
theorem Inv.fresh (I : Inv X pins σ H s) : H s.heap.objs.size = none := I.hok.fresh (Nat.le_refl _)
theorem Inv.lstM (I : Inv X pins σ H s) (hH : H l = some (.lst xs)) : xs.length ≤ sizeLine ∧ ∃ (its : List Value) (n : Nat), Vals xs its ∧ xs.length = its.length ∧ s.heap.get? l = some { cls := .type "list", data := .seq its.toArray n } := by
  obtain ⟨z, its, n, r, e⟩ := I.hok l _ hH
  exact ⟨z, its, n, r, r.length, e⟩

theorem notLongL {n : Nat} (h : n ≤ sizeLine) : Builtin.List.listTooLong n = false := by
  unfold Builtin.List.listTooLong
  exact decide_eq_false (by omega)
end

section
variable {X : Cx}

/-! ### methods -/
def rAppend : V → List V → Hp → VK → Prop := fun x vs H Q => ∃ l xs y, x = .ref l ∧ vs = [y] ∧ H l = some (.lst xs) ∧ xs.length < sizeLine ∧ Q .non (upd H l (.lst (xs ++ [y])))
theorem mt_append : MtM X "list.append" rAppend := by
  intro pins s σ H x vs v us Q I rx rv h
  obtain ⟨l, xs, y, rfl, rfl, hH, hz, q⟩ := h
  cases rx
  obtain ⟨u, rfl, ru⟩ := rv.one
  obtain ⟨z, its, n, r, hl, e⟩ := I.lstM hH
  refine call_meets F.slot_list_append ⟨_, e, rfl⟩ F.entry_list_append (F.args_list_append_2 _ _) (PySem.list_append l its.toArray n u (by rw [List.size_toArray]; omega)) ⟨e, ?_⟩
  refine ⟨.non, _, I.lset (its' := its ++ [u]) hH e (by simp) (r.append (.cons ru .nil)) ?_, rfl, q⟩
  rw [List.length_append, List.length_singleton]
  omega

def rExtend : V → List V → Hp → VK → Prop := fun x vs H Q => ∃ l b xs zs, x = .ref l ∧ vs = [.ref b] ∧ H l = some (.lst xs) ∧ H b = some (.lst zs) ∧ xs.length + zs.length ≤ sizeLine ∧ Q .non (upd H l (.lst (xs ++ zs)))
def rPop : V → List V → Hp → VK → Prop := fun x vs H Q => ∃ l xs y, x = .ref l ∧ vs = [] ∧ H l = some (.lst xs) ∧ xs[xs.length - 1]? = some y ∧ Q y (upd H l (.lst xs.dropLast))
def rPopAt : V → List V → Hp → VK → Prop := fun x vs H Q => ∃ l xs i k y, x = .ref l ∧ vs = [.int i] ∧ H l = some (.lst xs) ∧ -(2 ^ 63) ≤ i ∧ i < 2 ^ 63 ∧ seqIndex? i xs.length = some k ∧ xs[k]? = some y ∧ Q y (upd H l (.lst (xs.eraseIdx k)))
def rReverse : V → List V → Hp → VK → Prop := fun x vs H Q => ∃ l xs, x = .ref l ∧ vs = [] ∧ H l = some (.lst xs) ∧ Q .non (upd H l (.lst xs.reverse))
def rClear : V → List V → Hp → VK → Prop := fun x vs H Q => ∃ l xs, x = .ref l ∧ vs = [] ∧ H l = some (.lst xs) ∧ Q .non (upd H l (.lst []))
theorem mt_clear : MtM X "list.clear" rClear := by
  intro pins s σ H x vs v us Q I rx rv h
  obtain ⟨l, xs, rfl, rfl, hH, q⟩ := h
  cases rx
  have hus := rv.zero
  subst hus
  obtain ⟨z, its, n, r, hl, e⟩ := I.lstM hH
  refine call_meets F.slot_list_clear ⟨_, e, rfl⟩ F.entry_list_clear (F.args_list_clear_1 _) (AutoSeq1.list_clear_list_0 l its.toArray n (by rw [List.size_toArray]; omega)) ⟨e, ?_⟩
  exact ⟨.non, _, I.lset (its' := []) (ys := []) hH e rfl .nil (Nat.zero_le _), rfl, q⟩

/-! ### list + list, list += list, list * int -/
def rCat : R2 := fun x y H Q => ∃ l b xs zs, x = .ref l ∧ y = .ref b ∧ H l = some (.lst xs) ∧ H b = some (.lst zs) ∧ xs.length + zs.length ≤ sizeLine ∧ ∀ p, H p = none → Q (.ref p) (upd H p (.lst (xs ++ zs)))
theorem op_cat : OpR X (binaryOp .Add) rCat := by
  intro pins s σ H x y v u Q I rx ry h
  obtain ⟨l, b, xs, zs, rfl, rfl, hH, hB, hz, q⟩ := h
  cases rx
  cases ry
  obtain ⟨z, its, n, r, hl, e⟩ := I.lstM hH
  obtain ⟨z2, its2, n2, r2, hl2, e2⟩ := I.lstM hB
  refine PySem.P.add_list e e2 ?_ (by rw [List.size_toArray, List.size_toArray]; omega)
  have ea : its.toArray ++ its2.toArray = (its ++ its2).toArray := by simp
  rw [ea]
  exact ⟨.ref _, _, I.lnew (t' := s.toks) (r.append r2) (by rw [List.length_append]; omega), rfl, q _ I.fresh⟩
/-- a list times an int (a negative one is nothing) -/
def rRep : R2 := fun x y H Q => ∃ l k xs, x = .ref l ∧ y = .int k ∧ H l = some (.lst xs) ∧ -(2 ^ 63) ≤ k ∧ k < 2 ^ 63 ∧ xs.length * k.toNat ≤ sizeLine ∧
  ∀ p, H p = none → Q (.ref p) (upd H p (.lst (List.replicate k.toNat xs).flatten))
theorem len_rep {α : Type} (xs : List α) (k : Nat) : (List.replicate k xs).flatten.length = k * xs.length := by
  induction k with
  | zero => simp
  | succ k ih => rw [List.replicate_succ, List.flatten_cons, List.length_append, ih, Nat.succ_mul, Nat.add_comm]
theorem op_rep : OpR X (binaryOp .Mult) rRep := by
  intro pins s σ H x y v u Q I rx ry h
  obtain ⟨l, k, xs, rfl, rfl, hH, h1, h2, hz, q⟩ := h
  cases rx
  obtain ⟨t, rfl⟩ := ry
  obtain ⟨z, its, n, r, hl, e⟩ := I.lstM hH
  have hlen : its.toArray.size * k.toNat ≤ sizeLine := by rw [List.size_toArray, ← hl]; exact hz
  have hcap : ¬ its.toArray.size * k.toNat > (2 ^ 63 - 1) / 8 := by
    have : (sizeLine : Nat) ≤ (2 ^ 63 - 1) / 8 := by decide
    omega
  have hfit : ¬ (!Builtin.List.listFitsIndex k) = true := by
    rw [fitsIndex_both h1 h2]
    exact Bool.false_ne_true
  have hlong : ¬ Builtin.List.listTooLong (its.toArray.size * k.toNat) = true := by
    rw [notLongL hlen]
    exact Bool.false_ne_true
  have hnew : List.foldl (fun x1 x2 => x1 ++ x2) #[] (List.replicate (if its.toArray.isEmpty = true then 0 else k.toNat) its.toArray) = (List.replicate k.toNat its).flatten.toArray := by
    have f0 : ∀ m : Nat, List.foldl (fun x1 x2 => x1 ++ x2) #[] (List.replicate m its.toArray) = (List.replicate m its).flatten.toArray := fun m => by
      have := foldl_rep its m []
      rw [List.nil_append] at this
      exact this
    rw [f0]
    cases its with
    | nil => simp
    | cons a r' => rw [if_neg (by simp)]
  refine wpAny_binaryOp_repeat_ref (T := "list") (U := "int") (by decide) ⟨_, e, rfl⟩ (fun s' => typeIs_int s' k t) noFill_list_mul F.fills_int_mul F.slot_int_rmul repeat_list F.slot_int_index.lookup
    (call_meets F.slot_int_rmul (typeIs_int s k t) F.entry_int_rmul (F.args_int_rmul_2 _ _) (int___rmul___int_list k t l its.toArray n)
      ⟨e, rfl, ⟨_, e, rfl⟩, call_meets F.slot_list_mul ⟨_, e, rfl⟩ F.entry_list_mul (F.args_list_mul_2 _ _) (AutoListH.list___mul___list_int_3 l its.toArray n k t hfit hcap hlong) ⟨e, ?_⟩⟩)
  rw [hnew]
  exact ⟨.ref _, _, I.lnew (t' := s.toks) (r.rep k.toNat) (by rw [len_rep, Nat.mul_comm]; exact hz), rfl, q _ I.fresh⟩

/-! ### del xs[i] -/
end

/-! ### xs[a:b] = ys -/
section
variable {prog : Program} {w : World} {A : Around} {E : Value → Shared → Prop} {s : Shared}
set_option maxRecDepth 100000 in
end

section
variable {X : Cx}
end
end L2


namespace L2
open PySem PySem.Spec PyProof.Rows

/-! ### lists of pairs as tables -/
section
variable {κ : Type} [DecidableEq κ]
def valV (kvs : List (κ × V)) (k : κ) : Option V := (kvs.find? fun kv => decide (kv.1 = k)).map (·.2)
/-- in its place, or at the end -/
def putK (kvs : List (κ × V)) (k : κ) (v : V) : List (κ × V) :=
  if (kvs.any fun kv => decide (kv.1 = k)) = true then kvs.map (fun kv => if kv.1 = k then (kv.1, v) else kv) else kvs ++ [(k, v)]
def dropK (kvs : List (κ × V)) (k : κ) : List (κ × V) := kvs.filter fun kv => decide (kv.1 ≠ k)

theorem valV_pos {p : κ × V} {r : List (κ × V)} {k : κ} (e : p.1 = k) : valV (p :: r) k = some p.2 := by simp [valV, List.find?_cons, e]
theorem valV_neg {p : κ × V} {r : List (κ × V)} {k : κ} (e : ¬ p.1 = k) : valV (p :: r) k = valV r k := by simp [valV, List.find?_cons, e]
theorem valV_any (k : κ) : ∀ kvs : List (κ × V), (kvs.any fun kv => decide (kv.1 = k)) = (valV kvs k).isSome
  | [] => rfl
  | p :: r => by
    rw [List.any_cons]
    by_cases e : p.1 = k
    · simp only [valV_pos e, decide_eq_true e, Bool.true_or, Option.isSome_some]
    · rw [valV_neg e, decide_eq_false e, Bool.false_or]; exact valV_any k r
theorem length_putK (kvs : List (κ × V)) (k : κ) (v : V) : (putK kvs k v).length ≤ kvs.length + 1 := by
  unfold putK
  split
  · rw [List.length_map]; omega
  · rw [List.length_append, List.length_cons, List.length_nil]; omega
theorem putK_new {kvs : List (κ × V)} {k : κ} (v : V) (h : valV kvs k = none) : putK kvs k v = kvs ++ [(k, v)] := by
  unfold putK
  rw [valV_any, h]
  exact if_neg (by decide)

theorem RelO.isSome_eq {o : Option V} {u : Option Value} (r : RelO o u) : o.isSome = u.isSome := by
  cases o with
  | none => cases u with
    | none => rfl
    | some _ => exact (show False from r).elim
  | some _ => cases u with
    | none => exact (show False from r).elim
    | some _ => rfl
theorem RelO.getD {o : Option V} {u : Option Value} {d : V} {d' : Value} (r : RelO o u) (rd : RelV d d') : RelV (o.getD d) (u.getD d') := by
  cases o with
  | none => cases u with
    | none => exact rd
    | some _ => exact (show False from r).elim
  | some _ => cases u with
    | none => exact (show False from r).elim
    | some _ => exact r

/-- raw tables of the same keys -/
theorem KV.val {kvs : List (κ × V)} {vs : List (κ × Value)} (r : KV kvs vs) (k : κ) : RelO (valV kvs k) (valueAt vs k) := by
  unfold KV at r
  induction r with
  | nil => exact True.intro
  | @cons p q ps qs h t ih =>
    obtain ⟨h1, h2⟩ := h
    by_cases e : p.1 = k
    · have e' : q.1 = k := h1.symm.trans e
      have b : valueAt (q :: qs) k = some q.2 := by simp [valueAt, List.find?_cons, e']
      rw [valV_pos e, b]; exact h2
    · have e' : ¬ q.1 = k := fun z => e (h1.trans z)
      have b : valueAt (q :: qs) k = valueAt qs k := by simp [valueAt, List.find?_cons, e']
      rw [valV_neg e, b]; exact ih
theorem KV.any {kvs : List (κ × V)} {vs : List (κ × Value)} (r : KV kvs vs) (k : κ) : (kvs.any fun kv => decide (kv.1 = k)) = vs.any fun kv => decide (kv.1 = k) := by
  unfold KV at r
  induction r with
  | nil => rfl
  | cons h t ih => rw [List.any_cons, List.any_cons, ih, h.1]
theorem KV.repl {kvs : List (κ × V)} {vs : List (κ × Value)} (r : KV kvs vs) (k : κ) {y : V} {u : Value} (ry : RelV y u) :
    KV (kvs.map fun kv => if kv.1 = k then (kv.1, y) else kv) (vs.map fun kv => if kv.1 = k then (kv.1, u) else kv) := by
  unfold KV at r ⊢
  induction r with
  | nil => exact .nil
  | @cons p q ps qs h t ih =>
    rw [List.map_cons, List.map_cons]
    refine .cons ?_ ih
    obtain ⟨h1, h2⟩ := h
    by_cases e : p.1 = k
    · rw [if_pos e, if_pos (h1.symm.trans e)]; exact ⟨h1, ry⟩
    · rw [if_neg e, if_neg (fun z => e (h1.trans z))]; exact ⟨h1, h2⟩
theorem KV.put {kvs : List (κ × V)} {vs : List (κ × Value)} (r : KV kvs vs) (k : κ) {y : V} {u : Value} (ry : RelV y u) : KV (putK kvs k y) (stored vs k u) := by
  unfold putK stored
  rw [r.any k]
  by_cases e : (vs.any fun kv => decide (kv.1 = k)) = true
  · rw [if_pos e, if_pos e]; exact r.repl k ry
  · rw [if_neg e, if_neg e]; exact Paired.snoc r ⟨rfl, ry⟩
theorem KV.keys {kvs : List (κ × V)} {vs : List (κ × Value)} (r : KV kvs vs) : kvs.map (·.1) = vs.map (·.1) := by
  unfold KV at r
  induction r with
  | nil => rfl
  | cons h t ih => rw [List.map_cons, List.map_cons, ih, h.1]
theorem KV.length {kvs : List (κ × V)} {vs : List (κ × Value)} (r : KV kvs vs) : kvs.length = vs.length := Paired.length r
end


/-! ### a tracked dict, its keys ints and texts or tuples of these -/
theorem kV_is {P : Program} {w : World} {k : Key} {u : Value} (r : RelV (kV k) u) : (mixKind P w).is k u = true := by
  cases k with
  | inl i => obtain ⟨t, e⟩ := (show ∃ t, u = Value.int i t from r); subst e; exact mixKind_int P w i t
  | inr x => obtain ⟨t, e⟩ := (show ∃ t, u = Value.str x t from r); subst e; exact mixKind_str P w x t
theorem items_are {P : Program} {w : World} : ∀ {ks : List Key} {us : List Value}, Vals (ks.map kV) us → ItemsAre (mixKind P w) ks us
  | [], _, r => by rw [List.map_nil] at r; cases r; exact .nil
  | k :: ks, _, r => by
    rw [List.map_cons] at r
    cases r with
    | cons h t => exact .cons (kV_is h) (items_are t)

/-- raw entries of a dict with tuple keys -/
abbrev KT (H : Hp) : List (List Key × V) → List (List Key × Addr × Value) → Prop := Paired fun p q => p.1 = q.1 ∧ H q.2.1 = some (.tup (p.1.map kV)) ∧ RelV p.2 q.2.2
theorem KT.val {H : Hp} {kvs : List (List Key × V)} {xs : List (List Key × Addr × Value)} (r : KT H kvs xs) (k : List Key) : RelO (valV kvs k) ((atKey xs k).map (·.2)) := by
  induction r with
  | nil => exact True.intro
  | @cons p q ps qs h t ih =>
    obtain ⟨h1, _, h2⟩ := h
    by_cases e : p.1 = k
    · have e' : q.1 = k := h1.symm.trans e
      have b : atKey (q :: qs) k = some q.2 := by simp [atKey, List.find?_cons, e']
      rw [valV_pos e, b]; exact h2
    · have e' : ¬ q.1 = k := fun z => e (h1.trans z)
      have b : atKey (q :: qs) k = atKey qs k := by simp [atKey, List.find?_cons, e']
      rw [valV_neg e, b]; exact ih
theorem KT.repl {H : Hp} {kvs : List (List Key × V)} {xs : List (List Key × Addr × Value)} (r : KT H kvs xs) (k : List Key) {y : V} {u : Value} (ry : RelV y u) :
    KT H (kvs.map fun kv => if kv.1 = k then (kv.1, y) else kv) (xs.map (putAt k u)) := by
  induction r with
  | nil => exact .nil
  | @cons p q ps qs h t ih =>
    rw [List.map_cons, List.map_cons]
    refine .cons ?_ ih
    obtain ⟨h1, h2, h3⟩ := h
    unfold putAt
    by_cases e : p.1 = k
    · rw [if_pos e, if_pos (h1.symm.trans e)]; exact ⟨h1, h2, ry⟩
    · rw [if_neg e, if_neg (fun z => e (h1.trans z))]; exact ⟨h1, h2, h3⟩
theorem KT.put {H : Hp} {kvs : List (List Key × V)} {xs : List (List Key × Addr × Value)} (r : KT H kvs xs) (k : List Key) {b : Addr} {y : V} {u : Value} (hb : H b = some (.tup (k.map kV))) (ry : RelV y u) :
    KT H (putK kvs k y) (storedH xs k b u) := by
  have e : (kvs.any fun kv => decide (kv.1 = k)) = (atKey xs k).isSome := by
    rw [valV_any, (r.val k).isSome_eq, Option.isSome_map]
  unfold putK storedH
  rw [e]
  by_cases q : (atKey xs k).isSome = true
  · rw [if_pos q, if_pos q]; exact r.repl k ry
  · rw [if_neg q, if_neg q]; exact Paired.snoc r ⟨rfl, hb, ry⟩
theorem KT.keeps {H H' : Hp} {kvs : List (List Key × V)} {xs : List (List Key × Addr × Value)} (r : KT H kvs xs) (ht : ∀ b ys, H b = some (.tup ys) → H' b = some (.tup ys)) : KT H' kvs xs :=
  Paired.mapP r fun _ _ z => ⟨z.1, ht _ _ z.2.1, z.2.2⟩

section
variable {P : Program} {w : World} {H : Hp} {h : Heap} {a : Addr}
theorem rd_of {u : HO} (ok : HOk P w H h) (e : Rd H a u) : ObjOk P w H h a u := e.ok ok
theorem dk_rd {kvs : List (Key × V)} (ok : HOk P w H h) (e : Rd H a (.dK kvs)) : kvs.length ≤ sizeLine ∧ (a == sysModules) = false ∧ ∃ vs, KV kvs vs ∧ h.DictOf (mixKind P w) a vs :=
  show ObjOk P w H h a (.dK kvs) from rd_of ok e
theorem dk_of {kvs : List (Key × V)} (ok : HOk P w H h) (e : H a = some (.dK kvs)) : kvs.length ≤ sizeLine ∧ (a == sysModules) = false ∧ ∃ vs, KV kvs vs ∧ h.DictOf (mixKind P w) a vs := dk_rd ok (.inl e)
/-- a tracked tuple of ints and texts is a key -/
theorem key_of {ks : List Key} (ok : HOk P w H h) (e : H a = some (.tup (ks.map kV))) : (tupleKind (mixKind P w)).is h ks a := by
  obtain ⟨_, its, r, o, h1, h2, n, h3⟩ := (show ObjOk P w H h a (.tup (ks.map kV)) from ok a _ e)
  exact ⟨o, its.toArray, n, h1, h2, h3, by simpa using items_are r⟩
theorem dt_rd {kvs : List (List Key × V)} (ok : HOk P w H h) (e : Rd H a (.dT kvs)) : kvs.length ≤ sizeLine ∧ (a == sysModules) = false ∧
    ∃ xs, KT H kvs xs ∧ h.DictOfH (tupleKind (mixKind P w)) a xs := by
  obtain ⟨z, y, xs, r, o, es, ep, h1, h2, h3, h4, h5⟩ := (show ObjOk P w H h a (.dT kvs) from rd_of ok e)
  refine ⟨z, y, xs, r, o, es, ep, h1, h2, h3, h4, fun x hx => ?_, h5⟩
  have all : ∀ {l : List (List Key × V)} {m : List (List Key × Addr × Value)}, KT H l m → ∀ x ∈ m, (tupleKind (mixKind P w)).is h x.1 x.2.1 := by
    intro l m q
    induction q with
    | nil => intro x hx; exact nomatch hx
    | @cons p q ps qs hq t ih =>
      intro x hx
      rcases List.mem_cons.mp hx with e | hx
      · subst e
        exact key_of ok (by rw [← hq.1]; exact hq.2.1)
      · exact ih x hx
  exact all r x hx
theorem dt_of {kvs : List (List Key × V)} (ok : HOk P w H h) (e : H a = some (.dT kvs)) : kvs.length ≤ sizeLine ∧ (a == sysModules) = false ∧
    ∃ xs, KT H kvs xs ∧ h.DictOfH (tupleKind (mixKind P w)) a xs := dt_rd ok (.inl e)
end

/-- what the dict at a holds at the key y -/
def DGet (H : Hp) (a : Addr) (y : V) (r : Option V) : Prop :=
  (∃ kvs k, Rd H a (.dK kvs) ∧ y = kV k ∧ r = valV kvs k) ∨ ∃ kvs k b, Rd H a (.dT kvs) ∧ y = .ref b ∧ H b = some (.tup (k.map kV)) ∧ r = valV kvs k
/-- the heap behind a[y] = v -/
def DPut (H : Hp) (a : Addr) (y v : V) (H' : Hp) : Prop :=
  (∃ kvs k, H a = some (.dK kvs) ∧ y = kV k ∧ kvs.length < sizeLine ∧ H' = upd H a (.dK (putK kvs k v))) ∨
  ∃ kvs k b, H a = some (.dT kvs) ∧ y = .ref b ∧ H b = some (.tup (k.map kV)) ∧ kvs.length < sizeLine ∧ H' = upd H a (.dT (putK kvs k v))
theorem DGet.k {H : Hp} {a : Addr} {kvs : List (Key × V)} {k : Key} (e : H a = some (.dK kvs)) : DGet H a (kV k) (valV kvs k) := .inl ⟨kvs, k, .inl e, rfl, rfl⟩
theorem DPut.k {H : Hp} {a : Addr} {kvs : List (Key × V)} {k : Key} {v : V} (e : H a = some (.dK kvs)) (hl : kvs.length < sizeLine) : DPut H a (kV k) v (upd H a (.dK (putK kvs k v))) := .inl ⟨kvs, k, e, rfl, hl, rfl⟩
section
variable {X : Cx} {pins : List (Addr × Obj)} {σ : St} {H : Hp} {s : Shared} {a : Addr} {y v : V} {u r : Value} {o : Option V} {A : Around} {E : Value → Shared → Prop}

theorem Inv.big (I : Inv X pins σ H s) : sysModules < s.heap.objs.size := by
  have h : mainGlobals < s.heap.objs.size := (I.mod.glob.keeps I.bk).lt
  exact Nat.lt_trans (by decide) h

/-- y in d -/
theorem d_in {Q : Value → Shared → Prop} (hu : A.units + 1 < cLine) (I : Inv X pins σ H s) (g : DGet H a y o) (ry : RelV y u) (h : ∀ s', Inv X pins σ H s' → Q (.bool o.isSome) s') :
    wpAny (model X.prog X.w) A (compareOp .In u (.ref a)) Q E s := by
  rcases g with ⟨kvs, k, e, ey, l⟩ | ⟨kvs, k, b, e, ey, eb, l⟩
  · subst ey
    obtain ⟨z, hd, vs, rel, dd⟩ := dk_rd I.hok e
    refine wpAny_in_of (kV_is ry) hd dd.mapOf ?_
    rw [← (rel.val k).isSome_eq, ← l]
    exact h _ (I.tok _)
  · subst ey
    cases (show u = Value.ref b from ry)
    obtain ⟨z, hd, xs, rel, dd⟩ := dt_rd I.hok e
    refine wpAny_in_heap (tupleKind_room_in1 hu) (key_of I.hok eb) hd dd ?_
    have q := (rel.val k).isSome_eq
    rw [Option.isSome_map] at q
    rw [← q, ← l]
    exact h _ (I.tok _)
/-- a dict's object is replaced -/
theorem d_write {h' : Heap} {t' : Nat} {ob : HO} (I : Inv X pins σ H s) (mu : Mut (H a)) (hs : Heap.SameBut a s.heap h') (he : ∃ q, h'.get? a = some q) (new : ObjOk X.prog X.w (upd H a ob) h' a ob) :
    Inv X pins σ (upd H a ob) { s with heap := h', toks := t' } :=
  I.write (x := a) (e := a) mu (.inl rfl) (fun b q hb z => (hs.2 b hb).trans z) he new
theorem dk_new {P : Program} {w : World} {H' : Hp} {h' : Heap} {kvs : List (Key × V)} {vs : List (Key × Value)} (z : kvs.length ≤ sizeLine) (hd : (a == sysModules) = false) (rel : KV kvs vs) (dd : h'.DictOf (mixKind P w) a vs) :
    ObjOk P w H' h' a (.dK kvs) := ⟨z, hd, vs, rel, dd⟩
/-- d[y] = v -/
theorem d_setItem {H' : Hp} {Q : Unit → Shared → Prop} (hu : A.units + 1 < cLine) (I : Inv X pins σ H s) (g : DPut H a y v H') (ry : RelV y u) (rv : RelV v r) (h : ∀ s', Inv X pins σ H' s' → Q () s') :
    wpAny (model X.prog X.w) A (setItem (.ref a) u r) Q E s := by
  rcases g with ⟨kvs, k, e, ey, l, eH⟩ | ⟨kvs, k, b, e, ey, eb, l, eH⟩
  · subst ey eH
    obtain ⟨z, hd, vs, rel, dd⟩ := dk_of I.hok e
    have hz : vs.length ≤ sizeLine := by rw [← rel.length]; exact z
    have hl : (putK kvs k v).length ≤ sizeLine := by have := length_putK kvs k v; omega
    refine wpAny_setItem_pairs (hsz := hz) (kV_is ry) dd fun h' dd' hs => h _ ?_
    have he : ∃ q, h'.get? a = some q := let ⟨q, _, _, hq, _⟩ := dd'; ⟨q, hq⟩
    exact d_write I (by rw [e]; exact True.intro) hs he (dk_new hl hd (rel.put k rv) dd')
  · subst ey eH
    cases (show u = Value.ref b from ry)
    obtain ⟨z, hd, xs, rel, dd⟩ := dt_of I.hok e
    have hz : xs.length ≤ sizeLine := by rw [← Paired.length rel]; exact z
    have hl : (putK kvs k v).length ≤ sizeLine := by have := length_putK kvs k v; omega
    refine wpAny_setItem_heap (hsz := hz) (tupleKind_room_in1 hu) (key_of I.hok eb) dd fun h' dd' hs => h _ ?_
    obtain ⟨q, es, ep, hq, h2, h3, h4, _, h5⟩ := dd'
    refine d_write I (by rw [e]; exact True.intro) hs ⟨q, hq⟩ ⟨hl, hd, _, (rel.put k eb rv).keeps fun c ys ec => ?_, q, es, ep, hq, h2, h3, h4, h5⟩
    rw [upd_ne (ne_of ec e (fun z => nomatch z))]
    exact ec
end

section
variable {X : Cx} {pins : List (Addr × Obj)} {σ : St} {H : Hp} {s : Shared} {a : Addr} {kvs : List (Key × V)} {k : Key} {u : Value} {A : Around} {E : Value → Shared → Prop}
/-- len(d) -/
theorem d_len {Q : Value → Shared → Prop} (I : Inv X pins σ H s) (e : Rd H a (.dK kvs)) (h : ∀ t s', Inv X pins σ H s' → Q (.int kvs.length t) s') : wpAny (model X.prog X.w) A (call (.builtin "len") [.ref a]) Q E s := by
  obtain ⟨z, hd, vs, rel, dd⟩ := dk_rd I.hok e
  refine call_len_dict hd dd (by rw [← rel.length]; rw [sizeLine_eq] at z; omega) ?_
  rw [← rel.length]
  exact h _ _ (I.tok _)
end


/-! ### readings and rules -/
/-- the element of a subscription, not a slice -/
def NoSl (i : Expr) : Prop := ∀ ov iv, subscripted i false ov iv = operate [ov, iv] (getItem ov iv)
/-- d[y] -/
def tDGet (td ty : TE) : TE := fun σ H Q => td σ H fun x H1 => ty σ H1 fun y H2 => ∃ a v, x = .ref a ∧ DGet H2 a y (some v) ∧ Q v H2
/-- y in d, y not in d -/
def tDIn (ty td : TE) : TE := fun σ H Q => ty σ H fun y H1 => td σ H1 fun x H2 => ∃ a o, x = .ref a ∧ DGet H2 a y o ∧ Q (.bl o.isSome) H2
def tDNotIn (ty td : TE) : TE := fun σ H Q => ty σ H fun y H1 => td σ H1 fun x H2 => ∃ a o, x = .ref a ∧ DGet H2 a y o ∧ Q (.bl (!o.isSome)) H2
/-- d[y] = v -/
def sDPut (td ty tv : TE) : TS := fun D σ H => tv σ H fun v H1 => td σ H1 fun x H2 => ty σ H2 fun y H3 => ∃ a H4, x = .ref a ∧ DPut H3 a y v H4 ∧ D.nx σ H4
/-- d[y] op= v -/
def sDAug (td ty tv : TE) (rd : V → V → Hp → VK → Prop) : TS := fun D σ H => td σ H fun x H1 => ty σ H1 fun y H2 => ∃ a v, x = .ref a ∧ DGet H2 a y (some v) ∧
  tv σ H2 fun y2 H3 => rd v y2 H3 fun z H4 => ∃ H5, DPut H4 a y z H5 ∧ D.nx σ H5
/-- del d[y] -/
def sDDel (td ty : TE) : TS := fun D σ H => td σ H fun x H1 => ty σ H1 fun y H2 => ∃ a kvs k, x = .ref a ∧ H2 a = some (.dK kvs) ∧ y = kV k ∧ (valV kvs k).isSome = true ∧ D.nx σ (upd H2 a (.dK (dropK kvs k)))

section
variable {X : Cx} {o i e value : Expr} {pos pos' tpos : Pos} {td ty tv : TE}
theorem pc_din (hu : X.A.units + 1 < cLine) (hi : PE X i ty) (ho : PE X o td) : PC X .In i o (tDIn ty td) := by
  intro pins s σ H Q I h
  refine thn (hi pins s σ H _ I h) fun iv s1 ⟨y, H1, I1, ry, q1⟩ => thn (ho pins s1 σ H1 _ I1 q1) fun u s2 ⟨x, H2, I2, rx, a, ov, ex, g, q2⟩ => ?_
  subst ex
  obtain rfl : u = Value.ref a := rx
  exact d_in hu I2 g ry fun s3 I3 => ⟨.bl ov.isSome, H2, I3, rfl, q2⟩
theorem ps_dput (hu : X.A.units + 1 < cLine) (ho : PE X o td) (hi : PE X i ty) (hv : PE X value tv) (hs : swapsWith value (some (.Subscript o i pos')) pos.line X.env = pure false) :
    PS X (.Assign [.Subscript o i pos'] value pos) (sDPut td ty tv) := by
  intro pins s σ H D I h
  refine wpAny_Assign_Subscript (thn (hv pins s σ H _ I h) fun r s1 ⟨v, H1, I1, rv, q1⟩ => thn (ho pins s1 σ H1 _ I1 q1) fun u s2 ⟨x, H2, I2, rx, q2⟩ => thn (hi pins s2 σ H2 _ I2 q2) fun iv s3 ⟨y, H3, I3, ry, a, H4, ex, g, q3⟩ => ?_) hs
  subst ex
  obtain rfl : u = Value.ref a := rx
  exact d_setItem hu I3 g ry rv fun s4 I4 => ⟨σ, H4, I4, q3⟩
end


/-! ### displays -/
theorem dk_empty {P : Program} {w : World} {H : Hp} (h : Heap) (hb : sysModules < h.objs.size) : ObjOk P w H (h.push { cls := .type "dict", data := .dict #[] }) h.objs.size (.dK []) :=
  ⟨Nat.zero_le _, beq_eq_false_iff_ne.mpr (Ne.symm (Nat.ne_of_lt hb)), [], .nil, Heap.DictOf.new h⟩
/-- {}, to be a dict of the kind that is wanted -/
def tDNewK : TE := fun _ H Q => ∀ p, H p = none → Q (.ref p) (upd H p (.dK []))
def tDNewT : TE := fun _ H Q => ∀ p, H p = none → Q (.ref p) (upd H p (.dT []))
section
variable {X : Cx} {pos : Pos}
theorem pe_dnewK : PE X (.Dict [] [] pos) tDNewK := fun pins s σ H Q I h =>
  wpAny_Dict_empty ⟨.ref s.heap.objs.size, _, I.laid (a := s.heap.objs.size) (o := .dK []) (t' := s.toks) (fun _ _ q => Heap.get?_push_of_some _ q) (Nat.le_refl _) (dk_empty s.heap I.big), rfl, h _ (I.hok.fresh (Nat.le_refl _))⟩
end

/-- the pairs of a display, from the left -/
def tPairs : List (TE × TE) → St → Hp → (List (V × V) → Hp → Prop) → Prop
  | [], _, H, Q => Q [] H
  | (tk, tv) :: r, σ, H, Q => tk σ H fun x H1 => tv σ H1 fun y H2 => tPairs r σ H2 fun ps H3 => Q ((x, y) :: ps) H3
abbrev VV : List (V × V) → List (Value × Value) → Prop := Paired fun p q => RelV p.1 q.1 ∧ RelV p.2 q.2
def PPs (X : Cx) (pos : Pos) (keys : List (Option Expr)) (values : List Expr) (trs : List (TE × TE)) : Prop :=
  ∀ (pins : List (Addr × Obj)) (s : Shared) (σ : St) (H : Hp) (Q : List (V × V) → Hp → Prop), Inv X pins σ H s → tPairs trs σ H Q →
    wpAny (model X.prog X.w) X.A (evalPairs (pairTrees keys values X.env pos)) (fun vs s' => ∃ ps H', Inv X pins σ H' s' ∧ VV ps vs ∧ Q ps H') X.xe s
def mergeK (kvs more : List (Key × V)) : List (Key × V) := more.foldl (fun acc kv => putK acc kv.1 kv.2) kvs
/-- {k: v, ..} with keys ints and texts; the new dict stands empty while the pairs are made -/
def tDisp (trs : List (TE × TE)) : TE := fun σ H Q => ∀ p, H p = none → tPairs trs σ (upd H p (.dK [])) fun ps H2 => H2 p = some (.dK []) ∧ ∃ kvs : List (Key × V), ps = kvs.map (fun kv => (kV kv.1, kv.2)) ∧ kvs.length ≤ 15 ∧ Q (.ref p) (upd H2 p (.dK (mergeK [] kvs)))
/-! ### methods -/
/-- a method call o.m(e) of a built-in, with one argument: what must be seen of the text -/
structure M1 (X : Cx) (o : Expr) (m : Str) (apos : Pos) (e : Expr) (cpos : Pos) : Prop where
  base : attributeBase o m X.env (eval o X.env) = eval o X.env
  few : ((backTo cpos (starEach [e] X.env)).all (fun x => !x.1) && (backToKw cpos (keywordEach [] X.env)).all (fun x => x.1.isSome)
    && decide (([e] : List Expr).length + ([] : List Keyword).length + (if ([] : List Keyword).isEmpty then 0 else 1) < 30)) = true
  line : (apos.endLine == cpos.line) = true
  trees : backTo cpos (starEach [e] X.env) = [(false, eval e X.env)]
structure M2 (X : Cx) (o : Expr) (m : Str) (apos : Pos) (e f : Expr) (cpos : Pos) : Prop where
  base : attributeBase o m X.env (eval o X.env) = eval o X.env
  few : ((backTo cpos (starEach [e, f] X.env)).all (fun x => !x.1) && (backToKw cpos (keywordEach [] X.env)).all (fun x => x.1.isSome)
    && decide (([e, f] : List Expr).length + ([] : List Keyword).length + (if ([] : List Keyword).isEmpty then 0 else 1) < 30)) = true
  line : (apos.endLine == cpos.line) = true
  trees : backTo cpos (starEach [e, f] X.env) = [(false, eval e X.env), (false, eval f X.env)]

/-- a is a dict, whatever its keys -/
def IsD (H : Hp) (a : Addr) : Prop := (∃ kvs, Rd H a (.dK kvs)) ∨ ∃ kvs, Rd H a (.dT kvs)
theorem isD_at {X : Cx} {pins : List (Addr × Obj)} {σ : St} {H : Hp} {s : Shared} {a : Addr} (I : Inv X pins σ H s) (d : IsD H a) :
    s.TypeIs (.ref a) "dict" ∧ (∀ b, Value.ref a = .ref b → ∃ ob, s.heap.get? b = some ob ∧ ob.dict = none) ∧ (a == sysModules) = false := by
  rcases d with ⟨kvs, e⟩ | ⟨kvs, e⟩
  · obtain ⟨_, hd, vs, _, dd⟩ := dk_rd I.hok e
    refine ⟨dd.typeIs, fun b q => ?_, hd⟩
    cases q
    obtain ⟨ob, _, _, h1, h2, _⟩ := dd
    exact ⟨ob, h1, h2.2.1⟩
  · obtain ⟨_, hd, xs, _, dd⟩ := dt_rd I.hok e
    refine ⟨dd.typeIs, fun b q => ?_, hd⟩
    cases q
    obtain ⟨ob, _, _, h1, h2, _⟩ := dd
    exact ⟨ob, h1, h2.2.1⟩

section
variable {X : Cx} {pins : List (Addr × Obj)} {σ : St} {H : Hp} {s : Shared} {a : Addr} {y d : V} {u r : Value} {o : Option V} {A : Around} {E : Value → Shared → Prop}
/-- d.get(y) -/
theorem d_get1 {Q : Value → Shared → Prop} (hu : A.units + 1 < cLine) (I : Inv X pins σ H s) (g : DGet H a y o) (ry : RelV y u) (h : ∀ w' s', Inv X pins σ H s' → RelV (o.getD .non) w' → Q w' s') :
    wpAny (model X.prog X.w) A (call (.builtin "dict.get") [.ref a, u]) Q E s := by
  rcases g with ⟨kvs, k, e, ey, l⟩ | ⟨kvs, k, b, e, ey, eb, l⟩
  · subst ey
    obtain ⟨z, hd, vs, rel, dd⟩ := dk_rd I.hok e
    refine call_meetsIn PySem.F.slot_dict_get dd.typeIs PySem.F.entry_dict_get (PySem.F.args_dict_get_2 _ _) (meets_dict_get (mixKind X.prog X.w) a (kV_is ry) hd) ⟨_, dd.mapOf, h _ _ (I.tok _) ?_⟩
    rw [l]
    exact (rel.val k).getD rfl
  · subst ey
    cases (show u = Value.ref b from ry)
    obtain ⟨z, hd, xs, rel, dd⟩ := dt_rd I.hok e
    refine call_meetsIn PySem.F.slot_dict_get dd.typeIs PySem.F.entry_dict_get (PySem.F.args_dict_get_2 _ _) (meetsH_dict_get (tupleKind (mixKind X.prog X.w)) a b hd) ⟨tupleKind_room_in1 hu, k, xs, key_of I.hok eb, dd, h _ _ (I.tok _) ?_⟩
    rw [l]
    exact (rel.val k).getD rfl
end

def tDGet1 (td ty : TE) : TE := fun σ H Q => td σ H fun x H1 => ∃ a, x = .ref a ∧ IsD H1 a ∧ ty σ H1 fun y H2 => ∃ o, DGet H2 a y o ∧ Q (o.getD .non) H2
def tDGet2 (td ty tx : TE) : TE := fun σ H Q => td σ H fun x H1 => ∃ a, x = .ref a ∧ IsD H1 a ∧ ty σ H1 fun y H2 => tx σ H2 fun z H3 => ∃ o, DGet H3 a y o ∧ Q (o.getD z) H3
/-- d.pop(k): there; d.pop(k, x): there or not -/
def tDPop1 (td ty : TE) : TE := fun σ H Q => td σ H fun x H1 => ∃ a, x = .ref a ∧ IsD H1 a ∧ ty σ H1 fun y H2 => ∃ kvs k v, H2 a = some (.dK kvs) ∧ y = kV k ∧ valV kvs k = some v ∧ Q v (upd H2 a (.dK (dropK kvs k)))
def tDPop2 (td ty tx : TE) : TE := fun σ H Q => td σ H fun x H1 => ∃ a, x = .ref a ∧ IsD H1 a ∧ ty σ H1 fun y H2 => tx σ H2 fun z H3 => ∃ kvs k, H3 a = some (.dK kvs) ∧ y = kV k ∧
  (∀ v, valV kvs k = some v → Q v (upd H3 a (.dK (dropK kvs k)))) ∧ (valV kvs k = none → Q z H3)
section
variable {X : Cx} {o e f : Expr} {apos cpos : Pos} {td ty tx : TE}
theorem pe_dget1 (hu : X.A.units + 1 < cLine) (ho : PE X o td) (he : PE X e ty) (m : M1 X o "get" apos e cpos) : PE X (.Call (.Attribute o "get" apos) [e] [] cpos) (tDGet1 td ty) := by
  intro pins s σ H Q I h
  refine wpAny_Call_method m.base m.few m.line PySem.F.plainAttrs_dict PySem.F.slot_dict_get PySem.F.type_dict_get (thn (ho pins s σ H _ I h) fun u s1 ⟨x, H1, I1, rx, a, ex, d, q1⟩ => ?_)
  subst ex
  obtain rfl : u = Value.ref a := rx
  obtain ⟨t1, t2, _⟩ := isD_at I1 d
  refine ⟨t1, t2, ?_⟩
  rw [m.trees]
  refine Calls.callWith_builtin rfl (Calls.evalArgs_plain (Calls.spliced_cons (thn (he pins s1 σ H1 _ I1 q1) fun iv s2 ⟨y, H2, I2, ry, ov, g, q2⟩ => Calls.spliced_nil ?_)))
  exact d_get1 hu I2 g ry fun w' s3 I3 rw' => ⟨_, H2, I3, rw', q2⟩
end

/-! ### dict(d): a copy -/
section
variable {X : Cx} {pins : List (Addr × Obj)} {σ : St} {H : Hp} {s : Shared} {a : Addr} {kvs : List (Key × V)} {A : Around} {E : Value → Shared → Prop}
end


section
variable {X : Cx} {pins : List (Addr × Obj)} {σ : St} {H : Hp} {s : Shared} {a : Addr} {y : V} {u : Value} {A : Around} {E : Value → Shared → Prop}
end
end L2

namespace Att
open PySem PySem.W PySem.Calls PyProof.Rows

/-! ### the script -/
theorem ints_of_wellAll {P : Params} {h : Heap} : ∀ (ns : List Int) (vs : List Value), WellAll P h vs (ns.map WData.int) → IntsAre vs ns := by
  intro ns
  induction ns with
  | nil =>
    intro vs w
    rw [List.map_nil] at w
    cases w
    exact .nil
  | cons n ns ih =>
    intro vs w
    rw [List.map_cons] at w
    cases w with
    | cons a b =>
      cases a
      exact .cons _ _ (ih _ b)

theorem script_of {l : OpenLaw} {n : Nat} (hn : l.most = some n) {P : Params} {h : Heap} {args : List WData} {vals : List Value}
    (hpre : l.row.toRowW.claim.pre args = true) (hwl : WellAll P h vals args) :
    ∃ a vs ns, vals = [Value.ref a] ∧ args = [WData.list (ns.map WData.int)] ∧ h.get? a = some { cls := .type "list", data := .seq vs.toArray } ∧ IntsAre vs ns ∧ ns.length ≤ n := by
  have hsh : WShape.hasAll [] args [.list .int] = true := (pre_splitW hpre).1
  have hc : l.pre.holds [] { args := args } = true := (pre_splitW hpre).2
  obtain ⟨d, r, rfl, h1, h2⟩ := hasAllW_cons hsh
  obtain rfl := hasAllW_nil h2
  obtain ⟨xs, rfl, h3⟩ := hasW_list h1
  obtain ⟨ns, rfl⟩ := items_int h3
  have hlen : ns.length ≤ n := by
    unfold OpenLaw.pre at hc
    have h4 : (WTm.not (.lt (.lit (.int (n : Int))) (.len (.arg 0)))).holds [] { args := [.list (ns.map .int)] } = true := by
      have h4 := (holds_andW hc).1
      rw [hn] at h4
      exact h4
    have h5 := condW_of h4 (w_not (w_lt w_lit (w_len_list (w_arg rfl))))
    rw [List.length_map] at h5
    refine Nat.le_of_not_lt fun q => ?_
    have q' : (n : Int) < ((ns.length : Nat) : Int) := by omega
    first
      | (rw [decide_eq_true q'] at h5; exact absurd h5 (by decide))
      | (simp at h5; omega)
  cases hwl with
  | cons w1 w2 =>
    cases w2
    cases w1 with
    | list ho hall => exact ⟨_, _, ns, rfl, rfl, ho, ints_of_wellAll ns _ hall, hlen⟩

theorem post_true (l : OpenLaw) (args : List WData) : l.row.toRowW.claim.post args (.bool true) args = true :=
  postW_of (r := l.row.toRowW) (X := (true == true))
    (show WShape.has [] (.bool true) .bool = true by first | rfl | decide | simp [WShape.has, WShape.arms, WShape.armsAll])
    (show (WTm.eq .res (.lit (.bool true))).value [] { args := args, res := some (.bool true), after := args } = some (.bool (true == true)) from w_eq_bool (w_res rfl) w_lit) rfl

/-! ### the attachment: holds_open's last premise (the goal 'hc' behind k_head) from a wpAny of the law's body -/
/-- the same from a codeAny of the CALL (for a layer whose function contracts speak of calls) -/
theorem attach_call {l : OpenLaw} {n : Nat} {q : Program} {loose : List Str} {XP : (Str → Option Value) → Heap → Prop} {YP : World → Heap → Prop} {d : DefRec}
    (hn : l.most = some n) (hdf : d.params.defaults = [])
    (call : ∀ (w : World) (s₀ s₁ : Shared) (mg mb : Str → Option Value) (fa : Addr) (o : Obj) (pm cd doc : Value) (a : Addr) (vs : List Value) (ns : List Int),
      Ground q loose [] XP w s₀ mg mb s₁.heap → YP w s₁.heap →
      s₁.heap.get? fa = some o → o.data = .func (docDef d.name d.params d.body d.scope pm cd doc) → s₁.heap.CodeRec cd d.name → mg d.name = some (.ref fa) →
      s₁.heap.get? a = some { cls := .type "list", data := .seq vs.toArray } → IntsAre vs ns → ns.length ≤ n → s₁.gens = #[] →
      codeAny (model l.prog w) callerA (.call (.ref fa) ⟨[.ref a], []⟩) (fun r s' => r = .ok (.ret (.bool true)) ∧ OldK s₁.heap s'.heap ∧ s'.os = s₁.os ∧ AllBare s'.gens) s₁) :
    WalkO q loose XP YP l.row.toRowW d [] (fun f vs => PySem.call f vs) := by
  intro w s₀ s₁ mg mb G Y fa o pm cd doc dV kV ho hd hcd hD hmg hg args vals as hpre hlay hrd hwl hlo
  obtain rfl : dV = .none := Dflts.none hD hdf
  obtain rfl : kV = .none := Dflts.noKw hD
  obtain ⟨a, vs, ns, rfl, rfl, hobj, hints, hlen⟩ := script_of hn hpre hwl
  refine enter_call (codeAny_mono (call w s₀ s₁ mg mb fa o pm cd doc a vs ns G Y ho (fd_plain hd) hcd hmg hobj hints hlen hg) fun r s' hq => ?_)
  obtain ⟨rfl, h2, h3, h4⟩ := hq
  exact ⟨.inl ⟨.bool true, .bool true, [], rfl, fun _ => rfl, .bool true, post_true l _, fun _ => ⟨List.Pairwise.nil, fun _ hm => (nomatch hm)⟩⟩, h2, h3, h4⟩

/-! ### rules over ANY heap (no ledger) from facts about the written part K: the library's own take a ledger (News) for what they write -/
section
variable {prog : Program} {w : World} {A : Around} {E : Value → Shared → Prop} {s : Shared} {K : Frag}

/-! the whole heap as the ledger: makes every rule that writes through a ledger a rule over any heap -/
def noObjs (h : Heap) : Heap := { h with objs := #[] }
def ledger (h : Heap) (L d : Addr) : List (Addr × Obj) := (List.range h.objs.size).filterMap fun a => if a = L ∨ a = d then none else (h.get? a).map fun o => (a, o)
end
end Att

namespace L2
open PySem PySem.Spec PyProof.Rows

theorem vals_ints : ∀ {vs : List Value} {ns : List Int}, IntsAre vs ns → Vals (ns.map V.int) vs
  | _, _, .nil => .nil
  | _, _, .cons n t h => .cons ⟨t, rfl⟩ (vals_ints h)

/-- nothing is tracked but the script, known to the object (or it is an object of the module) -/
def Only (H : Hp) : Prop := ∀ b, H b = none ∨ ∃ o xs, H b = some (.frz o (.lst xs))

/-- THE HEAD: the law's promise, at the heap behind the top. F, the promise of the law's def, may use that base is part of the heap (so K.In base, base.Ns mainGlobals mg stand in Mod) -/
theorem law_call {P : Program} {w : World} {K : PySem.W.Frag} {mg mb : Str → Option Value} {CX : CXT} {k : Nat} {fa a : Addr} {fd : FuncData} {x : Str} {sp : Sp} {s₁ : Shared} {vs : List Value} {ns : List Int}
    (KX : K.In s₁.heap) (hns : s₁.heap.Ns mainGlobals mg) (hb : s₁.heap.Ns builtinsNs mb) (hbb : ∀ x : Str, x ≠ "__name__" → mb x = bootBuiltins x) (hlim : s₁.heap.NoLimit) (hg : s₁.gens = #[])
    (ha : s₁.heap.get? a = some { cls := .type "list", data := .seq vs.toArray }) (hi : IntsAre vs ns) (hl : ns.length ≤ sizeLine) (hr : Room k callerA)
    (F : ∀ base : Heap, K.In base → base.Ns mainGlobals mg → FnOk P w K mg base CX k fa fd [x] sp) (hbind : ∀ (s : Shared) (u : Value), BindsTo s fd ⟨[u], []⟩ [(x, u)])
    (hsp : ∀ H : Hp, Only H → SqL K H a (ns.map V.int) → sp [.ref a] H (fun v _ => v = .bl true) fun _ _ _ => False)
    (hCX : ∀ H e s', CX [] H s₁ (fun _ _ _ => False) e s' → False) :
    codeAny (model P w) callerA (.call (.ref fa) ⟨[.ref a], []⟩) (fun r s' => r = .ok (.ret (.bool true)) ∧ OldK s₁.heap s'.heap ∧ s'.os = s₁.os ∧ AllBare s'.gens) s₁ := by
  have rv := vals_ints hi
  have lenV := hi.length
  -- from an abstract heap in which nothing but the script may be tracked
  have core : ∀ H : Hp, Only H → SqL K H a (ns.map V.int) → HOk P w H s₁.heap → (∀ b, H b ≠ none → b = a) → (H a ≠ none → K.lookup a = none) →
      codeAny (model P w) callerA (.call (.ref fa) ⟨[.ref a], []⟩) (fun r s' => r = .ok (.ret (.bool true)) ∧ OldK s₁.heap s'.heap ∧ s'.os = s₁.os ∧ AllBare s'.gens) s₁ := by
    intro H hO hS hok hA hK
    have base_of : ∀ {b : Addr} {o : Obj}, s₁.heap.get? b = some o → H b = none → (hidT s₁.heap H).get? b = some o := fun e n => hidT_get e n
    have noA : ∀ {b : Addr} {o : Obj} {es : Array DictEntry} {ep : Nat}, s₁.heap.get? b = some o → o.data = .dict es ep → H b = none := fun {b o es ep} e d => by
      cases q : H b with
      | none => rfl
      | some u =>
        have e' : b = a := hA b (by rw [q]; simp)
        subst e'
        rw [ha] at e; cases e
        have d' : Data.seq vs.toArray _ = Data.dict es ep := d
        cases d'
    have nsK : ∀ {b : Addr} {m : Str → Option Value}, s₁.heap.Ns b m → (hidT s₁.heap H).Ns b m := fun {b m} ⟨o, es, ep, e, d, r⟩ => ⟨o, es, ep, base_of e (noA e d), d, r⟩
    have hKb : K.In (hidT s₁.heap H) := fun b o e => base_of (KX b o e) (by
      cases q : H b with
      | none => rfl
      | some u =>
        have e' : b = a := hA b (by rw [q]; simp)
        subst e'
        rw [hK (by rw [q]; simp)] at e; cases e)
    have hM : Mod K mg (hidT s₁.heap H) := ⟨hKb, nsK hns, ⟨mb, nsK hb, hbb⟩, let ⟨mc, h1, h2⟩ := hlim; ⟨mc, nsK h1, h2⟩⟩
    have e0 : Env0 P w K mg (hidT s₁.heap H) callerA [] s₁ H := ⟨rfl, hM, fun b o e => of_hidT e, Nat.le_of_eq (hidT_size _ _), trivial, fun b hb => absurd (show b ∈ ([] : List Addr) from hb) (by simp), hok, .of_eq hg⟩
    refine codeAny_mono ((F _ hKb (nsK hns)).run callerA [] s₁ H ⟨[.ref a], []⟩ [.ref a] [.ref a] _ _ hr e0 (hbind s₁ (.ref a)) (.cons rfl .nil) (hsp H hO hS)) fun r s' h => ?_
    cases r with
    | error e => exact (hCX H e s' h).elim
    | ok fl =>
      cases fl with
      | next => exact False.elim h
      | brk => exact False.elim h
      | cont => exact False.elim h
      | ret u =>
        obtain ⟨v, H', os, bare, un, hok', r', q⟩ := h
        have q' : v = .bl true := q
        subst q'
        obtain rfl : u = Value.bool true := r'
        refine ⟨rfl, OldK.of_keep fun b o e => ?_, os, bare⟩
        cases q : H b with
        | none => exact un.keep b o e q (by intro z; exact absurd (show b ∈ ([] : List Addr) from z) (by simp)) (by simp)
        | some u =>
          rcases hO b with z | ⟨ob, xs, z⟩
          · rw [q] at z; cases z
          · have z2 := un.frzs b ob _ z
            obtain ⟨e1, _⟩ := hok b _ z
            obtain ⟨e2, _⟩ := hok' b _ z2
            rw [e] at e1; cases e1
            exact e2
  cases hk : K.lookup a with
  | some o =>
    -- the script is one of the module's own objects
    have e := KX a o hk
    rw [ha] at e
    cases e
    refine core (fun _ => none) (fun _ => .inl rfl) (.inr ⟨_, vs.toArray, _, hk, rfl, rfl, rfl, by rw [List.size_toArray, lenV]; exact hl, by simpa using rv⟩) (fun b u z => by have z' : (none : Option HO) = some u := z; cases z') (fun b z => absurd rfl z) fun z => absurd rfl z
  | none =>
    refine core (fun b => if b = a then some (.frz { cls := .type "list", data := .seq vs.toArray } (.lst (ns.map V.int))) else none) (fun b => ?_) (.inl (.inr ⟨{ cls := .type "list", data := .seq vs.toArray }, if_pos rfl⟩)) (fun b u z => ?_) (fun b z => ?_) fun _ => hk
    · by_cases hb : b = a
      · exact .inr ⟨_, _, if_pos hb⟩
      · exact .inl (if_neg hb)
    · by_cases hb : b = a
      · have z' := (if_pos hb).symm.trans z
        cases z'
        subst hb
        exact ⟨ha, by rw [List.length_map]; exact hl, vs, _, rv, ha⟩
      · have z' := (if_neg hb).symm.trans z
        cases z'
    · by_cases hb : b = a
      · exact hb
      · exact absurd (if_neg hb) z
end L2

namespace L2
open PySem PySem.Spec PyProof.Rows

abbrev KOf {K : PySem.W.Frag} {h : Heap} (_ : K.In h) : PySem.W.Frag := K

/-- the goal that k_head leaves (case hc), from the law's promise. F gives the function object fd (K's own) once, then the promise over every base -/
theorem walk_of {l : PySem.W.OpenLaw} {n k : Nat} {q : Program} {loose : List Str} {XP : (Str → Option Value) → Heap → Prop} {YP : World → Heap → Prop} {d : DefRec} {K : Params → PySem.W.Frag} {CX : World → CXT} {sp : World → Sp} {x : Str}
    (hn : l.most = some n) (hn2 : n ≤ sizeLine) (hdf : d.params.defaults = []) (hr : Room k callerA)
    (hY : ∀ (w : World) (h : Heap), YP w h → (K w.params).In h)
    (F : ∀ (w : World) (mg : Str → Option Value) (fa : Addr) (h : Heap), (K w.params).In h → h.Ns mainGlobals mg → mg d.name = some (.ref fa) →
      ∃ fd : FuncData, (∀ (s : Shared) (u : Value), BindsTo s fd ⟨[u], []⟩ [(x, u)]) ∧
        ∀ base : Heap, (K w.params).In base → base.Ns mainGlobals mg → FnOk l.prog w (K w.params) mg base (CX w) k fa fd [x] (sp w))
    (hsp : ∀ (w : World) (H : Hp) (a : Addr) (ns : List Int), ns.length ≤ n → Only H → SqL (K w.params) H a (ns.map V.int) → sp w [.ref a] H (fun v _ => v = .bl true) fun _ _ _ => False)
    (hCX : ∀ (w : World) (H : Hp) (s : Shared) (e : Value) (s' : Shared), CX w [] H s (fun _ _ _ => False) e s' → False) :
    PySem.W.WalkO q loose XP YP l.row.toRowW d [] (fun f vs => PySem.call f vs) := by
  refine Att.attach_call hn hdf fun w s₀ s₁ mg mb fa o pm cd doc a vs ns G Y ho hd hcd hmg hobj hints hlen hg => ?_
  have KX := hY w _ Y
  obtain ⟨fd, hb, hF⟩ := F w mg fa _ KX G.T.g hmg
  exact law_call KX G.T.g G.T.b G.T.builtins G.T.nolimit hg hobj hints (Nat.le_trans hlen hn2) hr hF hb (fun H hO hS => hsp w H a ns hlen hO hS) fun H e s' => hCX w H s₁ e s'
end L2

/- THE LAST THEOREM (shape; LID, My.* are yours):
   My.Adr: a structure of the addresses that your layer names (classes, functions); My.Txt K t: a structure (Prop) of the equations over K;
   My.txt_mk : {K} {implicit addresses ..} (e1 : nsIn K mainGlobals "law" = some (some (.ref f))) (e2 : K.lookup f = some ⟨oc, od, .func (fnOf "law" "law" params body scope dV kV doc pm an cdv ct), sl⟩) (e3 : codeIn K cdv "law" = true) .. : ∃ t, My.Txt K t

set_option maxRecDepth 100000 in
set_option maxHeartbeats 0 in
theorem PySem.Challenge.cw_LID_holds : PySem.Challenge.rw_LID.Holds := by
  w_on; o_law; k_head; (case hw => w_witness2)
  k_fill
  refine L2.walk_of (l := PySem.Challenge.rw_LID) (n := 63) (k := 40) (x := "script") (CX := fun w => ..) (sp := fun _ => My.sp_law) rfl (by decide) rfl ⟨rfl, by decide, by decide⟩ (fun w h Y => PySem.W.kIn_of Y) ?F ?S ?C
  case F =>
    intro w mg fa h KX G hmg
    have T : ∃ t, My.Txt (L2.KOf KX) t := by
      dsimp only [L2.KOf]                          -- K must stand as «<heap const> w.params» for k_is
      refine' My.txt_mk ?e1 ?e2 ?e3 ..
      (case e1 => PySem.W.k_is)                    -- in the order: a name -> its address -> its object -> its parts
      (case e2 => PySem.W.k_is)
      ..
    obtain ⟨t, T⟩ := T
    have e0 := hmg.symm.trans (PySem.W.mg_of KX G T.law)
    cases e0                                       -- fa is the law's own address
    exact ⟨_, fun s u => .of_eq rfl, fun base kb nb => My.law_fn T kb nb⟩     -- if «.of_eq rfl» comes too early: refine' ⟨_, ?b, fun base kb nb => My.law_fn T kb nb⟩; exact fun s u => .of_eq rfl
  case S => exact fun w H a ns hl hO hS => ..
  case C => exact ..
(the tactic k_is has no namespace: write k_is) -/

/-! SHORT WORDS over the layer: a def of the text, its body, what a loop and a test want. -/
namespace L2
open PySem PySem.Spec PyProof.Rows

/-! ### the text by places -/
/-- the j-th statement of a class's body -/
def inClass (s : Stmt) (j : Nat) : Stmt := match s with
  | .ClassDef _ _ _ body _ _ _ _ _ _ _ => body.getD j (.Pass ⟨0, 0, 0, 0⟩)
  | _ => .Pass ⟨0, 0, 0, 0⟩
def defArgs (s : Stmt) : Arguments := match s with
  | .FunctionDef _ a _ _ _ _ _ _ _ _ => a
  | _ => { posonlyargs := [], args := [], vararg := none, kwonlyargs := [], kw_defaults := [], kwarg := none, defaults := [] }
def defBody (s : Stmt) : List Stmt := match s with
  | .FunctionDef _ _ b _ _ _ _ _ _ _ => b
  | _ => []
def defScope (s : Stmt) : Scope := match s with
  | .FunctionDef _ _ _ _ _ _ sc _ _ _ => sc
  | _ => { kind := .function, names := [], isGenerator := false, isCoroutine := false }

/-! ### no exception leaves a def -/
abbrev CX0 : CXT := fun _ _ _ _ _ _ => False
abbrev E0 : XK := fun _ _ _ => False
theorem pass0 {X : Cx} : Passes CX0 X E0 := fun _ _ _ _ _ _ _ h => h.elim

/-! ### a def (or method) of the text as it stands behind the top -/
structure Fun (K : PySem.W.Frag) (x qual : Str) (st : Stmt) (f : Addr) (fd : FuncData) : Prop where
  ex : ∃ (oc : Value) (od : Option Addr) (kV doc pm : Value) (an : Option Addr) (cdv ct : Value) (osl : Array (Option Value)),
    fd = PySem.W.fnOf x qual (defArgs st) (defBody st) (defScope st) .none kV doc pm an cdv ct ∧ K.lookup f = some ⟨oc, od, .func fd, osl⟩ ∧ PySem.W.codeIn K cdv qual = true
  kp : PySem.W.keepIn K (.ref f) = true
section
variable {P : Program} {w : World} {K : PySem.W.Frag} {mg : Str → Option Value} {base : Heap}
/-- THE RULE for a def: its body as a term of rules, and the reading of that term -/
theorem Fun.ok {x qual : Str} {st : Stmt} {f : Addr} {fd : FuncData} {N ps : List Str} {k : Nat} {sp : Sp} (F : Fun K x qual st f fd) (S : FnScope N ps (defScope st)) (len : ∀ vs H Q E, sp vs H Q E → vs.length = ps.length)
    (hbody : ∀ (cdv : Value) (A : Around) (outer : List Env) (s : Shared) (H : Hp) (vs : List V) (Q : VK) (E : XK), Room k (A.deeper (envOfC qual (defScope st) s.heap.objs.size f cdv)) → sp vs H Q E →
      ∃ t, PSs (cxOf CX0 P w K mg base N qual (defScope st) f cdv A outer s H E).nox (defBody st) t ∧ t { nx := fun _ H' => Q .non H', rt := Q } (start N vs) H) : FnOk P w K mg base CX0 (k + 1) f fd ps sp := by
  obtain ⟨oc, od, kV, doc, pm, an, cdv, ct, osl, rfl, lk, hcd⟩ := F.ex
  refine fn_of lk hcd S len fun A outer s H vs Q E hr hsp => ?_
  obtain ⟨t, h, q⟩ := hbody cdv A outer s H vs Q E hr hsp
  exact ⟨t, h.nox, q⟩
/-- how its arguments bind (no defaults): h is «fun _ _ _ _ _ _ us hl => match us, hl with | [_, _], _ => rfl», one _ a parameter -/
theorem Fun.binds {x qual : Str} {st : Stmt} {f : Addr} {fd : FuncData} {ps : List Str} (F : Fun K x qual st f fd)
    (h : ∀ (kV doc pm : Value) (an : Option Addr) (cdv ct : Value) (us : List Value), us.length = ps.length → bindArgs (PySem.W.fnOf x qual (defArgs st) (defBody st) (defScope st) .none kV doc pm an cdv ct) ⟨us, []⟩ = pure (ps.zip us)) : Binds K fd ps [] := by
  obtain ⟨oc, od, kV, doc, pm, an, cdv, ct, osl, rfl, lk, hcd⟩ := F.ex
  exact .all (h kV doc pm an cdv ct)
theorem fun_mk {x qual : Str} {st : Stmt} {f : Addr} {oc : Value} {od an : Option Addr} {osl : Array (Option Value)} {kV doc pm cdv ct : Value} (l : K.lookup f = some ⟨oc, od, .func (PySem.W.fnOf x qual (defArgs st) (defBody st) (defScope st) .none kV doc pm an cdv ct), osl⟩)
    (c : PySem.W.codeIn K cdv qual = true) (k : PySem.W.keepIn K (.ref f) = true) : Fun K x qual st f (PySem.W.fnOf x qual (defArgs st) (defBody st) (defScope st) .none kV doc pm an cdv ct) := ⟨⟨oc, od, kV, doc, pm, an, cdv, ct, osl, rfl, l, c⟩, k⟩
end
theorem hu_of {A : Around} {k : Nat} (hr : Room k A) : A.units + 1 < cLine := Nat.lt_of_le_of_lt (Nat.add_le_add_left (by decide : 1 ≤ 64) _) hr.units
theorem small1000 {n : Nat} (h : n ≤ 1000) : n < sizeLine := Nat.lt_of_le_of_lt h (by decide)

/-! ### expressions in short: the name that stands in the i-th slot -/
section
variable {X : Cx}
theorem pv (i : Nat) {x : Str} {pos : Pos} (hN : X.N[i]? = some x := by rfl) (hv : Vis X.env.scope x := by first | exact Or.inl rfl | exact Or.inr (Or.inl rfl) | exact Or.inr (Or.inr rfl)) (hd : (x == ("__debug__" : Str)) = false := by decide)
    (hcd : (x == ("__classdict__" : Str)) = false := by decide) : PE X (.Name x pos) (tVar i) := pe_var hN hv hd hcd
/-- len of a dict -/
theorem call_lenD : CallR X (.builtin "len") (fun xs H Q => ∃ a kvs, xs = [V.ref a] ∧ H a = some (.dK kvs) ∧ Q (.int kvs.length) H) := by
  intro pins s σ H xs us Q I r h
  obtain ⟨a, kvs, rfl, ha, q⟩ := h
  obtain ⟨u, rfl, ru⟩ := vals1 r
  cases ru
  exact d_len I (.inl ha) fun t s' I' => ⟨.int kvs.length, H, I', ⟨t, rfl⟩, q⟩
end

/-! ### tests -/
theorem iteF {A B : Prop} (h : B) : if false = true then A else B := by
  rw [if_neg Bool.false_ne_true]
  exact h
theorem iteT {A B : Prop} (h : A) : if true = true then A else B := by
  rw [if_pos rfl]
  exact h
/-! ### heaps -/
/-- all that was tracked is as it was -/
def Same (H H' : Hp) : Prop := ∀ b o, H b = some o → H' b = some o
theorem Same.refl (H : Hp) : Same H H := fun _ _ h => h
theorem Same.trans {H H1 H2 : Hp} (a : Same H H1) (b : Same H1 H2) : Same H H2 := fun c o h => b c o (a c o h)
theorem Same.free {H H' : Hp} (e : Same H H') {l : Addr} (h : H' l = Option.none) : H l = Option.none := by
  cases q : H l with
  | none => rfl
  | some o =>
    rw [e l o q] at h
    cases h
theorem Same.seq {K : PySem.W.Frag} {H H' : Hp} {a : Addr} {xs : List V} (e : Same H H') (h : SqL K H a xs) : SqL K H' a xs := by
  rcases h with (h | ⟨o, h⟩) | h
  · exact .inl (.inl (e _ _ h))
  · exact .inl (.inr ⟨o, e _ _ h⟩)
  · exact .inr h

/-! ### a dict's pairs: keys that differ -/
section
variable {κ : Type} [DecidableEq κ]
theorem valV_in {kvs : List (κ × V)} {k : κ} {v : V} (h : valV kvs k = some v) : k ∈ kvs.map (·.1) := by
  have q : (kvs.any fun kv => decide (kv.1 = k)) = true := by
    rw [valV_any, h]
    all_goals rfl
  obtain ⟨p, hp, e⟩ := List.any_eq_true.mp q
  exact List.mem_map.mpr ⟨p, hp, of_decide_eq_true e⟩
theorem nd_snoc : ∀ {l : List κ} {k : κ}, l.Nodup → ¬ k ∈ l → (l ++ [k]).Nodup
  | [], k, _, _ => by simp
  | a :: r, k, h, hk => by
    obtain ⟨h1, h2⟩ := List.nodup_cons.mp h
    show (a :: (r ++ [k])).Nodup
    refine List.nodup_cons.mpr ⟨fun m => ?_, nd_snoc h2 fun m => hk (List.mem_cons.mpr (Or.inr m))⟩
    rcases List.mem_append.mp m with q | q
    · exact h1 q
    · exact hk (List.mem_cons.mpr (Or.inl (List.mem_singleton.mp q).symm))
end
end L2

set_option Elab.async false
set_option linter.all false
set_option maxRecDepth 100000
set_option maxHeartbeats 4000000
/-! MY OWN RULES over the layer. -/
namespace L2
open PySem PySem.Spec PyProof.Rows
section
variable {X : Cx}
/-- isinstance(x, T), T one of Python's own types -/
theorem call_isinst : CallR X (.builtin "isinstance") (fun xs H Q => ∃ x T t b, xs = [x, .ty T] ∧ TyOf X.K H x t ∧ PySem.W.kitOne X.K t (.type T) = some b ∧ Q (.bl b) H) := by
  intro pins s σ H xs us Q I r h
  obtain ⟨x, T, t, b, rfl, ty, e, q⟩ := h
  obtain ⟨u, w', rfl, rx, rt⟩ := vals2 r
  obtain rfl : w' = Value.type T := rt
  exact isinst_ok I rx ty e fun tk => ⟨.bl b, H, I.tok _, rfl, q⟩
end
/-- two ways join again: M is what holds behind both -/
def tJ (t : TS) : TS := fun D σ H => ∃ M : St → Hp → Prop, t { D with nx := M } σ H ∧ ∀ σ' H', M σ' H' → D.nx σ' H'
theorem ps_join {X : Cx} {st : Stmt} {t : TS} (h : PS X st t) : PS X st (tJ t) := by
  intro pins s σ H D I hw
  obtain ⟨M, hw, hM⟩ := hw
  refine thn (h pins s σ H _ I hw) fun f s1 q => ?_
  cases f with
  | next =>
    obtain ⟨σ', H', I', q⟩ := q
    exact ⟨σ', H', I', hM σ' H' q⟩
  | ret v => exact q
  | brk => exact q
  | cont => exact q
/-! ### is, is not of two truths -/
section
variable {X : Cx}
end
/-! ### range(a, b, c), c > 0 -/
/-- lo, lo + c, .. (n of them) -/
def Itc (lo c : Int) (n : Nat) : It := ⟨fun i _ => i < n, fun i H x H' => H' = H ∧ x = .int (lo + i * c), fun i _ => n ≤ i⟩
/-- how many turns -/
def turnsC (lo hi c : Int) : Nat := (Builtin.Range.rangeSize lo hi c).toNat
section
variable {X : Cx} {tg : Expr}
def iRng3 (ta : TA) : TI := fun σ H R => ta σ H fun vs H1 => ∃ i j c : Int, vs = [.int i, .int j, .int c] ∧ (-(2 ^ 60) ≤ i ∧ i < 2 ^ 60 ∧ -(2 ^ 60) ≤ j ∧ j < 2 ^ 60) ∧ (0 < c ∧ c < 2 ^ 20) ∧ R (Itc i c (turnsC i j c)) H1
end
/-! ### argument lists, cheaper to look at -/
def plainE : Expr → Bool
  | .Starred _ _ => false
  | _ => true
theorem starEach_plain {e : Expr} (he : plainE e = true) (rest : List Expr) (env : Env) : starEach (e :: rest) env = (false, eval e env) :: starEach rest env := by
  cases e <;> first | rfl | (exact absurd (show false = true from he) Bool.false_ne_true)
theorem starAny_plain : ∀ {es : List Expr} (_ : es.all plainE = true) (env : Env) (pos : Pos), (backTo pos (starEach es env)).any (·.1) = false
  | [], _, _, _ => rfl
  | e :: es, h, env, pos => by
    rw [List.all_cons, Bool.and_eq_true] at h
    rw [starEach_plain h.1]
    exact starAny_plain h.2 env pos
theorem pa_c {X : Cx} {e : Expr} {es : List Expr} {te : TE} {t : TA} (ha : PE X e te) (hr : PA X es t) (hs : plainE e = true := by rfl) : PA X (e :: es) (tCons te t) := pa_cons ha hr (starEach_plain hs es X.env)
/-- written ints -/
def intsOf : List Expr → Option (List Int)
  | [] => some []
  | .Constant (.int i) _ _ :: r => (intsOf r).map (i :: ·)
  | _ => none
/-- a global name that is an object, one that is a type of Python's own, one that is an int -/
theorem pe_gref {X : Cx} {x : Str} {a : Addr} {pos : Pos} (hm : X.mg x = some (.ref a)) (hg : Gl X x := by rfl) (hd : (x == ("__debug__" : Str)) = false := by decide) : PE X (.Name x pos) (tC (.ref a)) := pe_glob (v := .ref a) hg hm rfl hd
theorem pe_gint {X : Cx} {x : Str} {i : Int} {t : Tok} {pos : Pos} (hm : X.mg x = some (.int i t)) (hg : Gl X x := by rfl) (hd : (x == ("__debug__" : Str)) = false := by decide) : PE X (.Name x pos) (tC (.int i)) := pe_glob (v := .int i) hg hm ⟨t, rfl⟩ hd
theorem pe_ty {X : Cx} {x : Str} {n : String} {pos : Pos} (hm : X.mg x = none) (hv : bootBuiltins x = some (.type n)) (hg : Gl X x := by rfl) (hn : x ≠ "__name__" := by decide) (hd : (x == ("__debug__" : Str)) = false := by decide) : PE X (.Name x pos) (tC (.ty n)) := pe_bltn (v := .ty n) hg hm hv rfl hn hd
/-- f(e, ..), f a built-in function; T(e, ..), T a built-in type -/
theorem pe_b {X : Cx} {x : Str} {p pos : Pos} {e : Expr} {es : List Expr} {t : TA} {id : String} {r : List V → Hp → VK → Prop} (hc : CallR X (.builtin id) r) (hm : X.mg x = none) (hv : bootBuiltins x = some (.builtin id)) (ha : PA X (e :: es) t) (hp : plainE e = true := by rfl) (hps : es.all plainE = true := by rfl) (hg : Gl X x := by rfl)
    (hn : x ≠ "__name__" := by decide) (hdb : (x == ("__debug__" : Str)) = false := by decide) : PE X (.Call (.Name x p) (e :: es) [] pos) (tCB r t) := pe_callB hc hg hm hv ha hn hdb (starEach_plain hp _ _) (starAny_plain hps _ _)
theorem pe_t {X : Cx} {x : Str} {p pos : Pos} {e : Expr} {es : List Expr} {t : TA} {T : String} {r : List V → Hp → VK → Prop} (hc : CallR X (.type T) r) (hm : X.mg x = none) (hv : bootBuiltins x = some (.type T)) (ha : PA X (e :: es) t) (hp : plainE e = true := by rfl) (hps : es.all plainE = true := by rfl) (hg : Gl X x := by rfl)
    (hn : x ≠ "__name__" := by decide) (hdb : (x == ("__debug__" : Str)) = false := by decide) : PE X (.Call (.Name x p) (e :: es) [] pos) (tCB r t) := pe_callTy hc hg hm hv ha hn hdb (starEach_plain hp _ _) (starAny_plain hps _ _)
/-! ### heaps -/
theorem upd_old {H : Hp} {p q : Addr} {o u : HO} (h : H q = some o) (hn : H p = none) : upd H p u q = some o := by
  rw [upd_ne (ne_of_none h hn)]
  exact h
theorem Same.new {H H1 : Hp} {p : Addr} {o : HO} (s : Same H H1) (h : H1 p = none) : Same H (upd H1 p o) := fun b u e => upd_old (s b u e) h
/-! ### tests whose answer is known -/
theorem iteFB {b : Bool} {A B : Prop} (e : b = false) (h : B) : if b = true then A else B := by subst e; exact iteF h
theorem iteTB {b : Bool} {A B : Prop} (e : b = true) (h : A) : if b = true then A else B := by subst e; exact iteT h
theorem iteDT {c A B : Prop} [Decidable c] (hc : c) (h : A) : if decide c = true then A else B := iteTB (decide_eq_true hc) h
theorem iteDF {c A B : Prop} [Decidable c] (hc : ¬ c) (h : B) : if decide c = true then A else B := iteFB (decide_eq_false hc) h
theorem iteD {c A B : Prop} [Decidable c] (h1 : c → A) (h2 : ¬ c → B) : if decide c = true then A else B := by
  by_cases h : c
  · exact iteDT h (h1 h)
  · exact iteDF h (h2 h)
theorem iteN {c A B : Prop} [Decidable c] (h1 : ¬ c → A) (h2 : c → B) : if (!decide c) = true then A else B := by
  by_cases h : c
  · exact iteFB (by rw [decide_eq_true h]; rfl) (h2 h)
  · exact iteTB (by rw [decide_eq_false h]; rfl) (h1 h)
/-! ### a def of the module, all in one -/
structure Def (K : PySem.W.Frag) (mg : Str → Option Value) (x : Str) (st : Stmt) (ps : List Str) (f : Addr) (fd : FuncData) : Prop where
  F : Fun K x x st f fd
  b : Binds K fd ps []
  m : mg x = some (.ref f)
/-- f(e, ..) of a def that raises nothing -/
theorem pe_def {X : Cx} {x : Str} {st : Stmt} {ps : List Str} {f : Addr} {fd : FuncData} {k : Nat} {sp : Sp} {p pos : Pos} {e : Expr} {es : List Expr} {t : TA} (D : Def X.K X.mg x st ps f fd) (G : FnOk X.prog X.w X.K X.mg X.base CX0 k f fd ps sp) (hr : Room k X.A) (ha : PA X (e :: es) t)
    (hp : plainE e = true := by rfl) (hps : es.all plainE = true := by rfl) (hg : Gl X x := by rfl) (hdb : (x == ("__debug__" : Str)) = false := by decide) :
    PE X (.Call (.Name x p) (e :: es) [] pos) (tCall sp [] E0 t) := pe_call G hr hg D.m D.F.kp D.b .nil pass0 ha hdb (starEach_plain hp _ _) (starAny_plain hps _ _)
/-- a tuple of the module -/
structure TupC (K : PySem.W.Frag) (a : Addr) (xs : List V) : Prop where
  ex : ∃ (o : Obj) (its : Array Value) (n : Nat), K.lookup a = some o ∧ o.cls = .type "tuple" ∧ o.data = .seq its n ∧ its.size ≤ sizeLine ∧ Vals xs its.toList
end L2


set_option Elab.async false
set_option linter.all false
set_option maxRecDepth 100000
set_option maxHeartbeats 4000000
/-! LIST COMPREHENSIONS over the layer: the block is a context of its own (its own names, the caught cells), the list that is made is tracked. -/
namespace L2
open PySem PySem.Spec PyProof.Rows
/-! ### the names that are caught -/
theorem closure_is {env : Env} : ∀ (names : List (Str × NameKind)) (acc : List (Str × Addr)), (∀ x ∈ names, x.2 = .free → ∃ c, env.cells.lookup x.1 = some c) → (∀ x c, acc.lookup x = some c → env.cells.lookup x = some c) →
    ∃ cl : List (Str × Addr), (forIn (m := Sem) names acc fun (x : Str × NameKind) cs => if (x.2 == NameKind.free) = true then do let a ← cellOf env x.1; pure (ForInStep.yield ((x.1, a) :: cs)) else pure (ForInStep.yield cs)) = pure cl ∧
      (∀ x c, cl.lookup x = some c → env.cells.lookup x = some c) ∧ (∀ x, (∃ c, acc.lookup x = some c) → ∃ c, cl.lookup x = some c) ∧ (∀ x ∈ names, x.2 = .free → ∃ c, cl.lookup x.1 = some c)
  | [], acc, _, h => ⟨acc, rfl, h, fun _ z => z, fun _ z => nomatch z⟩
  | (n, k) :: r, acc, hf, h => by
    by_cases hk : k = .free
    · subst hk
      obtain ⟨c, hc⟩ := hf (n, .free) List.mem_cons_self rfl
      have hc' : cellOf env n = pure c := by unfold cellOf; rw [hc]
      obtain ⟨cl, e, h1, h2, h3⟩ := closure_is r ((n, c) :: acc) (fun x hx => hf x (List.mem_cons_of_mem _ hx)) (fun x d hx => by
        rw [List.lookup_cons] at hx
        split at hx
        · rename_i q
          have q' : x = n := by simpa using q
          cases hx
          rw [q']; exact hc
        · exact h x d hx)
      refine ⟨cl, ?_, h1, fun x ⟨d, hd⟩ => h2 x ?_, fun x hx hx2 => ?_⟩
      · rw [List.forIn_cons, ← e]
        simp only [beq_self_eq_true, if_true, hc']
        rfl
      · rw [List.lookup_cons]
        split
        · exact ⟨_, rfl⟩
        · exact ⟨d, hd⟩
      · rcases List.mem_cons.mp hx with rfl | hx
        · exact h2 n ⟨c, by simp⟩
        · exact h3 x hx hx2
    · obtain ⟨cl, e, h1, h2, h3⟩ := closure_is r acc (fun x hx => hf x (List.mem_cons_of_mem _ hx)) h
      refine ⟨cl, ?_, h1, h2, fun x hx hx2 => ?_⟩
      · rw [List.forIn_cons, ← e]
        have : (k == NameKind.free) = false := by simpa using hk
        simp only [this, Bool.false_eq_true, if_false]
        rfl
      · rcases List.mem_cons.mp hx with rfl | hx
        · exact absurd hx2 hk
        · exact h3 x hx hx2
theorem closureFor_is {scope : Scope} {env : Env} (hf : ∀ x ∈ scope.names, x.2 = .free → ∃ c, env.cells.lookup x.1 = some c) :
    ∃ cl : List (Str × Addr), closureFor scope env = pure cl ∧ (∀ x c, cl.lookup x = some c → env.cells.lookup x = some c) ∧ (∀ x ∈ scope.names, x.2 = .free → ∃ c, cl.lookup x.1 = some c) := by
  obtain ⟨cl, e, h1, _, h3⟩ := closure_is scope.names [] hf (fun _ _ z => by cases z)
  refine ⟨cl, ?_, h1, h3⟩
  simp only [closureFor]
  exact (congrArg (fun m : Sem (List (Str × Addr)) => m >>= fun s => pure s) e).trans rfl
/-! ### a turn of the loop, the pair's own step kept -/
section
variable {prog : Program} {w : World} {A : Around} {R : Result → Shared → Prop} {s : Shared}
theorem loop_turns {elt target iter : Expr} {ifs : List Expr} {scope : Scope} {pos : Pos} {it acc : Value} {env : Env} (I : Nat → Shared → Prop)
    (turn : ∀ n s, I n s → wpAny (model prog w) A (pyNext it) (fun r s₁ => match r with
      | none => R (.ok .next) s₁
      | some v => wpAny (model prog w) A (letOwnedTupleGo target it v) (fun _ s₁ => wpAny (model prog w) A (assign target env v) (fun _ s₂ =>
          wpAny (model prog w) A (forIn ifs true fun c r => if r = true then do let ok ← isTrue c env (eval c env); pure (ForInStep.yield ok) else pure (ForInStep.yield r)) (fun ok s₃ =>
            if ok = true then wpAny (model prog w) A (eval elt env) (fun x s₄ =>
              wpAny (model prog w) A (call (.builtin "list.append") [acc, x]) (fun _ s₅ => ∃ m, m < n ∧ I m s₅) (fun _ _ => False) s₄) (fun _ _ => False) s₃
            else ∃ m, m < n ∧ I m s₃) (fun _ _ => False) s₂) (fun _ _ => False) s₁) (fun _ _ => False) s₁) (fun _ _ => False) s)
    (n : Nat) (h : I n s) :
    codeAny (model prog w) A (.compLoop (.ListComp elt [⟨target, iter, ifs, 0⟩] scope pos) 0 it acc env) R s := by
  refine codeAny_loop rfl I (fun n s hI => ?_) n h
  show wpAny _ A ((compTurn (.ListComp elt [⟨target, iter, ifs, 0⟩] scope pos) 0 it acc env).onRaise (fun x => do noteFrame x env; theTreesLotGoes x)) _ _ s
  refine wpAny_noted ?_
  rw [compTurn_list]
  refine wpAny_bind (wpAny_standAt (wpAny_bind (wpAny_mono (turn n s hI) (fun r s₁ h₁ => ?_) fun _ _ h' => h'.elim)))
  cases r with
  | none => exact wpAny_pure h₁
  | some v =>
    refine wpAny_bind (wpAny_mono h₁ (fun _ s₁ h₁ => ?_) fun _ _ h' => h'.elim)
    refine wpAny_bind (wpAny_mono h₁ (fun _ s₂ h₂ => wpAny_bind (wpAny_mono h₂ (fun ok s₃ h₃ => ?_) fun _ _ h' => h'.elim)) fun _ _ h' => h'.elim)
    cases ok with
    | false => exact wpAny_pure ⟨rfl, h₃⟩
    | true =>
      exact wpAny_bind (wpAny_bind (wpAny_mono h₃ (fun x s₄ h₄ => wpAny_bind (wpAny_mono h₄ (fun _ s₅ h₅ => wpAny_pure (wpAny_pure ⟨rfl, h₅⟩)) fun _ _ h' => h'.elim)) fun _ _ h' => h'.elim))
end
/-! ### the block's context -/
def blk (X : Cx) (N' : List Str) (scope : Scope) (cl : List (Str × Addr)) (C : Addr) (s : Shared) (H : Hp) (ex : List Addr) : Cx :=
  { prog := X.prog, w := X.w, K := X.K, mg := X.mg, base := X.base, A := X.A, N := N', s₀ := s, H₀ := H, env := compEnvC scope cl C X.env, outer := X.stack, stack := X.stack, ex := ex, fn := fun _ => false, calm := X.calm, pn := [], xe := fun _ _ => False }
def PIfs (X : Cx) (ifs : List Expr) (t : TT) : Prop :=
  ∀ (pins : List (Addr × Obj)) (s : Shared) (σ : St) (H : Hp) (Q : Bool → Hp → Prop), Inv X pins σ H s → t σ H Q →
    wpAny (model X.prog X.w) X.A (forIn ifs true fun c r => if r = true then do let ok ← isTrue c X.env (eval c X.env); pure (ForInStep.yield ok) else pure (ForInStep.yield r)) (TP X pins σ Q) X.xe s
def tYes : TT := fun _ H Q => Q true H
theorem pifs_nil {X : Cx} : PIfs X [] tYes := fun pins s σ H Q I h => wpAny_tests_nil ⟨H, I, h⟩
theorem pifs_one {X : Cx} {c : Expr} {t : TT} (h : PT X c t) : PIfs X [c] t := fun pins s σ H Q I q => wpAny_tests_one (h pins s σ H Q I q)
/-- the names at the block's entry: its own, then the caught ones -/
def blkσ (own : Nat) (fr : List Nat) (σ : St) : St := List.replicate own none ++ fr.map fun j => (σ[j]?).join
/-- W: by the turn, a measure, what is in the list; l: the list -/
def tComp (own : Nat) (fr : List Nat) (wi : TI) (g : TG) (tt : TT) (te : TE) : TE := fun σ H Q => wi σ H fun J H1 => ∀ l, H1 l = none →
  ∃ W : Nat → Nat → List V → St → Hp → Prop, (∃ m, W 0 m [] (blkσ own fr σ) (upd H1 l (.lst []))) ∧ ∀ i m ys σ H, W i m ys σ H →
    (J.stop i H ∧ Q (.ref l) H) ∨ (J.go i H ∧ ∀ x H', J.yld i H x H' → g x σ H' fun σ2 H2 => tt σ2 H2 fun b H3 =>
      if b = true then te σ2 H3 fun v H4 => H4 l = some (.lst ys) ∧ ys.length < sizeLine ∧ ∃ m', m' < m ∧ W (i + 1) m' (ys ++ [v]) σ2 (upd H4 l (.lst (ys ++ [v])))
      else ∃ m', m' < m ∧ W (i + 1) m' ys σ2 H3)
/-- the shape of a comprehension's scope: own names, then caught ones -/
structure BlkScope (N : List Str) (sc : Scope) (N' : List Str) (own : Nat) (fr : List Nat) (scope : Scope) : Prop where
  kind : scope.kind = .function
  nocell : ∀ y ∈ scope.names, y.2 ≠ .cell
  names : ∀ y ∈ scope.names, y.2 = .local → scope.names.lookup y.1 = some .local
  len : N'.length = own + fr.length
  free : ∀ y ∈ scope.names, y.2 = .free → sc.names.lookup y.1 = some .cell ∨ sc.names.lookup y.1 = some .free
  apart : ∀ y ∈ scope.names, y.2 = .free → scope.names.lookup y.1 ≠ some .local
  ixs : ∀ k ∈ List.range fr.length, N'[own + k]? = N[fr[k]?.getD 0]? ∧ (N'[own + k]?.getD "", NameKind.free) ∈ scope.names
theorem BlkScope.ix {N : List Str} {sc : Scope} {N' : List Str} {own : Nat} {fr : List Nat} {scope : Scope} (B : BlkScope N sc N' own fr scope) (k j : Nat) (h : fr[k]? = some j) : ∃ x, N'[own + k]? = some x ∧ N[j]? = some x ∧ (x, NameKind.free) ∈ scope.names := by
  have hk : k < fr.length := (List.getElem?_eq_some_iff.mp h).1
  obtain ⟨e1, e2⟩ := B.ixs k (List.mem_range.mpr hk)
  have hlt : own + k < N'.length := by rw [B.len]; omega
  have e3 : N'[own + k]? = some N'[own + k] := List.getElem?_eq_getElem hlt
  rw [h] at e1
  rw [e3] at e1 e2
  exact ⟨_, e3, e1.symm, e2⟩
theorem relabel_lookup {env : Env} {x : Str} {k : NameKind} : ∀ {names : List (Str × NameKind)},
    (names.map fun (n, k) => if (k == NameKind.free && env.scope.kind == .function && env.kindOf n == some .cell) then (n, NameKind.cell) else (n, k)).lookup x = some k → ∃ k', (x, k') ∈ names ∧ (k = k' ∨ (k = .cell ∧ k' = .free))
  | [], h => by cases h
  | (n, k0) :: r, h => by
    rw [List.map_cons] at h
    by_cases hc : (k0 == NameKind.free && env.scope.kind == .function && env.kindOf n == some .cell) = true
    · simp only [hc, if_true, List.lookup_cons] at h
      cases hx : x == n with
      | true =>
        have hx' : x = n := by simpa using hx
        subst hx'
        simp only [hx] at h
        cases h
        have : k0 = .free := by
          simp only [Bool.and_eq_true, beq_iff_eq] at hc
          exact hc.1.1
        exact ⟨k0, List.mem_cons_self, .inr ⟨rfl, this⟩⟩
      | false =>
        simp only [hx] at h
        obtain ⟨k', m, q⟩ := relabel_lookup h
        exact ⟨k', List.mem_cons_of_mem _ m, q⟩
    · have hc' : (k0 == NameKind.free && env.scope.kind == .function && env.kindOf n == some .cell) = false := by simpa using hc
      simp only [hc', Bool.false_eq_true, if_false, List.lookup_cons] at h
      cases hx : x == n with
      | true =>
        have hx' : x = n := by simpa using hx
        subst hx'
        simp only [hx] at h
        cases h
        exact ⟨_, List.mem_cons_self, .inl rfl⟩
      | false =>
        simp only [hx] at h
        obtain ⟨k', m, q⟩ := relabel_lookup h
        exact ⟨k', List.mem_cons_of_mem _ m, q⟩
section
variable {X : Cx} {tg : Expr}
/-- what the loop leaves: the list is made, the frame is as it was -/
theorem comp_run {elt iter : Expr} {ifs : List Expr} {scope : Scope} {pos : Pos} {N' : List Str} {own : Nat} {fr : List Nat} {wi : TI} {g : TG} {tt : TT} {te : TE} (hc : X.calm = true) (B : BlkScope X.N X.env.scope N' own fr scope) (hi : PI X tg iter wi)
    (hg : ∀ cl C s H ex, PG (blk X N' scope cl C s H ex) tg g) (ht : ∀ cl C s H ex, PIfs (blk X N' scope cl C s H ex) ifs tt) (he : ∀ cl C s H ex, PE (blk X N' scope cl C s H ex) elt te)
    {pins : List (Addr × Obj)} {s : Shared} {σ : St} {H : Hp} {Q : VK} {use : Option (Value → Sem Unit)} {QQ : Value → Shared → Prop} (I : Inv X pins σ H s) (h : tComp own fr wi g tt te σ H Q)
    (fin : ∀ l C H' s', Inv X pins σ H' s' → Q (.ref l) H' → (∃ m, s'.heap.Ns C m) → FpOk X pins H' C → compPost (model X.prog X.w) X.A X.xe use QQ (.ref l) C (.ok .next) s')
    (hs : ∀ x, foldedSetIterable iter X.env x = pure x) :
    wpAny (model X.prog X.w) X.A (comprehension (.ListComp elt [⟨tg, iter, ifs, 0⟩] scope pos) scope X.env (firstIterPos [⟨tg, iter, ifs, 0⟩] pos) (newList []) false (eval iter X.env) use) QQ X.xe s := by
  obtain ⟨cl, ecl, cl1, cl2⟩ := closureFor_is (scope := scope) (env := X.env) fun x hx hf => I.ok.has x.1 (B.free x hx hf)
  refine wpAny_comprehension_free rfl hs ecl B.kind B.names (thn (hi pins s σ H _ I h) fun v s1 h1 => thn h1 fun itv s2 h2 => ?_)
  obtain ⟨it, fp, tn, J, H2, e, I2, T, st2, f2, hq⟩ := h2
  subst e
  refine wpAny_newObj_type (wpAny_newFunctionEnv B.nocell (by intro y hy; simp at hy) (fun h₁ hns₁ hsb₁ => ?_) B.kind)
  dsimp only at hns₁ hsb₁ ⊢
  have I3 := I2.lnew (its := []) (ys := []) (t' := s2.toks) .nil (Nat.zero_le _)
  obtain ⟨W, ⟨m0, w0⟩, turn⟩ := hq s2.heap.objs.size I2.fresh
  have e3 : ({ s2 with heap := s2.heap.push { cls := .type "list", data := .seq ([] : List Value).toArray }, toks := s2.toks } : Shared) = { s2 with heap := s2.heap.push { cls := .type "list", data := .seq ([] : List Value).toArray } } := rfl
  rw [e3] at I3
  generalize hs3 : ({ s2 with heap := s2.heap.push { cls := .type "list", data := .seq ([] : List Value).toArray } } : Shared) = s3 at I3
  have hh3 : s3.heap = s2.heap.push { cls := .type "list", data := .seq ([] : List Value).toArray } := by rw [← hs3]
  have hs1 : s2.heap.objs.size < s3.heap.objs.size := by rw [hh3, Heap.size_push]; exact Nat.lt_succ_self _
  generalize hl : s2.heap.objs.size = l at *
  generalize hC : (s2.heap.push { cls := .type "list", dict := none, data := .seq ([] : List Value).toArray }).objs.size = C at *
  have hC3 : s3.heap.objs.size = C := by rw [hh3]; exact hC
  have fpl : ∀ b ∈ fp, b < l := fun b hb => by
    obtain ⟨o, e, _⟩ := T.obj _ _ st2 b hb
    rw [← hl]; exact Heap.lt_size e
  have hlC : l < C := by rw [← hC3]; exact hs1
  have f3 : ∀ b ∈ fp, FpOk X pins (upd H2 l (.lst [])) b := fun b hb => ⟨by rw [upd_ne (Nat.ne_of_lt (fpl b hb))]; exact (f2 b hb).1, (f2 b hb).2⟩
  have okB : (blk X N' scope cl C s3 (upd H2 l (.lst [])) fp).Ok := by
    refine ⟨I3.ok.mod, B.kind, I3.ok.glob, I3.ok.blt, Nat.le_of_eq hC3, fun x y c h1 h2 => I3.ok.inj x y c (cl1 x c h1) (cl1 y c h2), fun x hx => ?_, fun x c z => absurd z Bool.false_ne_true, I3.ok.hd, I3.ok.frames, .inl rfl, fun b hb => ⟨?_, fun x c e => (f3 b hb).2.2.2.2.1 x c (cl1 x c e)⟩, fun b o e => I3.bs b o e, Nat.le_trans I3.ok.bsz I3.sz, fun b o e hb => ?_, fun b hb z => ?_, I3.stack, I3.stkFree⟩
    · have : ∃ k, (relabel scope X.env).names.lookup x = some k ∧ (k = .cell ∨ k = .free) := by
        rcases hx with hx | hx
        · exact ⟨_, hx, .inl rfl⟩
        · exact ⟨_, hx, .inr rfl⟩
      obtain ⟨k, hk, hkk⟩ := this
      obtain ⟨k', hm, hk'⟩ := relabel_lookup hk
      have hfr : k' = .free := by
        rcases hk' with rfl | ⟨_, z⟩
        · rcases hkk with rfl | rfl
          · exact absurd rfl (B.nocell _ hm)
          · rfl
        · exact z
      subst hfr
      exact cl2 (x, .free) hm rfl
    · exact Nat.ne_of_lt (Nat.lt_trans (fpl b hb) hlC)
    · rcases (f3 b hb).2.2.2.1 with z | z
      · exact I3.ok.noex b o e z
      · exact absurd (Nat.lt_of_lt_of_le (Heap.lt_size e) (Nat.le_trans I3.ok.bsz z)) (Nat.lt_irrefl _)
    · rcases List.mem_cons.mp (I3.stkSub b z) with q | q
      · exact (f3 b hb).2.1 q
      · exact (f3 b hb).2.2.1 q
  have old : ∀ b o, s3.heap.get? b = some o → h₁.get? b = some o := fun b o e => hsb₁.extBut b o (Nat.ne_of_lt (by rw [← hC3]; exact Heap.lt_size e)) (Heap.get?_push_of_some _ (by rw [hh3] at e; exact e))
  have I4 : Inv (blk X N' scope cl C s3 (upd H2 l (.lst [])) fp) [] (blkσ own fr σ) (upd H2 l (.lst [])) { s3 with heap := h₁ } := by
    refine ⟨okB, rfl, I3.bare, Un.kept old, ⟨_, hns₁, fun i x v h1 h2 h3 => ?_⟩, fun x c e => ?_, I3.hok.fresh (Nat.le_of_eq hC3), fun x c e => I3.freeC x c (cl1 x c e), (fun p hp => absurd hp (List.not_mem_nil)), I3.hok.kept old, ?_⟩
    · unfold blkσ at h2
      by_cases hio : i < own
      · rw [List.getElem?_append_left (by simpa using hio), List.getElem?_replicate, if_pos hio] at h2
        cases h2
      · rw [List.getElem?_append_right (by simpa using hio), List.length_replicate, List.getElem?_map] at h2
        cases hj : fr[i - own]? with
        | none => rw [hj] at h2; cases h2
        | some j =>
          rw [hj] at h2
          have h2' : (σ[j]?).join = some v := Option.some.inj h2
          obtain ⟨x', n1, n2, n3⟩ := B.ix _ _ hj
          have hio' : own + (i - own) = i := by omega
          rw [hio'] at n1
          have n1' : N'[i]? = some x := h1
          rw [n1'] at n1
          cases n1
          have hσ : σ[j]? = some (some v) := by
            cases q : σ[j]? with
            | none => rw [q] at h2'; cases h2'
            | some o => rw [q] at h2'; cases o with
              | none => cases h2'
              | some v' => cases h2'; rfl
          have hvis := B.free _ n3 rfl
          obtain ⟨m', hn', hl'⟩ := I3.loc
          obtain ⟨u, ru, lk⟩ := hl' j x v n2 hσ (.inr hvis)
          refine ⟨u, ru, ?_⟩
          obtain ⟨c, hc⟩ := cl2 _ n3 rfl
          rcases lk with ⟨k1, _⟩ | ⟨_, c', hc', hcell⟩
          · have k1' : X.env.scope.names.lookup x = some .local := k1
            rcases hvis with z | z <;> (rw [k1'] at z; cases z)
          · have : c' = c := Option.some.inj (hc'.symm.trans (cl1 x c hc))
            subst this
            have hkind : ∃ k, (relabel scope X.env).names.lookup x = some k := by
              rcases h3 with z | z | z
              · exact ⟨_, z⟩
              · exact ⟨_, z⟩
              · exact ⟨_, z⟩
            refine .inr ⟨?_, c', hc, ?_⟩
            · rcases h3 with z | z | z
              · exfalso
                obtain ⟨k', hm, hk'⟩ := relabel_lookup z
                have : k' = .local := by
                  rcases hk' with q | ⟨q, _⟩
                  · exact q.symm
                  · cases q
                subst this
                have q1 := B.names _ hm rfl
                exact B.apart _ n3 rfl q1
              · exact .inl z
              · exact .inr z
            · obtain ⟨o, ho, hd⟩ := hcell
              exact ⟨o, old _ o ho, hd⟩
    · obtain ⟨v, o, ho, hd⟩ := I3.cell x c (cl1 x c e)
      exact ⟨v, o, old _ o ho, hd⟩
    · unfold blkσ
      show _ = N'.length
      rw [List.length_append, List.length_replicate, List.length_map, B.len]
  have st4 : tn 0 h₁ := T.keep _ _ _ st2 fun b hb o e => old b o (by rw [hh3]; exact Heap.get?_push_of_some _ e)
  -- what stays true of the iterator's records
  have stat : ∀ {H' : Hp}, (∀ b ∈ fp, H' b = none) → ∀ b ∈ fp, FpOk (blk X N' scope cl C s3 (upd H2 l (.lst [])) fp) [] H' b := fun hn b hb =>
    ⟨hn b hb, (okB.exf b hb).1, okB.exfs b hb, .inl hb, (okB.exf b hb).2, (fun p hp => absurd hp (List.not_mem_nil))⟩
  have loop : codeAny (model X.prog X.w) X.A (.compLoop (.ListComp elt [⟨tg, iter, ifs, 0⟩] scope pos) 0 (.ref it) (.ref l) (compEnvC scope cl C X.env)) (compPost (model X.prog X.w) X.A X.xe use QQ (.ref l) C) { s3 with heap := h₁ } := by
    refine loop_turns (fun n s' => ∃ i ys σ' H', Inv (blk X N' scope cl C s3 (upd H2 l (.lst [])) fp) [] σ' H' s' ∧ tn i s'.heap ∧ (∀ b ∈ fp, H' b = none) ∧ W i n ys σ' H') ?_ m0 ⟨0, [], _, _, I4, st4, fun b hb => (f3 b hb).1, w0⟩
    rintro n s5 ⟨i, ys, σ5, H5, I5, st5, fr5, w5⟩
    rcases turn i n ys σ5 H5 w5 with ⟨stop, q⟩ | ⟨go, step⟩
    · refine thn (T.done (blk X N' scope cl C s3 (upd H2 l (.lst [])) fp) rfl rfl rfl hc i [] s5 σ5 H5 _ I5 (stat fr5) st5 stop) fun r s6 ⟨hr, I6⟩ => ?_
      subst hr
      have IX : Inv X pins σ H5 s6 := I3.call' (ch := fp) I6.os I6.base I6.hok I6.bare fun b hb => ⟨(f3 b hb).2.2.2.1, (f3 b hb).2.1, (f3 b hb).2.2.2.2.1, (f3 b hb).2.2.2.2.2⟩
      obtain ⟨m, hn, _⟩ := I6.loc
      exact fin l C H5 s6 IX q ⟨m, hn⟩ (I3.fpOk (Nat.le_of_eq hC3) I6.free)
    · refine thn (T.item (blk X N' scope cl C s3 (upd H2 l (.lst [])) fp) rfl rfl rfl hc i [] s5 σ5 H5 _ I5 (stat fr5) st5 go) fun r s6 ⟨u, hr, h6⟩ => ?_
      subst hr
      refine thn h6 fun _ s7 ⟨x, H7, I7, r7, y7, st7, fr7⟩ => ?_
      have I7' := I7.pinned (stat fr7) (T.obj _ _ st7)
      have keep : ∀ {σ8 : St} {H8 : Hp} {s8 : Shared}, Inv (blk X N' scope cl C s3 (upd H2 l (.lst [])) fp) ([] ++ pinsAt fp s7.heap) σ8 H8 s8 → tn (i + 1) s8.heap ∧ ∀ b ∈ fp, H8 b = none := fun {σ8 H8 s8} I8 => by
        refine ⟨T.keep _ _ _ st7 fun b hb o e => (I8.pin (b, o) (List.mem_append_right _ (List.mem_append_right _ (mem_pinsAt hb e)))).1, fun b hb => ?_⟩
        obtain ⟨o, e, d⟩ := T.obj _ _ st7 b hb
        exact (I8.pin (b, o) (List.mem_append_right _ (List.mem_append_right _ (mem_pinsAt hb e)))).2.1
      refine thn (hg cl C s3 (upd H2 l (.lst [])) fp _ s7 σ5 H7 x u _ I7' r7 (step x H7 y7)) fun _ s8 ⟨σ8, H8, I8, q8⟩ => ?_
      refine thn (ht cl C s3 (upd H2 l (.lst [])) fp _ s8 σ8 H8 _ I8 q8) fun ok s9 ⟨H9, I9, q9⟩ => ?_
      cases ok with
      | false =>
        rw [if_neg (by decide)] at q9 ⊢
        obtain ⟨m', hm, w9⟩ := q9
        exact ⟨m', hm, i + 1, ys, σ8, H9, I9.unpinned, (keep I9).1, (keep I9).2, w9⟩
      | true =>
        rw [if_pos rfl] at q9 ⊢
        refine thn (he cl C s3 (upd H2 l (.lst [])) fp _ s9 σ8 H9 _ I9 q9) fun y sA ⟨v, HA, IA, rA, hA, hz, m', hm, wA⟩ => ?_
        refine thn (mt_append (X := blk X N' scope cl C s3 (upd H2 l (.lst [])) fp) _ sA σ8 HA (.ref l) [v] (.ref l) [y] (fun z H' => z = .non ∧ H' = upd HA l (.lst (ys ++ [v]))) IA rfl (.cons rA .nil) ⟨l, ys, v, rfl, rfl, hA, hz, rfl, rfl⟩) fun _ sB ⟨_, HB, IB, _, _, eB⟩ => ?_
        subst eB
        exact ⟨m', hm, i + 1, ys ++ [v], σ8, _, IB.unpinned, (keep IB).1, (keep IB).2, wA⟩
  have e4 : ({ s3 with heap := h₁ } : Shared) = { s2 with heap := h₁, toks := s2.toks + ([] : List (Str × Value)).length } := by rw [← hs3]; rfl
  rw [e4] at loop
  exact codeAny_compStart_list loop (T.self _ 0 _ _ _ (by exact st4) loop)
theorem pe_comp {elt iter : Expr} {ifs : List Expr} {scope : Scope} {pos : Pos} {N' : List Str} {own : Nat} {fr : List Nat} {wi : TI} {g : TG} {tt : TT} {te : TE} (hc : X.calm = true) (B : BlkScope X.N X.env.scope N' own fr scope) (hi : PI X tg iter wi)
    (hg : ∀ cl C s H ex, PG (blk X N' scope cl C s H ex) tg g) (ht : ∀ cl C s H ex, PIfs (blk X N' scope cl C s H ex) ifs tt) (he : ∀ cl C s H ex, PE (blk X N' scope cl C s H ex) elt te)
    (hs : ∀ x, foldedSetIterable iter X.env x = pure x := by intro _; rfl) : PE X (.ListComp elt [⟨tg, iter, ifs, 0⟩] scope pos) (tComp own fr wi g tt te) := by
  intro pins s σ H Q I h
  rw [eval_ListComp]
  refine comp_run hc B hi hg ht he I h (use := none) (fun l C H' s' I' q ⟨m, hn⟩ f => ?_) hs
  refine ⟨m, hn, fun h' hsb => ⟨.ref l, H', ?_, rfl, q⟩⟩
  exact I'.turned (t' := s'.toks) (fun b o hb e => (hsb.2 b hb).trans e) f.1 f.2.1 f.2.2.2.1 f.2.2.2.2.1 f.2.2.2.2.2
/-- y = [..], y a plain name: stored ahead of the block's own names going -/
theorem ps_setC {i : Nat} {x : Str} {px spos : Pos} {elt iter : Expr} {ifs : List Expr} {scope : Scope} {pos : Pos} {N' : List Str} {own : Nat} {fr : List Nat} {wi : TI} {g : TG} {tt : TT} {te : TE} (hN : X.N.Nodup) (hix : X.N[i]? = some x) (hx : X.env.scope.names.lookup x = some .local) (hc : X.calm = true) (B : BlkScope X.N X.env.scope N' own fr scope) (hi : PI X tg iter wi)
    (hg : ∀ cl C s H ex, PG (blk X N' scope cl C s H ex) tg g) (ht : ∀ cl C s H ex, PIfs (blk X N' scope cl C s H ex) ifs tt) (he : ∀ cl C s H ex, PE (blk X N' scope cl C s H ex) elt te)
    (hsw : swapsWith (.ListComp elt [⟨tg, iter, ifs, 0⟩] scope pos) (some (.Name x px)) spos.line X.env = pure true := by rfl) (hs : ∀ x, foldedSetIterable iter X.env x = pure x := by intro _; rfl) :
    PS X (.Assign [.Name x px] (.ListComp elt [⟨tg, iter, ifs, 0⟩] scope pos) spos) (tAsg (tComp own fr wi g tt te) (gName i)) := by
  intro pins s σ H D I h
  rw [exec_Assign_Name_used _ _ _ _ hsw]
  refine wpAny_bind (wpAny_standAt (wpAny_bind ?_))
  show wpAny _ _ (do let _ ← comprehension (.ListComp elt [⟨tg, iter, ifs, 0⟩] scope pos) scope X.env _ (newList []) false (eval iter X.env) (some (assign (.Name x px) X.env))) _ _ s
  refine wpAny_bind (wpAny_mono (comp_run hc B hi hg ht he I h (use := some (assign (.Name x px) X.env)) (QQ := fun _ s' => SP X pins D .next s') (fun l C H' s' I' q ⟨m, hn⟩ f => ?_) hs) (fun _ s' hq => wpAny_pure (wpAny_pure hq)) fun _ _ e => e)
  show wpAny _ _ (assign (.Name x px) X.env (.ref l)) _ _ s'
  refine wpAny_assign_Name (store_ok2 I' hN hix (.inl hx) (v := .ref l) rfl (fun s'' I'' ⟨a, hsa, ha⟩ => ?_) (.inr hx))
  have ne : C ≠ a := by
    rcases ha with rfl | ha
    · exact f.2.1
    · exact fun z => f.2.2.2.2.1 _ _ ha z.symm
  refine ⟨m, hn.sameBut hsa ne, fun h' hsb => ⟨_, H', ?_, q⟩⟩
  exact I''.turned (t' := s''.toks) (fun b o hb e => (hsb.2 b hb).trans e) f.1 f.2.1 f.2.2.2.1 f.2.2.2.2.1 f.2.2.2.2.2
end
/-! ### rules whose reading names the kit, in a block -/
section
variable {X : Cx} {N' : List Str} {scope : Scope} {cl : List (Str × Addr)} {C : Addr} {s : Shared} {H : Hp} {ex : List Addr}
theorem pg_pairB {x y : Str} {px py pos : Pos} {k : Nat} {i j : Nat} (hc : X.calm = true) (hN : N'.Nodup) (hi : N'[i]? = some x) (hj : N'[j]? = some y) (lx : (relabel scope X.env).names.lookup x = some .local) (ly : (relabel scope X.env).names.lookup y = some .local) :
    PG (blk X N' scope cl C s H ex) (.Tuple [.Name x px, .Name y py] k pos) (gTup X.K 2 (gCons (gName i) (gCons (gName j) gNil))) :=
  pg_tup (X := blk X N' scope cl C s H ex) hc (pgs_cons (pg_name hN hi (.inl lx) (.inr lx)) (pgs_cons (pg_name hN hj (.inl ly) (.inr ly)) pgs_nil))
end
/-! ### the form one uses: nothing but new objects is made -/
theorem comp_gen {own : Nat} {fr : List Nat} {σ0 : St} {J : It} {g : TG} {tt : TT} {te : TE} {H1 : Hp} {Q : Addr → Hp → Prop} {n : Nat} (p : Nat → Bool) (f : Nat → V) (S : St → Prop) (h0 : S σ0) (hn : n ≤ sizeLine)
    (hy : ∀ i H' x H'', i < n → Same H1 H' → J.yld i H' x H'' → Same H' H'')
    (hJ : ∀ i σ H', i < n → S σ → Same H1 H' → J.go i H' ∧ ∀ x H'', J.yld i H' x H'' → ∀ (R : V → St → Hp → Prop) (R0 : St → Hp → Prop), (p i = true → ∀ σ2 H3, S σ2 → Same H'' H3 → R (f i) σ2 H3) → (p i = false → ∀ σ2 H3, S σ2 → Same H'' H3 → R0 σ2 H3) →
      g x σ H'' fun σ2 H2 => tt σ2 H2 fun b H3 => if b = true then te σ2 H3 fun v H4 => R v σ2 H4 else R0 σ2 H3)
    (hstop : ∀ H', Same H1 H' → J.stop n H')
    (hQ : ∀ l H', H1 l = none → Same H1 H' → H' l = some (.lst (((List.range n).filter p).map f)) → Q l H') :
    ∀ l, H1 l = none → ∃ W : Nat → Nat → List V → St → Hp → Prop, (∃ m, W 0 m [] σ0 (upd H1 l (.lst []))) ∧ ∀ i m ys σ H, W i m ys σ H →
    (J.stop i H ∧ Q l H) ∨ (J.go i H ∧ ∀ x H', J.yld i H x H' → g x σ H' fun σ2 H2 => tt σ2 H2 fun b H3 =>
      if b = true then te σ2 H3 fun v H4 => H4 l = some (.lst ys) ∧ ys.length < sizeLine ∧ ∃ m', m' < m ∧ W (i + 1) m' (ys ++ [v]) σ2 (upd H4 l (.lst (ys ++ [v])))
      else ∃ m', m' < m ∧ W (i + 1) m' ys σ2 H3) := by
  intro l hl
  refine ⟨fun i m ys σ H' => m = n - i ∧ i ≤ n ∧ S σ ∧ ys = ((List.range i).filter p).map f ∧ Same H1 H' ∧ H' l = some (.lst ys), ⟨n, by simp, Nat.zero_le _, h0, rfl, Same.new (Same.refl _) hl, upd_same⟩, ?_⟩
  rintro i m ys σ H' ⟨rfl, hi, hS, rfl, sm, hH⟩
  by_cases hlt : i < n
  · right
    obtain ⟨go, step⟩ := hJ i σ H' hlt hS sm
    refine ⟨go, fun x H'' y => ?_⟩
    have sy := hy i H' x H'' hlt sm y
    have hsnoc : List.range (i + 1) = List.range i ++ [i] := List.range_succ
    have hlen : (((List.range i).filter p).map f).length < sizeLine := by
      have := List.length_filter_le p (List.range i)
      rw [List.length_map]
      rw [List.length_range] at this
      omega
    refine step x H'' y (fun v σ2 H4 => H4 l = some (.lst (((List.range i).filter p).map f)) ∧ (((List.range i).filter p).map f).length < sizeLine ∧ ∃ m', m' < n - i ∧ m' = n - (i + 1) ∧ i + 1 ≤ n ∧ S σ2 ∧ (((List.range i).filter p).map f) ++ [v] = ((List.range (i + 1)).filter p).map f ∧ Same H1 (upd H4 l (.lst ((((List.range i).filter p).map f) ++ [v]))) ∧ upd H4 l (.lst ((((List.range i).filter p).map f) ++ [v])) l = some (.lst ((((List.range i).filter p).map f) ++ [v])))
      (fun σ2 H3 => ∃ m', m' < n - i ∧ m' = n - (i + 1) ∧ i + 1 ≤ n ∧ S σ2 ∧ (((List.range i).filter p).map f) = ((List.range (i + 1)).filter p).map f ∧ Same H1 H3 ∧ H3 l = some (.lst (((List.range i).filter p).map f))) ?_ ?_
    · intro hp σ2 H3 hS2 s3
      refine ⟨s3 _ _ (sy _ _ hH), hlen, n - (i + 1), by omega, rfl, hlt, hS2, ?_, ?_, upd_same⟩
      · rw [hsnoc, List.filter_append]
        simp [hp]
      · intro b u e
        have ne : b ≠ l := fun z => by rw [z, hl] at e; cases e
        rw [upd_ne ne]
        exact s3 _ _ (sy _ _ (sm _ _ e))
    · intro hp σ2 H3 hS2 s3
      refine ⟨n - (i + 1), by omega, rfl, hlt, hS2, ?_, fun b u e => s3 _ _ (sy _ _ (sm _ _ e)), s3 _ _ (sy _ _ hH)⟩
      rw [hsnoc, List.filter_append]
      simp [hp]
  · obtain rfl : i = n := by omega
    exact .inl ⟨hstop H' sm, hQ l H' hl sm hH⟩
end L2

local macro_rules | `(tactic| tm_at "blk_is") => `(tactic| exact ⟨by decide +kernel, by decide +kernel, by decide +kernel, by decide +kernel, by decide +kernel, by decide +kernel, by decide +kernel⟩)

set_option Elab.async false
set_option linter.all false
set_option maxRecDepth 100000
set_option maxHeartbeats 4000000
/-! BUILT-IN FUNCTIONS over the layer: all, sum, max(.., default=..), sorted. -/
namespace L2
open PySem PySem.Spec PyProof.Rows
theorem intsAre_of_vals : ∀ {ns : List Int} {us : List Value}, Vals (ns.map V.int) us → IntsAre us ns
  | [], us, h => by cases h; exact .nil
  | n :: ns, us, h => by
    cases h with
    | cons r rs =>
      obtain ⟨t, rfl⟩ := r
      exact .cons n t (intsAre_of_vals rs)
section
variable {X : Cx}
theorem call_sumI (hc : X.calm = true) : CallR X (.builtin "sum") (fun xs H Q => ∃ (a : Addr) (ns : List Int), xs = [.ref a] ∧ SqL X.K H a (ns.map V.int) ∧ Q (.int ns.sum) H) := by
  intro pins s σ H xs us Q I r h
  obtain ⟨a, ns, rfl, hq, q⟩ := h
  obtain ⟨u, rfl, ru⟩ := vals1 r
  cases ru
  obtain ⟨its, rv, p, hz⟩ := I.list hq
  have hi := intsAre_of_vals rv
  obtain ⟨xs, e⟩ := hi.allInts.items
  have hns : ns = xs.toList.map (·.1) := by rw [← hi.numsOf, ← nums_intItems, ← e]
  have hl := p.isList
  rw [e] at hl
  refine sum_intListG (I.ok.hd hc) hl fun h' tk t' hk => ⟨.int ns.sum, H, I.kept hk, ⟨t', ?_⟩, q⟩
  rw [preSum_eq, List.take_of_length_le (by simp), hns]
theorem call_sortedI : CallR X (.builtin "sorted") (fun xs H Q => ∃ (a : Addr) (ns : List Int), xs = [.ref a] ∧ SqL X.K H a (ns.map V.int) ∧ ns.length < 64 ∧ ∀ (l : Addr) (ns' : List Int), H l = none → ns'.Perm ns → ns'.Pairwise (· ≤ ·) → Q (.ref l) (upd H l (.lst (ns'.map V.int)))) := by
  intro pins s σ H xs us Q I r h
  obtain ⟨a, ns, rfl, hq, h64, q⟩ := h
  obtain ⟨u, rfl, ru⟩ := vals1 r
  cases ru
  obtain ⟨its, rv, p, hz⟩ := I.list hq
  have hi := intsAre_of_vals rv
  have hl : its.length = ns.length := by rw [← rv.length, List.length_map]
  refine sorted_ints p.isList hi (by omega) fun out ns' a1 a2 a3 => ?_
  obtain ⟨e, he⟩ := sortedAll_at s.heap its out
  have hfr : H (s.heap.objs.size + 1) = none := I.hok.fresh (Nat.le_succ _)
  refine ⟨.ref (s.heap.objs.size + 1), _, I.laid (a := s.heap.objs.size + 1) (o := .lst (ns'.map V.int)) (t' := s.toks) (fun _ _ => sortedAll_old) (Nat.le_succ _) ⟨?_, out.toList, e, vals_ints a1, ?_⟩, rfl, q _ _ hfr a2 a3⟩
  · have h1 := a2.length_eq
    rw [List.length_map]
    exact Nat.le_trans (show ns'.length ≤ 64 by omega) (by decide)
  · rw [Array.toArray_toList]; exact he
end
/-! ### max(.., default=..) of a list of ints -/
theorem args_maxD (a v : Value) : argsOk "max" ⟨[a], [(Str.ofString "default", v)]⟩ := by unfold argsOk; kernel_rfl
def maxD (d : Int) (ns : List Int) : Int := match ns with
  | [] => d
  | n :: r => r.foldl (fun a b => if b > a then b else a) n
section
variable {prog : Program} {w : World} {A : Around} {R : Result → Shared → Prop} {I : Addr} {fp wr : List Addr} {n : Nat} {P : Nat → Value → Prop} {St : Nat → Heap → Prop}
theorem max_loop_kw (kw : List (Str × Value)) (W : Walks prog w A.in1 I fp wr n P St) (bt : Nat → Nat → Bool) (hcmp : CmpOf prog w A.in1 .Gt P bt) (S : Addr) (hSf : S ∉ fp) :
    ∀ (k j : Nat) (s : Shared) (vb : Value) (c : Nat), n - (j + 1) = k → j + 1 ≤ n → St (j + 1) s.heap → P (argBest bt j) vb →
    s.heap.get? S = some { cls := .type "list", dict := none, data := .seq #[vb, vb] c, slots := #[] } →
    (∀ v h' tk, P (argBest bt (n - 1)) v → (∀ b o, b ∉ wr → b ≠ S → s.heap.get? b = some o → h'.get? b = some o) → R (.ok (.ret v)) { s with heap := h', toks := tk }) →
    codeAny (model prog w) A (.builtin "max.loop" ⟨[.ref I, .none, .ref S], kw⟩) R s := by
  have hSw : S ∉ wr := fun h => hSf (W.sub _ h)
  have hname : (toString "max" ++ toString ".loop" : String) = "max.loop" := by decide
  intro k
  induction k with
  | zero =>
    intro j s vb c hk hj hst hPb hS hR
    have hin : j + 1 = n := by omega
    refine codeAny_builtin F.entry_max_loop ?_
    rw [Around.under_plainId F.plain_max_loop _]
    show wpAny _ A.in1 (seqItems? (.ref S) >>= _) _ _ s
    refine wpAny_bind (wpAny_seqItems hS rfl ?_)
    show wpAny _ A.in1 (tryCatch (pyNext (.ref I)) _ >>= _) _ _ s
    refine wpAny_bind (wpAny_tryCatch (W.done s _ _ (hin ▸ hst) fun h' tk hk' => ?_))
    have hS' := hk' S _ hSw hS
    show wpAny _ A.in1 (updateSeq S (fun _ => #[]) >>= _) _ _ _
    refine wpAny_bind ?_
    refine wpAny_updateSeq hS' rfl (wpAny_bind (wpAny_letGo (wpAny_pure ?_)))
    refine hR vb _ tk (by rw [← hin]; exact hPb) fun b o hbw hbS e => (Heap.get?_update_other _ _ (Ne.symm hbS)).trans (hk' b o hbw e)
  | succ k ih =>
    intro j s vb c hk hj hst hPb hS hR
    have hlt : j + 1 < n := by omega
    refine codeAny_builtin F.entry_max_loop ?_
    rw [Around.under_plainId F.plain_max_loop _]
    show wpAny _ A.in1 (seqItems? (.ref S) >>= _) _ _ s
    refine wpAny_bind (wpAny_seqItems hS rfl ?_)
    show wpAny _ A.in1 (tryCatch (pyNext (.ref I)) _ >>= _) _ _ s
    refine wpAny_bind (wpAny_tryCatch (W.item (j + 1) s _ _ hlt hst fun v h' tk hP hst' hk' => ?_))
    have hS' := hk' S _ hSw hS
    show wpAny _ A.in1 (tryCatch (holding [v, v] (richCompare .Gt v vb >>= _)) _ >>= _) _ _ _
    refine wpAny_bind (wpAny_tryCatch (wpAny_holding (wpAny_bind (hcmp (j + 1) (argBest bt j) v vb _ _ _ hP hPb ?_))))
    refine wpAny_bind (wpAny_holding (wpAny_truthy_bool ?_))
    refine wpAny_bind (wpAny_letGo (wpAny_pure ?_))
    cases hb : bt (j + 1) (argBest bt j) with
    | true =>
      simp only [if_true]
      refine wpAny_bind ?_
      refine wpAny_updateSeq hS' rfl (wpAny_bind (wpAny_letGo ?_))
      rw [hname]
      refine wpAny_pure ⟨plainId_quiet F.plain_max_loop _, ih (j + 1) _ v _ (by omega) hlt (W.frame _ _ _ hst' fun b hbf o e => ?_) (by simp only [argBest, hb, if_true]; exact hP) (Heap.get?_update_self _ hS' rfl)
        fun v' h'' tk'' hP' hk'' => ?_⟩
      · exact (Heap.get?_update_other _ _ (fun h : S = b => hSf (by rw [h]; exact hbf))).trans e
      · exact hR v' h'' tk'' hP' fun b o hbw hbS e => hk'' b o hbw hbS ((Heap.get?_update_other _ _ (Ne.symm hbS)).trans (hk' b o hbw e))
    | false =>
      simp only [Bool.false_eq_true, if_false]
      refine wpAny_bind (wpAny_letGo ?_)
      rw [hname]
      refine wpAny_pure ⟨plainId_quiet F.plain_max_loop _, ih (j + 1) _ vb c (by omega) hlt hst' (by simp only [argBest, hb, Bool.false_eq_true, if_false]; exact hPb) hS' fun v' h'' tk'' hP' hk'' => ?_⟩
      exact hR v' h'' tk'' hP' fun b o hbw hbS e => hk'' b o hbw hbS (hk' b o hbw e)
theorem max_loop_kw0 {d : Value} (kn : Str) (W : Walks prog w A.in1 I fp wr n P St) (bt : Nat → Nat → Bool) (hcmp : CmpOf prog w A.in1 .Gt P bt) (S : Addr) (hSf : S ∉ fp) {s : Shared} {c : Nat} (hst : St 0 s.heap)
    (hS : s.heap.get? S = some { cls := .type "list", dict := none, data := .seq #[] c, slots := #[] })
    (hR : ∀ v h' tk, ((n = 0 ∧ v = d) ∨ (0 < n ∧ P (argBest bt (n - 1)) v)) → (∀ b o, b ∉ wr → b ≠ S → s.heap.get? b = some o → h'.get? b = some o) → R (.ok (.ret v)) { s with heap := h', toks := tk }) :
    codeAny (model prog w) A (.builtin "max.loop" ⟨[.ref I, .none, .ref S], [(kn, d)]⟩) R s := by
  have hSw : S ∉ wr := fun h => hSf (W.sub _ h)
  have hname : (toString "max" ++ toString ".loop" : String) = "max.loop" := by decide
  refine codeAny_builtin F.entry_max_loop ?_
  rw [Around.under_plainId F.plain_max_loop _]
  show wpAny _ A.in1 (seqItems? (.ref S) >>= _) _ _ s
  refine wpAny_bind (wpAny_seqItems hS rfl ?_)
  show wpAny _ A.in1 (tryCatch (pyNext (.ref I)) _ >>= _) _ _ s
  by_cases hn : 0 < n
  · refine wpAny_bind (wpAny_tryCatch (W.item 0 s _ _ hn hst fun v h' tk hP hst' hk' => ?_))
    have hS' := hk' S _ hSw hS
    show wpAny _ A.in1 (updateSeq S (fun _ => #[v, v]) >>= _) _ _ _
    refine wpAny_bind ?_
    refine wpAny_updateSeq hS' rfl ?_
    rw [hname]
    refine wpAny_pure ⟨plainId_quiet F.plain_max_loop _, max_loop_kw _ W bt hcmp S hSf _ 0 _ v _ rfl hn (W.frame _ _ _ hst' fun b hbf o e => ?_) hP (Heap.get?_update_self _ hS' rfl) fun v' h'' tk'' hP' hk'' => ?_⟩
    · exact (Heap.get?_update_other _ _ (fun h : S = b => hSf (by rw [h]; exact hbf))).trans e
    · exact hR v' h'' tk'' (.inr ⟨hn, hP'⟩) fun b o hbw hbS e => hk'' b o hbw hbS ((Heap.get?_update_other _ _ (Ne.symm hbS)).trans (hk' b o hbw e))
  · obtain rfl : n = 0 := by omega
    refine wpAny_bind (wpAny_tryCatch (W.done s _ _ hst fun h' tk hk' => ?_))
    show wpAny _ A.in1 (rule _ >>= _) _ _ _
    refine wpAny_bind (wpAny_rule (wpAny_pure ?_))
    exact hR d h' tk (.inl ⟨rfl, rfl⟩) fun b o hbw hbS e => hk' b o hbw e
end
section
variable {prog : Program} {w : World} {A : Around} {E : Value → Shared → Prop} {s : Shared}
theorem max_intListD {l : Addr} {xs : Array (Int × Tok)} {d : Value} {Q : Value → Shared → Prop} (hh : A.handled = none) (hl : s.heap.IsList l (intItems xs))
    (h : ∀ v h' tk, ((xs.size = 0 ∧ v = d) ∨ (0 < xs.size ∧ (intItems xs)[argBest (fun i j => decide (numAt xs i > numAt xs j)) (xs.size - 1)]? = some v)) → (∀ b o, s.heap.get? b = some o → h'.get? b = some o) → Q v { s with heap := h', toks := tk }) :
    wpAny (model prog w) A (call (.builtin "max") [.ref l] [(Str.ofString "default", d)]) Q E s := by
  have hname : (toString "max" ++ toString ".loop" : String) = "max.loop" := by decide
  refine PyProof.Rows.kmk_tree PySem.F.kind_max PySem.F.plain_max PySem.F.entry_max (args_maxD _ _) ?_
  show wpAny _ A.in1 (Builtin.Builtins.bindParams "max" ["key", "default"] 0 ⟨[], [(Str.ofString "default", d)]⟩ >>= _) _ _ s
  refine wpAny_bind (wpAny_of_eq (show Builtin.Builtins.bindParams "max" ["key", "default"] 0 ⟨[], [(Str.ofString "default", d)]⟩ = pure [none, some d] from rfl) ?_)
  refine wpAny_bind (wpAny_pure ?_)
  refine wpAny_bind (iter_intList hl fun s₂ e st hfp hlI => ?_)
  subst e
  refine wpAny_bind (wpAny_newObj_type ?_)
  rw [hname]
  refine wpAny_pure ⟨plainId_quiet F.plain_max_loop _, ?_⟩
  refine max_loop_kw0 "default" (Walks.list (A := A.in1) hh _ l hlI (intItems xs)) (fun i j => decide (numAt xs i > numAt xs j)) (CmpOf.ints_gt (numAt xs) (fun _ _ => intItems_at)) _ (fun hm => Nat.lt_irrefl _ (hfp _ hm)) ((Walks.list (prog := prog) (w := w) (A := A.in1) hh _ l hlI (intItems xs)).frame _ _ _ st fun b _ o e => Heap.get?_push_of_some _ e) (Heap.get?_push_size _ rfl) fun v h' tk hv hk => ?_
  refine h v h' tk (by simpa [intItems] using hv) fun b o e => ?_
  have hb : b < s.heap.objs.size := Heap.lt_size e
  refine hk b o (by simpa using Nat.ne_of_lt hb) ?_ (Heap.get?_push_of_some _ (Heap.get?_push_of_some _ e))
  rw [Heap.size_push]
  exact Nat.ne_of_lt (Nat.lt_succ_of_lt hb)
end
section
variable {X : Cx}
/-- max(e, default=d) -/
def tMaxD (te td : TE) (K : PySem.W.Frag) : TE := fun σ H Q => te σ H fun x H1 => td σ H1 fun y H2 => ∃ (a : Addr) (ns : List Int) (d : Int), x = .ref a ∧ y = .int d ∧ SqL K H2 a (ns.map V.int) ∧ ∀ M, ((ns = [] ∧ M = d) ∨ (M ∈ ns ∧ ∀ n ∈ ns, n ≤ M)) → Q (.int M) H2
theorem pe_maxD {p pos kp : Pos} {e d : Expr} {te td : TE} (hc : X.calm = true) (hm : X.mg "max" = none) (he : PE X e te) (hd : PE X d td) (hp : plainE e = true := by rfl) (hg : Gl X "max" := by rfl) : PE X (.Call (.Name "max" p) [e] [⟨some "default", d, kp⟩] pos) (tMaxD te td X.K) := by
  intro pins s σ H Q I h
  refine wpAny_Call_Name_kw (ld_blt I hg hm boot_max ?_)
  refine callWith_kw ?_ (by rw [starEach_plain hp]; rfl) (by rw [starEach_plain hp]; rfl)
  have hA := pa_c he (pa_nil (X := X)) hp pos pins s σ H (fun vs H1 => match vs with | [x] => td σ H1 fun y H2 => ∃ (a : Addr) (ns : List Int) (d : Int), x = .ref a ∧ y = .int d ∧ SqL X.K H2 a (ns.map V.int) ∧ ∀ M, ((ns = [] ∧ M = d) ∨ (M ∈ ns ∧ ∀ n ∈ ns, n ≤ M)) → Q (.int M) H2 | _ => False) I h
  · refine thn hA fun us s1 ⟨vs, H1, I1, r1, q1⟩ => ?_
    obtain ⟨x, rfl⟩ : ∃ x, vs = [x] := by
      match vs, q1 with
      | [x], _ => exact ⟨x, rfl⟩
    obtain ⟨u, rfl, ru⟩ := vals1 r1
    refine kws_cons (thn (hd pins s1 σ H1 _ I1 q1) fun dv s2 ⟨y, H2, I2, r2, a, ns, d0, ex, ey, hq, q⟩ => kws_nil ?_)
    subst ex ey
    cases ru
    obtain ⟨t, rfl⟩ := r2
    obtain ⟨its, rv, pl, hz⟩ := I2.list hq
    have hi := intsAre_of_vals rv
    obtain ⟨xs, e⟩ := hi.allInts.items
    have hns : ns = xs.toList.map (·.1) := by rw [← hi.numsOf, ← nums_intItems, ← e]
    have hl := pl.isList
    rw [e] at hl
    refine max_intListD (I2.ok.hd hc) hl fun v h' tk hv hk => ?_
    rcases hv with ⟨h0, rfl⟩ | ⟨h0, hv⟩
    · refine ⟨.int d0, H2, I2.kept hk, ⟨t, rfl⟩, q d0 (.inl ⟨?_, rfl⟩)⟩
      rw [hns]
      simpa using h0
    · obtain ⟨t', rfl⟩ := intItems_at hv
      obtain ⟨h1, h2⟩ := argBest_gt (numAt xs) (xs.size - 1)
      refine ⟨.int _, H2, I2.kept hk, ⟨t', rfl⟩, q _ (.inr ⟨?_, fun n hn => ?_⟩)⟩
      · rw [hns, numAt_eq]; exact getD_mem (by rw [List.length_map, Array.length_toList]; omega)
      · rw [hns] at hn
        obtain ⟨j, hj, rfl⟩ := mem_getD hn
        rw [List.length_map, Array.length_toList] at hj
        rw [← numAt_eq]; exact h2 j (by omega)
end
end L2


set_option Elab.async false
set_option linter.all false
set_option maxRecDepth 100000
set_option maxHeartbeats 4000000
/-! WALKS over the layer: enumerate(list), zip(list, list). -/
namespace L2
open PySem PySem.Spec PyProof.Rows
section
variable {X : Cx} {pins : List (Addr × Obj)} {σ : St} {H : Hp} {s : Shared} {h' : Heap} {fp : List Addr}
/-- several records of ours have turned, a new object is laid -/
theorem Inv.turnLaid {t' : Nat} {T : Addr} {o : HO} (I : Inv X pins σ H s) (hf : ∀ b ∈ fp, FpOk X pins H b) (k : ∀ b u, b ∉ fp → s.heap.get? b = some u → h'.get? b = some u) (hT : s.heap.objs.size ≤ T) (new : ObjOk X.prog X.w (upd H T o) h' T o) :
    Inv X pins σ (upd H T o) { s with heap := h', toks := t' } := by
  have hn : H T = none := I.hok.fresh hT
  refine I.step (g' := s.gens) (d' := s.drawn) (ch := fp) (fun b hb => ⟨(hf b hb).2.2.2.1, (hf b hb).2.1, (hf b hb).2.2.2.2.1, (hf b hb).2.2.2.2.2⟩) (fun b u _ _ hc e _ => k b u hc e) (fun b u _ _ hc e _ => ⟨u.slots, k b u hc e⟩) (fun b u hc e n => ?_)
    (fun b u hc e => ⟨u, k b u hc e⟩) (fun b xs e => ?_) (fun b u1 u2 e => ?_) (fun b ps e => ⟨#[], ?_⟩) (fun m hm => ?_) (fun b u e => ?_) I.bare
  · rw [upd_ne (Nat.ne_of_lt (Nat.lt_of_lt_of_le (Heap.lt_size e) hT))]; exact n
  · rw [upd_ne (ne_of_none e hn)]; exact e
  · rw [upd_ne (ne_of_none e hn)]; exact e
  · rw [upd_ne (ne_of_none e hn), e]; simp
  · obtain ⟨u, es, ep, ho, r⟩ := hm
    exact ⟨u, es, ep, k _ u (fun z => (hf _ z).2.1 rfl) ho, r⟩
  · by_cases hb : b = T
    · subst hb
      rw [upd_same] at e
      cases e
      exact new
    · rw [upd_ne hb] at e
      refine (I.hok b u e).stay (fun c v hc q => k c v (fun z => ?_) q) (fun c q => by rw [upd_ne (ne_of_none q hn)]; exact q) fun c xs q => by rw [upd_ne (ne_of_none q hn)]; exact q
      have nc := (hf c z).1
      rcases hc with hc | hc
      · rw [hc, e] at nc; cases nc
      · rw [hc] at nc; cases nc
/-- several records of ours have turned -/
theorem Inv.turnedL {t' : Nat} (I : Inv X pins σ H s) (hf : ∀ b ∈ fp, FpOk X pins H b) (k : ∀ b u, b ∉ fp → s.heap.get? b = some u → h'.get? b = some u) : Inv X pins σ H { s with heap := h', toks := t' } := by
  refine I.step (g' := s.gens) (d' := s.drawn) (ch := fp) (fun b hb => ⟨(hf b hb).2.2.2.1, (hf b hb).2.1, (hf b hb).2.2.2.2.1, (hf b hb).2.2.2.2.2⟩) (fun b u _ _ hc e _ => k b u hc e) (fun b u _ _ hc e _ => ⟨u.slots, k b u hc e⟩) (fun b u hc e n => n)
    (fun b u hc e => ⟨u, k b u hc e⟩) (fun b xs e => e) (fun b u1 u2 e => e) (fun b ps e => ⟨#[], by rw [e]; simp⟩) (fun m hm => ?_) (fun b u e => ?_) I.bare
  · obtain ⟨u, es, ep, ho, r⟩ := hm
    exact ⟨u, es, ep, k _ u (fun z => (hf _ z).2.1 rfl) ho, r⟩
  · refine (I.hok b u e).stay (fun c v hc q => k c v (fun z => ?_) q) (fun c q => q) fun c xs q => q
    have nc := (hf c z).1
    rcases hc with hc | hc
    · rw [hc, e] at nc; cases nc
    · rw [hc] at nc; cases nc
theorem FpOk.upd {X : Cx} {pins : List (Addr × Obj)} {H : Hp} {b T : Addr} {o : HO} (f : FpOk X pins H b) (h : b ≠ T) : upd H T o b = none := by
  rw [upd_ne h]; exact f.1
end
/-! ### enumerate(l) -/
def Ite (K : PySem.W.Frag) (a : Addr) : It :=
  ⟨fun i H => ∃ xs x, SqL K H a xs ∧ xs[i]? = some x, fun i H v H' => ∃ t x, H t = none ∧ v = .ref t ∧ H' = upd H t (.tup [.int i, x]) ∧ ∀ xs, SqL K H a xs → xs[i]? = some x, fun i H => ∃ xs, SqL K H a xs ∧ xs.length ≤ i⟩
theorem turn_enum {P : Program} {w : World} {K : PySem.W.Frag} {elts : List Expr} {x1} {tp : Pos} (a e it : Addr) (hne : e ≠ it) : Turn P w K (.Tuple elts x1 tp) (Ite K a) [e, it] e (fun i h => (∃ old, IsEnum h e it i old) ∧ h.IsListIter it a i) where
  mem := by simp
  obj := fun i h st b hb => by
    obtain ⟨⟨old, he⟩, o, ho, c, d⟩ := st
    rcases List.mem_cons.mp hb with rfl | hb
    · exact ⟨_, he, fun v z => by
        have z' : Data.fields _ = Data.cell v := z
        cases z'⟩
    · rw [List.mem_singleton.mp hb]
      exact ⟨o, ho, fun v z => by rw [d] at z; cases z⟩
  keep := fun i h h' st k => ⟨⟨st.1.choose, k e (by simp) _ st.1.choose_spec⟩, st.2.at fun o q => k it (by simp) o q⟩
  item := by
    intro X hP hw hK hc i pins s σ H E I hf st hg
    subst hP hw hK
    obtain ⟨⟨old, he⟩, hit⟩ := st
    obtain ⟨xs, x, hq, hx⟩ := hg
    obtain ⟨its, rv, p, hz⟩ := I.list hq
    obtain ⟨u, hu, ru⟩ := rv.get hx
    refine wpAny_pyNext_enum_item he hit p.isList (x := u) (by simpa using hu) hne fun h1 ho hit1 hT hsz hk => ⟨_, rfl, wpAny_letOwnedTupleGo_enum ho fun h2 he2 hs2 => ?_⟩
    have hTs : s.heap.objs.size ≠ e := Nat.ne_of_gt (Heap.lt_size he)
    have hk2 : ∀ b u, b ∉ [e, it] → s.heap.get? b = some u → h2.get? b = some u := fun b u hb q => by
      have hb' : b ≠ e ∧ b ≠ it := by simpa using hb
      exact (hs2.2 b hb'.1).trans (hk b u hb'.1 hb'.2 q)
    have hT2 : h2.get? s.heap.objs.size = some { cls := .type "tuple", data := .seq #[.int i s.toks, u] } := (hs2.2 _ hTs).trans hT
    refine ⟨.ref s.heap.objs.size, _, I.turnLaid (t' := s.toks + 1) (T := s.heap.objs.size) (o := .tup [.int i, x]) hf hk2 (Nat.le_refl _) ?_, rfl, ⟨_, x, I.fresh, rfl, rfl, fun ys hy => by rw [I.list_inj hy hq]; exact hx⟩, ⟨⟨_, by simpa using he2⟩, hit1.at fun o q => (hs2.2 it (Ne.symm hne)).trans q⟩, fun b hb => ?_⟩
    · exact ⟨(by show 2 ≤ sizeLine; decide), [.int i s.toks, u], .cons ⟨_, rfl⟩ (.cons ru .nil), _, hT2, rfl, _, rfl⟩
    · refine (hf b hb).upd ?_
      have hlt : b < s.heap.objs.size := by
        rcases List.mem_cons.mp hb with rfl | hb
        · exact Heap.lt_size he
        · rw [List.mem_singleton.mp hb]
          obtain ⟨o, ho, _⟩ := hit
          exact Heap.lt_size ho
      exact Nat.ne_of_lt hlt
  done := by
    intro X hP hw hK hc i pins s σ H E I hf st hg
    subst hP hw hK
    obtain ⟨⟨old, he⟩, hit⟩ := st
    obtain ⟨xs, hq, hx⟩ := hg
    obtain ⟨its, rv, p, hz⟩ := I.list hq
    obtain ⟨f0, f1, f2, f3, f4, f5⟩ := hf it (by simp)
    have hl := rv.length
    exact wpAny_pyNext_enum_end (I.ok.hd hc) he hit p.isList (by simp; omega) fun h' eb => ⟨rfl, I.turned (t' := s.toks) (fun b o hb q => eb b o hb q) f0 f1 f3 f4 f5⟩
  self := fun _ _ _ _ _ st h => wpAny_pyIter_enum st.1.choose_spec h
section
variable {X : Cx} {elts : List Expr} {x1 : ExprContext} {tp : Pos}
end
section
variable {X : Cx}
def iEnum (K : PySem.W.Frag) (ta : TA) : TI := fun σ H R => ta σ H fun vs H1 => ∃ a xs, vs = [.ref a] ∧ H1 a = some (.lst xs) ∧ R (Ite K a) H1
theorem pi_enum {elts : List Expr} {x1} {tp : Pos} {l : Expr} {ta : TA} {p pos : Pos} (hm : X.mg "enumerate" = none) (ha : PA X [l] ta) (hp : plainE l = true := by rfl) (hg : Gl X "enumerate" := by rfl) : PI X (.Tuple elts x1 tp) (.Call (.Name "enumerate" p) [l] [] pos) (iEnum X.K ta) := by
  intro pins s σ H R I h
  refine Call_ (ld_blt I hg hm boot_enumerate (PyProof.Rows.callWith_type1 (thn (ha pos pins s σ H _ I h) fun us s1 ⟨vs, H1, I1, r1, q1⟩ => ?_) (starEach_plain hp _ _) rfl))
  obtain ⟨a, xs, rfl, hH, q⟩ := q1
  obtain ⟨u, rfl, ru⟩ := vals1 r1
  cases ru
  obtain ⟨z, its, n, r, hl, e⟩ := I1.lstM hH
  refine call_enumerate_1 (l := a) (items := its.toArray) (n := n) e fun h1 he hit hsz hk => ?_
  refine wpAny_pyIter_enum he ?_
  have I2 : Inv X pins σ H1 { s1 with heap := h1 } := I1.kept (t' := s1.toks) hk
  refine ⟨s1.heap.objs.size + 1, [s1.heap.objs.size + 1, s1.heap.objs.size], _, _, H1, rfl, I2, turn_enum a _ _ (Nat.succ_ne_self _), ⟨⟨_, he⟩, hit⟩, fun b hb => ?_, q⟩
  have hb' : s1.heap.objs.size ≤ b := by
    rcases List.mem_cons.mp hb with rfl | hb
    · exact Nat.le_succ _
    · rw [List.mem_singleton.mp hb]; exact Nat.le_refl _
  exact I1.fpOk hb' (I1.hok.fresh hb')
end
/-! ### zip(l, m) of two lists -/
def Itz (K : PySem.W.Frag) (a b : Addr) : It :=
  ⟨fun i H => ∃ xs x ys y, SqL K H a xs ∧ xs[i]? = some x ∧ SqL K H b ys ∧ ys[i]? = some y, fun i H v H' => ∃ t x y, H t = none ∧ v = .ref t ∧ H' = upd H t (.tup [x, y]) ∧ (∀ xs, SqL K H a xs → xs[i]? = some x) ∧ ∀ ys, SqL K H b ys → ys[i]? = some y,
    fun i H => ∃ xs ys, SqL K H a xs ∧ SqL K H b ys ∧ (xs.length ≤ i ∨ ys.length ≤ i)⟩
section
variable {X : Cx}
def iZip (K : PySem.W.Frag) (ta : TA) : TI := fun σ H R => ta σ H fun vs H1 => ∃ a b xs ys, vs = [.ref a, .ref b] ∧ SqL K H1 a xs ∧ SqL K H1 b ys ∧ R (Itz K a b) H1
end
end L2


set_option Elab.async false
set_option linter.all false
set_option maxRecDepth 100000
set_option maxHeartbeats 4000000
/-! == and != of lists, of tuples (flat items) -/
namespace L2
open PySem PySem.Spec PyProof.Rows
def eqVs : List V → List V → Bool
  | [], [] => true
  | x :: xs, y :: ys => eqV x y && eqVs xs ys
  | _, _ => false
theorem eqVs_len : ∀ {xs ys : List V}, eqVs xs ys = true → xs.length = ys.length
  | [], [], _ => rfl
  | _ :: xs, _ :: ys, h => by
    have h' : (_ && eqVs xs ys) = true := h
    rw [Bool.and_eq_true] at h'
    rw [List.length_cons, List.length_cons, eqVs_len h'.2]
  | [], _ :: _, h => by cases h
  | _ :: _, [], h => by cases h
theorem eqVs_range : ∀ {xs ys : List V}, xs.length = ys.length → (List.range xs.length).all (fun j => eqV (xs.getD j .non) (ys.getD j .non)) = eqVs xs ys
  | [], [], _ => rfl
  | x :: xs, y :: ys, h => by
    have hl : xs.length = ys.length := by simpa using h
    rw [List.length_cons, List.range_succ_eq_map, List.all_cons, List.all_map]
    have : (List.range xs.length).all ((fun j => eqV ((x :: xs).getD j .non) ((y :: ys).getD j .non)) ∘ Nat.succ) = eqVs xs ys := by
      rw [← eqVs_range hl]
      rfl
    rw [this]
    rfl
  | [], _ :: _, h => by simp at h
  | _ :: _, [], h => by simp at h
theorem eqVs_ne {xs ys : List V} (h : xs.length ≠ ys.length) : eqVs xs ys = false := by
  cases e : eqVs xs ys with
  | false => rfl
  | true => exact absurd (eqVs_len e) h
theorem vals_eqAt {A : Around} {s : Shared} {xs ys : List V} {us vs : List Value} (r : Vals xs us) (q : Vals ys vs) (fx : xs.all flatV = true) (fy : ys.all flatV = true) (j : Nat) (h1 : j < us.toArray.size) (h2 : j < vs.toArray.size) :
    SeqAt.EqAt A s us.toArray[j] vs.toArray[j] (eqV (xs.getD j .non) (ys.getD j .non)) := by
  have l1 := r.length
  have l2 := q.length
  have h1' : j < us.length := by simpa using h1
  have h2' : j < vs.length := by simpa using h2
  obtain ⟨u, hu, ru⟩ := r.get (i := j) (x := xs[j]) (by simp [show j < xs.length by omega])
  obtain ⟨v, hv, rv⟩ := q.get (i := j) (x := ys[j]) (by simp [show j < ys.length by omega])
  have e1 : us.toArray[j] = u := by
    have : us[j]? = some us[j] := List.getElem?_eq_getElem h1'
    rw [this] at hu
    simpa using hu
  have e2 : vs.toArray[j] = v := by
    have : vs[j]? = some vs[j] := List.getElem?_eq_getElem h2'
    rw [this] at hv
    simpa using hv
  have g1 : xs.getD j .non = xs[j] := by simp [List.getD, show j < xs.length by omega]
  have g2 : ys.getD j .non = ys[j] := by simp [List.getD, show j < ys.length by omega]
  rw [e1, e2, g1, g2]
  exact eqAt_V ru rv (List.all_eq_true.mp fx _ (List.getElem_mem _)) (List.all_eq_true.mp fy _ (List.getElem_mem _))
section
variable {X : Cx}
def rEqL (K : PySem.W.Frag) : R2 := fun x y H Q => ∃ a b xs ys, x = .ref a ∧ y = .ref b ∧ SqL K H a xs ∧ SqL K H b ys ∧ xs.all flatV = true ∧ ys.all flatV = true ∧ Q (.bl (eqVs xs ys)) H
def rNeL (K : PySem.W.Frag) : R2 := fun x y H Q => ∃ a b xs ys, x = .ref a ∧ y = .ref b ∧ SqL K H a xs ∧ SqL K H b ys ∧ xs.all flatV = true ∧ ys.all flatV = true ∧ Q (.bl (!eqVs xs ys)) H
theorem op_eqL (hu : X.A.units < cLine) : OpR X (compareOp .Eq) (rEqL X.K) := by
  intro pins s σ H x y v u Q I rx ry h
  obtain ⟨a, b, xs, ys, rfl, rfl, hx, hy, fx, fy, q⟩ := h
  cases rx
  cases ry
  obtain ⟨its, r, pl, hz⟩ := I.list hx
  obtain ⟨jts, r2, pl2, hz2⟩ := I.list hy
  have l1 := r.length
  have l2 := r2.length
  by_cases hl : xs.length = ys.length
  · refine SeqAt.eq_listAt (e := fun j => eqV (xs.getD j .non) (ys.getD j .non)) pl.isList pl2.isList (by simp; omega) hu (fun j h1 h2 => vals_eqAt r r2 fx fy j h1 h2) ⟨.bl _, H, I, ?_, q⟩
    show Value.bool _ = Value.bool _
    rw [List.size_toArray, ← l1, eqVs_range hl]
  · refine SeqAt.eq_list_lengthsAt pl.isList pl2.isList (by simp; omega) hu ⟨.bl _, H, I, ?_, q⟩
    show Value.bool _ = Value.bool _
    rw [eqVs_ne hl]
theorem op_neL (hu : X.A.units < cLine) : OpR X (compareOp .NotEq) (rNeL X.K) := by
  intro pins s σ H x y v u Q I rx ry h
  obtain ⟨a, b, xs, ys, rfl, rfl, hx, hy, fx, fy, q⟩ := h
  cases rx
  cases ry
  obtain ⟨its, r, pl, hz⟩ := I.list hx
  obtain ⟨jts, r2, pl2, hz2⟩ := I.list hy
  have l1 := r.length
  have l2 := r2.length
  by_cases hl : xs.length = ys.length
  · refine SeqAt.RcNeAt.lists (e := fun j => eqV (xs.getD j .non) (ys.getD j .non)) pl.isList pl2.isList (by simp; omega) hu (fun j h1 h2 => vals_eqAt r r2 fx fy j h1 h2) _ _ _ _ ⟨.bl _, H, I, ?_, q⟩
    show Value.bool _ = Value.bool _
    rw [List.size_toArray, ← l1, eqVs_range hl]
  · refine SeqAt.RcNeAt.lists_lengths pl.isList pl2.isList (by simp; omega) hu _ _ _ _ ⟨.bl _, H, I, ?_, q⟩
    show Value.bool _ = Value.bool _
    rw [eqVs_ne hl]
    rfl
def rEqT (K : PySem.W.Frag) : R2 := fun x y H Q => ∃ a b xs ys, x = .ref a ∧ y = .ref b ∧ SqT K H a xs ∧ SqT K H b ys ∧ xs.length = ys.length ∧ xs.all flatV = true ∧ ys.all flatV = true ∧ Q (.bl (eqVs xs ys)) H
end
end L2


set_option Elab.async false
set_option linter.all false
set_option maxRecDepth 100000
set_option maxHeartbeats 1000000
/-! list.count, list.index over the layer (flat items) -/
namespace L2
open PySem PySem.Spec PyProof.Rows
section
variable {X : Cx}
end
end L2


set_option Elab.async false
set_option linter.all false
set_option maxRecDepth 100000
set_option maxHeartbeats 1000000
/-! list(d); loops over zip -/
namespace L2
open PySem PySem.Spec PyProof.Rows
theorem vals_of_get : ∀ {xs : List V} {us : List Value}, xs.length = us.length → (∀ (j : Nat) (x : V) (u : Value), xs[j]? = some x → us[j]? = some u → RelV x u) → Vals xs us
  | [], [], _, _ => .nil
  | x :: xs, u :: us, h, r => .cons (r 0 x u rfl rfl) (vals_of_get (by simpa using h) fun j y v h1 h2 => r (j + 1) y v (by simpa using h1) (by simpa using h2))
  | [], _ :: _, h, _ => by simp at h
  | _ :: _, [], h, _ => by simp at h
theorem kV_of {P : Program} {w : World} {k : Key} {u : Value} (h : (mixKind P w).is k u = true) : RelV (kV k) u := by
  rcases keyIs_shape (k := k) (v := u) h with ⟨i, t, rfl, rfl⟩ | ⟨x, t, rfl, rfl⟩
  · exact ⟨t, rfl⟩
  · exact ⟨t, rfl⟩
section
variable {X : Cx}
theorem call_listD (hc : X.calm = true) : CallR X (.type "list") (fun xs H Q => ∃ (a : Addr) (kvs : List (Key × V)), xs = [.ref a] ∧ H a = some (.dK kvs) ∧ ∀ l, H l = none → Q (.ref l) (upd H l (.lst (kvs.map fun kv => kV kv.1)))) := by
  intro pins s σ H xs us Q I r h
  obtain ⟨a, kvs, rfl, hH, q⟩ := h
  obtain ⟨u, rfl, ru⟩ := vals1 r
  cases ru
  obtain ⟨z, hd, vs, rel, dd⟩ := dk_of I.hok hH
  obtain ⟨ep, hat⟩ := dd.dictAt
  have hl := rel.length
  refine PySem.W.kdl_call (PySem.W.kdl_dict (knd := mixKind X.prog X.w) (kvs := vs) (ep := ep) hd) (I.ok.hd hc) hat (by omega) fun h' tk acc' c' hk hS hacc => ?_
  have hv : Vals (kvs.map fun kv => kV kv.1) acc'.toList := by
    refine vals_of_get (by have := hacc.1; rw [List.length_map]; simp; omega) fun j x v hx hv => ?_
    obtain ⟨k, y, hky, his⟩ := hacc.2 j v (by rw [← Array.getElem?_toList]; exact hv)
    have e1 : (kvs.map (·.1))[j]? = some k := by
      rw [rel.keys, List.getElem?_map, hky]
      rfl
    have e2 : (kvs.map fun kv => kV kv.1)[j]? = some (kV k) := by
      rw [List.getElem?_map] at e1 ⊢
      cases z : kvs[j]? with
      | none => rw [z] at e1; cases e1
      | some p =>
        rw [z] at e1
        have : p.1 = k := Option.some.inj e1
        rw [← this]
        rfl
    rw [e2] at hx
    cases hx
    exact kV_of his
  refine ⟨.ref s.heap.objs.size, _, I.laid (a := s.heap.objs.size) (o := .lst (kvs.map fun kv => kV kv.1)) (t' := tk) hk (Nat.le_refl _) ⟨by rw [List.length_map]; exact z, acc'.toList, c', hv, ?_⟩, rfl, q _ I.fresh⟩
  rw [Array.toArray_toList]
  exact hS
end
end L2


set_option Elab.async false
set_option linter.all false
set_option maxRecDepth 100000
set_option maxHeartbeats 1000000
/-! EXCEPTIONS over the layer: raise, calls that may raise, try .. except C as e. -/
namespace L2
open PySem PySem.Spec PyProof.Rows
/-- what is wanted of an exception: its class, the names' values, the heap -/
abbrev XE := Value → St → Hp → Prop

/-- B holds all that counts in a body's state -/
structure Cov (X : Cx) (pins : List (Addr × Obj)) (H : Hp) (B : Heap) : Prop where
  old : ∀ b o, X.s₀.heap.get? b = some o → b ∉ X.fs → ∃ o', B.get? b = some o'
  trk : ∀ b u, H b = some u → ∃ o, B.get? b = some o
  pin : ∀ p ∈ X.pn ++ pins, ∃ o, B.get? p.1 = some o
section
variable {X : Cx} {pins : List (Addr × Obj)} {σ : St} {H : Hp} {s : Shared} {B h' : Heap}
theorem stay_eq {B h : Heap} {b : Addr} {o o' : Obj} (st : B.StaysIn h) (e : B.get? b = some o') (q : h.get? b = some o) : o' = o := by
  have := st b o' e
  rw [q] at this
  exact (Option.some.inj this).symm
/-- an exception is noted, or lands: what B holds is kept, the rest up to slots -/
theorem Inv.flown {t' : Nat} (I : Inv X pins σ H s) (hx : X.ex = []) (C : Cov X pins H B) (st0 : B.StaysIn s.heap) (st : B.StaysIn h') (up : s.heap.UpToSlots h') : Inv X pins σ H { s with heap := h', toks := t' } := by
  have inB : ∀ b o o', B.get? b = some o' → s.heap.get? b = some o → h'.get? b = some o := fun b o o' e q => by
    have := stay_eq st0 e q
    subst this
    exact st b _ e
  have nex : ∀ b, b ∉ X.ex := fun b z => by rw [hx] at z; cases z
  have cellK : ∀ c v, s.heap.IsCell c v → h'.IsCell c v := fun c v ⟨o, ho, hd⟩ => by
    obtain ⟨sl, e⟩ := up c o ho (fun vs z => by rw [hd] at z; cases z)
    exact ⟨_, e, hd⟩
  refine ⟨I.ok, I.os, I.bare, ⟨fun b o e n hb _ => ?_, fun b o e n hb _ => ?_, fun b o e n hb => I.base.free b o e n hb, fun b o e _ => ?_, I.base.tups, I.base.frzs, I.base.tbls⟩, ?_, fun x c e => ?_, I.free, I.freeC, fun p hp => ?_, fun b u e => ?_, I.len⟩
  · obtain ⟨o', e'⟩ := C.old b o e hb
    exact inB b o o' e' (I.base.keep b o e n hb (nex b))
  · obtain ⟨sl, e1⟩ := I.base.slot b o e n hb (nex b)
    obtain ⟨_, o2, ho2, hnf⟩ := I.funs.mem hb
    rw [e1] at ho2
    cases ho2
    obtain ⟨sl', e2⟩ := up b _ e1 hnf
    exact ⟨sl', e2⟩
  · by_cases hb : b ∈ X.fs
    · obtain ⟨_, o2, ho2, hnf⟩ := I.funs.mem hb
      obtain ⟨sl', e2⟩ := up b _ ho2 hnf
      exact ⟨_, e2⟩
    · obtain ⟨o', e'⟩ := C.old b o e hb
      exact ⟨o', st b o' e'⟩
  · obtain ⟨m, hn, hl⟩ := I.loc
    refine ⟨m, up.ns hn, fun i x v e1 e2 e3 => ?_⟩
    obtain ⟨u, r, l⟩ := hl i x v e1 e2 e3
    refine ⟨u, r, ?_⟩
    rcases l with l | ⟨k, c, e, z⟩
    · exact .inl l
    · exact .inr ⟨k, c, e, cellK c _ z⟩
  · obtain ⟨v, z⟩ := I.cell x c e
    exact ⟨v, cellK c v z⟩
  · obtain ⟨e, n, ne, nf, d⟩ := I.pin p hp
    obtain ⟨o', e'⟩ := C.pin p hp
    exact ⟨inB p.1 p.2 o' e' e, n, ne, nf, d⟩
  · refine (I.hok b u e).stay (fun c v hc q => ?_) (fun _ q => q) fun _ _ q => q
    have : ∃ u', H c = some u' := by
      rcases hc with rfl | hc
      · exact ⟨u, e⟩
      · exact ⟨_, hc⟩
    obtain ⟨u', e'⟩ := this
    obtain ⟨o', eb⟩ := C.trk c u' e'
    exact inB c v o' eb q
end

/-- an exception has been noted at this frame -/
def XAt (X : Cx) (pins : List (Addr × Obj)) (E : XE) (e : Value) (s : Shared) : Prop :=
  ∃ (a : Addr) (cls a0 : Value) (σ : St) (H : Hp) (B : Heap), e = .ref a ∧ Inv X pins σ H s ∧ Heap.HeldW B X.stack a cls a0 X.env.locals s.heap ∧ Cov X pins H B ∧ H a = none ∧ E cls σ H
/-- an exception on its way in this body -/
def XL (X : Cx) (pins : List (Addr × Obj)) (E : XE) (e : Value) (s : Shared) : Prop :=
  wpAny (model X.prog X.w) X.A (noteFrame e X.env) (fun _ s' => XAt X pins E e s') (fun _ _ => False) s
theorem XL.passes {X : Cx} {pins : List (Addr × Obj)} {E : XE} : PassesOwn (model X.prog X.w) X.A X.env (XL X pins E) := PassesOwn.looking
theorem XAt.weak {X : Cx} {pins pl : List (Addr × Obj)} {E E' : XE} {e : Value} {s : Shared} (h : XAt X (pins ++ pl) E e s) (w : ∀ c σ H, E c σ H → E' c σ H) : XAt X pins E' e s := by
  obtain ⟨a, cls, a0, σ, H, B, rfl, I, hh, C, n, q⟩ := h
  exact ⟨a, cls, a0, σ, H, B, rfl, I.unpinned, hh, ⟨C.old, C.trk, fun p hp => C.pin p (by
    rcases List.mem_append.mp hp with z | z
    · exact List.mem_append_left _ z
    · exact List.mem_append_right _ (List.mem_append_left _ z))⟩, n, w _ _ _ q⟩
theorem XAt.imp {X : Cx} {pins : List (Addr × Obj)} {E E' : XE} {e : Value} {s : Shared} (h : XAt X pins E e s) (w : ∀ c σ H, E c σ H → E' c σ H) : XAt X pins E' e s := by
  obtain ⟨a, cls, a0, σ, H, B, rfl, I, hh, C, n, q⟩ := h
  exact ⟨a, cls, a0, σ, H, B, rfl, I, hh, C, n, w _ _ _ q⟩
theorem XL.weak {X : Cx} {pins pl : List (Addr × Obj)} {E E' : XE} {e : Value} {s : Shared} (h : XL X (pins ++ pl) E e s) (w : ∀ c σ H, E c σ H → E' c σ H) : XL X pins E' e s :=
  wpAny_mono h (fun _ _ x => XAt.weak x w) fun _ _ x => x
theorem XL.imp {X : Cx} {pins : List (Addr × Obj)} {E E' : XE} {e : Value} {s : Shared} (h : XL X pins E e s) (w : ∀ c σ H, E c σ H → E' c σ H) : XL X pins E' e s :=
  wpAny_mono h (fun _ _ x => x.imp w) fun _ _ x => x

/-- how an exception lies behind a call -/
def CXr (P : Program) (w : World) : CXT := fun outer H s E e s' => ∃ (a : Addr) (cls a0 : Value) (H' : Hp) (B : Heap), e = .ref a ∧ s'.os = s.os ∧ AllBare s'.gens ∧ Un (frs outer) [] H H' s.heap s'.heap ∧ HOk P w H' s'.heap ∧
  Heap.FlyingW B outer a cls a0 s'.heap ∧ H' a = none ∧ (∀ b o, s.heap.get? b = some o → b ∉ frs outer → ∃ o', B.get? b = some o') ∧ (∀ b u, H' b = some u → ∃ o, B.get? b = some o) ∧ E cls none H'
/-- this frame is the top one -/
def OwnFr (X : Cx) : Prop := X.stack = X.env :: X.outer ∧ X.env.frame = some X.env.locals ∧ X.ex = []
section
variable {X : Cx} {pins : List (Addr × Obj)} {σ : St} {H : Hp} {s s' : Shared}
/-- a callee's exception comes to this body -/
theorem XL.of_call {E : XK} {e : Value} (ow : OwnFr X) (I : Inv X pins σ H s) (h : CXr X.prog X.w X.stack H s E e s') : XL X pins (fun c σ' H' => σ' = σ ∧ E c none H') e s' := by
  obtain ⟨a, cls, a0, H', B, rfl, os, bare, un, hok, fl, na, old, trk, q⟩ := h
  have I' : Inv X pins σ H' s' := I.call' os un hok bare fun b z => absurd z (by simp)
  have C : Cov X pins H' B := by
    refine ⟨fun b o e hb => ?_, trk, fun p hp => ?_⟩
    · obtain ⟨o1, e1⟩ := I.base.there b o e (by rw [ow.2.2]; simp)
      refine old b o1 e1 fun z => ?_
      rcases List.mem_cons.mp (I.stkSub b z) with z | z
      · exact Nat.ne_of_lt (Nat.lt_of_lt_of_le (Heap.lt_size e) I.ok.above) z
      · exact hb z
    · obtain ⟨e, n, ne, nf, _⟩ := I.pin p hp
      refine old p.1 p.2 e fun z => ?_
      rcases List.mem_cons.mp (I.stkSub p.1 z) with z | z
      · exact ne z
      · exact nf z
  have fl' := fl
  rw [ow.1] at fl'
  refine wpAny_looks_onW (by rw [I.ok.frames, ow.1]) ow.2.1 fl' fun h' hh up => ?_
  refine ⟨a, cls, a0, σ, H', B, rfl, I'.flown (t' := s'.toks) ow.2.2 C fl.1 hh.1 up, ?_, C, na, rfl, q⟩
  rw [ow.1]
  exact hh
/-- an exception made here -/
theorem XL.of_made {a : Addr} {cls : Value} {args : List Value} {h' : Heap} {E : XE} (ow : OwnFr X) (I : Inv X pins σ H s) (hx : Heap.MadeExcOf s.heap h' a cls args) (q : E cls σ H) : XL X pins E (.ref a) { s with heap := h' } := by
  obtain ⟨t, he, htn, ht⟩ := hx.there
  have fr := I.stack
  rw [ow.1] at fr
  -- all but the frames
  have hin : ∀ env ∈ (X.env :: X.outer), ∀ b, env.frame = some b → b ∈ frs X.stack := fun env hm b hb => by rw [ow.1]; exact List.mem_filterMap.mpr ⟨env, hm, hb⟩
  have st0 : (PySem.W.hideAll s.heap (frs X.stack)).StaysIn s.heap := fun b o e => PySem.W.of_hideAll _ e
  have I1 : Inv X pins σ H { s with heap := h' } := I.kept (t' := s.toks) hx.keeps
  have C : Cov X pins H (PySem.W.hideAll s.heap (frs X.stack)) := by
    refine ⟨fun b o e hb => ?_, fun b u e => ?_, fun p hp => ?_⟩
    · obtain ⟨o1, e1⟩ := I.base.there b o e (by rw [ow.2.2]; simp)
      refine ⟨o1, PySem.W.hideAll_get _ e1 fun z => ?_⟩
      rcases List.mem_cons.mp (I.stkSub b z) with z | z
      · exact Nat.ne_of_lt (Nat.lt_of_lt_of_le (Heap.lt_size e) I.ok.above) z
      · exact hb z
    · have lt := I.hok.lt e
      have : ∃ o, s.heap.get? b = some o := by
        have z := I.hok b u e
        cases q2 : s.heap.get? b with
        | some o => exact ⟨o, rfl⟩
        | none =>
          exfalso
          have k : ∀ o, s.heap.get? b = some o → False := fun o z => by rw [q2] at z; cases z
          cases u with
          | lst xs => obtain ⟨_, _, _, _, e⟩ := z; exact k _ e
          | tup xs => obtain ⟨_, _, _, o, e, _⟩ := z; exact k _ e
          | dK kvs => obtain ⟨_, _, _, _, o, _, _, e, _⟩ := z; exact k _ e
          | dT kvs => obtain ⟨_, _, _, _, o, _, _, e, _⟩ := z; exact k _ e
          | set S n => obtain ⟨o, _, _, _, e, _⟩ := z; exact k _ e
          | ins C dx fs => obtain ⟨_, _, _, e, _⟩ := z; exact k _ e
          | own y => obtain ⟨_, e⟩ := z; exact k _ e
          | xd fs => obtain ⟨_, ⟨_, _, _, e, _⟩, _⟩ := z; exact k _ e
          | rng lo hi => obtain ⟨_, _, _, e⟩ := z; exact k _ e
          | frz ob u => obtain ⟨e, _⟩ := z; exact k _ e
          | tbl ps => exact k _ (show s.heap.get? b = some _ from z)
          | met f y => exact k _ (show s.heap.get? b = some _ from z)
          | ext φ => obtain ⟨_, ⟨_, e⟩, _⟩ := z; exact k _ e
      obtain ⟨o, eo⟩ := this
      refine ⟨o, PySem.W.hideAll_get _ eo fun z => ?_⟩
      have := I.stkFree b z
      rw [e] at this
      cases this
    · obtain ⟨e, n, ne, nf, _⟩ := I.pin p hp
      refine ⟨p.2, PySem.W.hideAll_get _ e fun z => ?_⟩
      rcases List.mem_cons.mp (I.stkSub p.1 z) with z | z
      · exact ne z
      · exact nf z
  have na : H a = none := by
    cases z : H a with
    | none => rfl
    | some u =>
      obtain ⟨o, e⟩ := C.trk a u z
      have := st0 a o e
      rw [hx.new] at this
      cases this
  have hen : (PySem.W.hideAll s.heap (frs X.stack)).get? a = none := by
    cases z : (PySem.W.hideAll s.heap (frs X.stack)).get? a with
    | none => rfl
    | some o =>
      have := st0 a o z
      rw [hx.new] at this
      cases this
  have fr2 : h'.FunFrames (PySem.W.hideAll s.heap (frs X.stack)) (X.env :: X.outer) := by
    have z := PySem.W.funFrames_hide (base := X.base) fr hin
    exact z.of_keeps fun b o hb _ => ⟨o, hx.keeps b o hb, rfl⟩
  unfold XL noteFrame
  simp only [ow.2.1]
  refine wpAny_bind (wpAny_field he rfl (x := .none) rfl ?_)
  rw [if_neg (by decide)]
  refine wpAny_entryW (s := { s with heap := h' }) (a0 := .ref t) (by rw [I.ok.frames, ow.1]) fr2 ow.2.1 he (fun b o e => hx.keeps b o (st0 b o e)) hen rfl (by show 1 < 6; decide) rfl fun h2 ⟨k1, k2, k3, k4⟩ => ?_
  refine ⟨a, cls, .ref t, σ, H, _, rfl, I1.flown (t' := s.toks) ow.2.2 C (fun b o e => hx.keeps b o (st0 b o e)) k1 k4, ⟨k1, hen, ?_, k3⟩, C, na, q⟩
  have k2' := k2
  rw [← ow.1] at k2'
  exact k2'
end

/-! ### the judgement: a statement that may raise -/
abbrev TSX := Ends → XE → St → Hp → Prop
def PSX (X : Cx) (st : Stmt) (t : TSX) : Prop :=
  ∀ (pins : List (Addr × Obj)) (s : Shared) (σ : St) (H : Hp) (D : Ends) (E : XE), Inv X pins σ H s → t D E σ H → wpAny (model X.prog X.w) X.A (exec st X.env) (SP X pins D) (XL X pins E) s
def PSsX (X : Cx) (st : List Stmt) (t : TSX) : Prop :=
  ∀ (pins : List (Addr × Obj)) (s : Shared) (σ : St) (H : Hp) (D : Ends) (E : XE), Inv X pins σ H s → t D E σ H → wpAny (model X.prog X.w) X.A (execs st X.env) (SP X pins D) (XL X pins E) s
/-- an expression that may raise; where it does, the names are as they were -/
def PEX (X : Cx) (e : Expr) (t : St → Hp → VK → (Value → Hp → Prop) → Prop) : Prop :=
  ∀ (pins : List (Addr × Obj)) (s : Shared) (σ : St) (H : Hp) (Q : VK) (E : Value → Hp → Prop), Inv X pins σ H s → t σ H Q E → wpAny (model X.prog X.w) X.A (eval e X.env) (EP X pins σ Q) (XL X pins fun c σ' H' => σ' = σ ∧ E c H') s
section
variable {X : Cx} {st : Stmt} {rest : List Stmt} {t u : TSX} {e : Expr} {pos : Pos}
def tLift (t : TS) : TSX := fun D _ σ H => t D σ H
theorem sx (h : PS X.nox st t') : PSX X st (tLift t') := fun pins s σ H D E I hw =>
  wpAny_mono (h pins s σ H D (I.wish _) hw) (fun _ _ q => q.unwish) fun _ _ z => False.elim z
def tSeqX (t u : TSX) : TSX := fun D E σ H => t { D with nx := u D E } E σ H
def tNextX : TSX := fun D _ σ H => D.nx σ H
theorem ssx_nil : PSsX X [] tNextX := fun _ _ σ H _ _ I h => wpAny_execs_nil ⟨σ, H, I, h⟩
theorem ssx_cons (h1 : PSX X st t) (h2 : PSsX X rest u) : PSsX X (st :: rest) (tSeqX t u) := by
  intro pins s σ H D E I h
  refine wpAny_execs_cons (thn (h1 pins s σ H { D with nx := u D E } E I h) fun f s1 q => ?_)
  cases f with
  | next =>
    obtain ⟨σ', H', I', q⟩ := q
    exact h2 pins s1 σ' H' D E I' q
  | ret v => exact q
  | brk => exact q
  | cont => exact q
theorem ssx_one (h1 : PSX X st t) : PSsX X [st] t := by
  intro pins s σ H D E I h
  refine wpAny_execs_cons (thn (h1 pins s σ H D E I h) fun f s1 q => ?_)
  cases f with
  | next => exact wpAny_execs_nil q
  | ret v => exact q
  | brk => exact q
  | cont => exact q
/-- a test that raises nothing -/
theorem PT.lift {tc : TT} (h : PT X.nox e tc) : ∀ (pins : List (Addr × Obj)) (s : Shared) (σ : St) (H : Hp) (Q : Bool → Hp → Prop) (E : Value → Shared → Prop), Inv X pins σ H s → tc σ H Q →
    wpAny (model X.prog X.w) X.A (isTrue e X.env (eval e X.env)) (TP X pins σ Q) E s := fun pins s σ H Q E I hw =>
  wpAny_mono (h pins s σ H Q (I.wish _) hw) (fun _ _ ⟨H', I', q⟩ => ⟨H', I'.unwish, q⟩) fun _ _ z => False.elim z
def tIfX (c : TT) (t u : TSX) : TSX := fun D E σ H => c σ H fun b H1 => if b = true then t D E σ H1 else u D E σ H1
theorem sx_if {c : Expr} {a b : List Stmt} {tc : TT} (hc : PT X.nox c tc) (ha : PSsX X a t) (hb : PSsX X b u) : PSX X (.If c a b pos) (tIfX tc t u) := by
  intro pins s σ H D E I h
  refine wpAny_If (thn (hc.lift pins s σ H _ _ I h) fun d s1 ⟨H1, I1, q1⟩ => ?_)
  cases d with
  | true => exact ha pins s1 σ H1 D E I1 q1
  | false => exact hb pins s1 σ H1 D E I1 q1
def tJX (t : TSX) : TSX := fun D E σ H => ∃ M : St → Hp → Prop, t { D with nx := M } E σ H ∧ ∀ σ' H', M σ' H' → D.nx σ' H'
/-- statements whose expression may raise -/
theorem sx_expr {te : St → Hp → VK → (Value → Hp → Prop) → Prop} (he : PEX X e te) (hs : swapsWith e none pos.line X.env = pure false := by rfl) : PSX X (.Expr e pos) (fun D E σ H => te σ H (fun _ H1 => D.nx σ H1) fun c H1 => E c σ H1) := by
  intro pins s σ H D E I h
  exact wpAny_Expr_any (wpAny_mono (he pins s σ H _ _ I h) (fun v s1 ⟨x, H1, I1, r1, q1⟩ => ⟨σ, H1, I1, q1⟩) fun x s1 z => z.imp fun c σ' H' ⟨a, b⟩ => by rw [a]; exact b) I.quiet hs
/-- f(e, ..) of a def that may raise -/
def tCallX (sp : Sp) (t : TA) : St → Hp → VK → (Value → Hp → Prop) → Prop := fun σ H Q E => t σ H fun vs H1 => sp vs H1 Q fun c _ H' => E c H'
theorem AP.unwish {pins : List (Addr × Obj)} {σ : St} {Q : List V → Hp → Prop} {us : List Value} {s' : Shared} {Ex : Value → Shared → Prop} (h : AP (X.wish Ex) pins σ Q us s') : AP X pins σ Q us s' := by
  obtain ⟨vs, H', I, r, q⟩ := h
  exact ⟨vs, H', I.unwish, r, q⟩
theorem PA.lift {es : List Expr} {ta : TA} (h : PA X.nox es ta) : ∀ (pos : Pos) (pins : List (Addr × Obj)) (s : Shared) (σ : St) (H : Hp) (Q : List V → Hp → Prop) (E : Value → Shared → Prop), Inv X pins σ H s → ta σ H Q →
    wpAny (model X.prog X.w) X.A (spliced (backTo pos (starEach es X.env))) (AP X pins σ Q) E s := fun pos pins s σ H Q E I hw =>
  wpAny_mono (h pos pins s σ H Q (I.wish _) hw) (fun _ _ q => AP.unwish q) fun _ _ z => False.elim z
theorem run_fnX {f : Addr} {fd : FuncData} {ps : List Str} {sp : Sp} {k : Nat} {ds : List Value} {dvs : List V} {pins : List (Addr × Obj)} {σ : St} {H : Hp} {s : Shared} {Q : VK} {E : Value → Hp → Prop} {us : List Value} {vs : List V} (ow : OwnFr X)
    (F : FnOk X.prog X.w X.K X.mg X.base (CXr X.prog X.w) k f fd ps sp) (hr : Room k X.A) (hb : Binds X.K fd ps ds) (hd : Vals dvs ds)
    (I : Inv X pins σ H s) (r : Vals vs us) (h : sp (vs ++ dvs) H Q fun c _ H' => E c H') : wpAny (model X.prog X.w) X.A (call (.ref f) us) (EP X pins σ Q) (XL X pins fun c σ' H' => σ' = σ ∧ E c H') s := by
  have r2 : Vals (vs ++ dvs) (us ++ ds) := r.append hd
  have hl : (us ++ ds).length = ps.length := by rw [← r2.length]; exact F.len _ _ _ _ h
  refine wpAny_call (codeAny_mono (F.run X.A X.stack s H ⟨us, []⟩ (us ++ ds) (vs ++ dvs) Q _ hr I.env0 (hb s us I.kIn hl) r2 h) fun r s' hq => ?_)
  cases r with
  | error e => exact XL.of_call (E := fun c _ H' => E c H') ow I (show CXr X.prog X.w X.stack H s (fun c _ H' => E c H') e s' from hq)
  | ok fl =>
    cases fl with
    | ret u => exact I.after hq
    | next => exact False.elim hq
    | brk => exact False.elim hq
    | cont => exact False.elim hq
theorem pex_def {x : Str} {st : Stmt} {ps : List Str} {f : Addr} {fd : FuncData} {k : Nat} {sp : Sp} {p : Pos} {es : List Expr} {ta : TA} (ow : OwnFr X) (D : Def X.K X.mg x st ps f fd) (G : FnOk X.prog X.w X.K X.mg X.base (CXr X.prog X.w) k f fd ps sp) (hr : Room k X.A) (ha : PA X.nox (e :: es) ta)
    (hp : plainE e = true := by rfl) (hps : es.all plainE = true := by rfl) (hg : Gl X x := by rfl) (hdb : (x == ("__debug__" : Str)) = false := by decide) : PEX X (.Call (.Name x p) (e :: es) [] pos) (tCallX sp ta) := by
  intro pins s σ H Q E I h
  refine wpAny_Call_Name_kw (ld_glob I hg D.m ?_ hdb)
  refine PySem.W.callWith_K (h₀ := X.base) I.ok.mod.kin D.F.kp (thn (ha.lift pos pins s σ H _ _ I h) fun us s1 ⟨vs, H1, I1, r, q⟩ => ⟨I1.kIn, ?_⟩) (starEach_plain hp _ _) (starAny_plain hps _ _)
  exact run_fnX (dvs := []) ow G hr D.b .nil I1 r (by rw [List.append_nil]; exact q)
end

/-! ### a def that may raise -/
section
variable {P : Program} {w : World} {K : PySem.W.Frag} {mg : Str → Option Value} {base : Heap}
theorem ownFr_cx {CX : CXT} {N : List Str} {qual : Str} {scope : Scope} {f : Addr} {cd : Value} {A : Around} {outer : List Env} {s : Shared} {H : Hp} {E : XK} : OwnFr (cxOf CX P w K mg base N qual scope f cd A outer s H E) := ⟨rfl, rfl, rfl⟩
theorem Fun.okX {x qual : Str} {st : Stmt} {f : Addr} {fd : FuncData} {N ps : List Str} {k : Nat} {sp : Sp} (F : Fun K x qual st f fd) (S : FnScope N ps (defScope st)) (len : ∀ vs H Q E, sp vs H Q E → vs.length = ps.length)
    (hbody : ∀ (cdv : Value) (A : Around) (outer : List Env) (s : Shared) (H : Hp) (vs : List V) (Q : VK) (E : XK), Room k (A.deeper (envOfC qual (defScope st) s.heap.objs.size f cdv)) → sp vs H Q E →
      ∃ t : TSX, PSsX (cxOf (CXr P w) P w K mg base N qual (defScope st) f cdv A outer s H E) (defBody st) t ∧ t { nx := fun _ H' => Q .non H', rt := Q } (fun c _ H' => E c none H') (start N vs) H) : FnOk P w K mg base (CXr P w) (k + 1) f fd ps sp := by
  obtain ⟨oc, od, kV, doc, pm, an, cdv, ct, osl, rfl, lk, hcd⟩ := F.ex
  refine fn_of lk hcd S len fun A outer s H vs Q E hr hsp => ?_
  obtain ⟨t, h, q⟩ := hbody cdv A outer s H vs Q E hr hsp
  refine ⟨fun D σ H' => t D (fun c _ H' => E c none H') σ H', fun pins s1 σ H1 D I hw => ?_, q⟩
  refine wpAny_mono (h pins s1 σ H1 D _ I hw) (fun _ _ z => z) fun e s2 z => ?_
  -- the exception leaves the frame
  show wpAny (model P w) _ (leaving _ e) _ _ s2
  unfold leaving
  refine wpAny_bind (wpAny_mono z (fun _ s3 z3 => ?_) fun _ _ z => z.elim)
  obtain ⟨a, cls, a0, σ', H', B, rfl, I', hh, C, na, q'⟩ := z3
  refine wpAny_landsW hh fun h' fl up => ?_
  have I2 := I'.flown (t' := s3.toks) rfl C hh.1 fl.1 up
  obtain ⟨k1, k2, ⟨_, _, k3⟩, k4⟩ := fl
  exact ⟨a, cls, a0, H', B, rfl, I2.os, I2.bare, I2.base, I2.hok, ⟨k1, k2, k3, k4⟩, na, C.old, C.trk, q'⟩
end
end L2


set_option Elab.async false
set_option linter.all false
set_option maxRecDepth 100000
set_option maxHeartbeats 1000000
namespace PySem.W
open PySem PySem.Spec PySem.Calls PyProof.Rows
section
variable {prog : Program} {w : World} {A : Around} {E : Value → Shared → Prop} {h : Heap} {g : Array GenState} {d : Drawn} {t : Nat} {os : OsState} {a C : Addr} {o : Obj} {K : Frag}
theorem class_get_exc {R : Result → Shared → Prop} (X : K.In h) (hx : h.get? a = some o) (hc : o.cls = .ref C) (hm : mroIn K C (.type "object") = some true) (hq : R (.ok (.ret (.ref C))) ⟨h, g, d, t, os⟩) :
    codeAny (model prog w) A (.call (.builtin "getset_descriptor.__get__") ⟨[.builtin "object.__class__", .ref a, .ref C], []⟩) R ⟨h, g, d, t, os⟩ := by
  have hT5 : (⟨h, g, d, t, os⟩ : Shared).TypeIs (.builtin "object.__class__") "getset_descriptor" := F.typeOf_object_class
  have L : Looks (model prog w) h (isSubtype (.ref C) (.type (".".intercalate ("object.__class__".cutAt '.').dropLast))) true := by
    rw [F.owner_object_class]
    exact looks_subIn X hm
  refine codeAny_call_builtin F.slot_gs_get.plain F.entry_gs_get (F.slot_gs_get.check _ _ _ _ _ _ _ _ hT5 (F.args_gs_get _ _ _) ?_)
  repeat (any_goals (first | assumption | (with_reducible refine wpAny_loadPart_at hx ?_; rw [hc]) | with_reducible refine L.at ?_ | wp_step))
  refine ⟨Code.quiet_builtin _ (by decide +kernel), codeAny_builtin F.entry_object_class ?_⟩
  repeat (any_goals (first | assumption | (with_reducible refine wpAny_loadPart_at hx ?_; rw [hc]) | wp_step))
theorem class_entry_exc {tk : Tok} {Q : Fin → Shared → Prop} (X : K.In h) (hx : h.get? a = some o) (hc : o.cls = .ref C) (ha : findIn K (.ref C) "__class__" = some (some (.builtin "object.__class__"))) (hm : mroIn K C (.type "object") = some true) (hq : Q (.done (.ret (.ref C))) ⟨h, g, d, t, os⟩) :
    wpAny (model prog w) A (Builtin.«object.__getattribute__» ⟨[.ref a, .str "__class__" tk], []⟩) Q E ⟨h, g, d, t, os⟩ := by
  have f5 := F.typeOf_object_class
  have f6 := F.slot_gs_get.lookup
  have f7 := F.slot_gs_set.lookup
  have hT5 : (⟨h, g, d, t, os⟩ : Shared).TypeIs (.builtin "object.__class__") "getset_descriptor" := F.typeOf_object_class
  have L := looks_findIn (M := model prog w) X ha
  repeat (any_goals (first | assumption | (with_reducible refine wpAny_loadPart_at hx ?_; rw [hc]) | with_reducible refine L.at ?_ | wp_step))
  refine class_get_exc X hx hc hm ?_
  repeat (any_goals (first | assumption | wp_step))
theorem check_ga_exc {M : Model} {nameV : Value} {Q : Unit → Shared → Prop} (X : K.In h) (hx : h.get? a = some o) (hc : o.cls = .ref C) (hb : subIn K (.ref C) (.type "BaseException") = some true) (hq : Q () ⟨h, g, d, t, os⟩) :
    wpAny M A (checkBuiltinCall "BaseException.__getattribute__" ⟨[.ref a, nameV], []⟩) Q E ⟨h, g, d, t, os⟩ := by
  have hk : builtinKind "BaseException.__getattribute__" = some .slot := by decide +kernel
  have hsplit : splitId "BaseException.__getattribute__" = some ("BaseException", "__getattribute__") := by decide +kernel
  have L := looks_subIn (M := M) X hb
  have ha := F.args_bexc_ga (.ref a) nameV
  simp only [checkBuiltinCall, hk, hsplit]
  refine wpAny_bind ?_
  unfold isInstance
  repeat (first | (with_reducible refine wpAny_loadPart_at hx ?_; rw [hc]) | with_reducible refine L.at ?_ | wp_step)
  exact hq
structure ExcK (K : Frag) (C : Addr) : Prop where
  cl : findIn K (.ref C) "__class__" = some (some (.builtin "object.__class__"))
  ga : findIn K (.ref C) "__getattribute__" = some (some (.builtin "BaseException.__getattribute__"))
  gt : findIn K (.ref C) "__getattr__" = some none
  ob : mroIn K C (.type "object") = some true
  bx : subIn K (.ref C) (.type "BaseException") = some true
theorem class_call_exc {tk : Tok} {R : Result → Shared → Prop} (X : K.In h) (hx : h.get? a = some o) (hc : o.cls = .ref C) (F0 : ExcK K C) (hq : R (.ok (.ret (.ref C))) ⟨h, g, d, t, os⟩) :
    codeAny (model prog w) A (.call (.builtin "BaseException.__getattribute__") ⟨[.ref a, .str "__class__" tk], []⟩) R ⟨h, g, d, t, os⟩ :=
  codeAny_call_builtin F.attr_ValueError.ga.plain F.entry_bexc_ga (check_ga_exc X hx hc F0.bx (class_entry_exc X hx hc F0.cl F0.ob hq))
theorem class_by_exc {tk : Tok} {Q : Value → Shared → Prop} (X : K.In h) (hx : h.get? a = some o) (hc : o.cls = .ref C) (F0 : ExcK K C) (hq : Q (.ref C) ⟨h, g, d, t, os⟩) :
    wpAny (model prog w) A (getAttrBy (.ref a) (.str "__class__" tk) false) Q E ⟨h, g, d, t, os⟩ := by
  have f3 := F.attr_ValueError.ga.bind (.ref a)
  have L1 := looks_findIn (M := model prog w) X F0.ga
  have L2 := looks_findIn (M := model prog w) X F0.gt
  have hx2 : (Value.builtin "BaseException.__getattribute__" == Value.builtin "object.__getattribute__") = false := by decide +kernel
  have hx1 : (onTheHeap (Value.ref C) && Value.builtin "BaseException.__getattribute__" == Value.builtin "object.__getattribute__") = false := by rw [hx2]; rfl
  repeat (any_goals (first | assumption | (with_reducible refine wpAny_loadPart_at hx ?_; rw [hc]) | with_reducible refine L1.at ?_ | with_reducible refine L2.at ?_ | wp_step))
  refine class_call_exc X hx hc F0 ?_
  repeat (any_goals (first | assumption | wp_step))
theorem class_attr_exc {Q : Option Value → Shared → Prop} (X : K.In h) (hx : h.get? a = some o) (hc : o.cls = .ref C) (F0 : ExcK K C) (hq : Q (some (.ref C)) ⟨h, g, d, t + 1, os⟩) : wpAny (model prog w) A (getAttr? (.ref a) "__class__") Q E ⟨h, g, d, t, os⟩ := by
  unfold getAttr? getAttrBy?
  repeat (any_goals (first | assumption | with_reducible apply class_by_exc X hx hc F0 | wp_step))
end
/-- an exception of an own class, for isinstance -/
theorem kitx_exc {K : Frag} {a C : Addr} (F0 : ExcK K C) (hcl : (clsIn K C).isSome = true) : KitX K (.ref a) (.ref C) (fun h => ∃ o, h.get? a = some o ∧ o.cls = .ref C) where
  ty := fun M h X ⟨o, e, c⟩ => by
    rw [← c]
    exact (Looks.ld e).andThen .now
  it := fun _ _ X _ => by
    unfold clsIn at hcl
    split at hcl
    · rename_i c' d' cd' sl' ho
      intro A' Q' E' s' k q
      unfold isType loadHead
      exact wpAny_bind (wpAny_loadPart (k _ _ (X _ _ ho)) (wpAny_pure q))
    · cases hcl
  ne := fun h tp dd its n sl X htp => by
    refine Bool.eq_false_iff.mpr fun q => ?_
    have e : C = tp := Value.ref.inj (beq_iff_eq.mp q)
    subst e
    unfold clsIn at hcl
    split at hcl
    · rename_i c' d' cd' sl' ho
      have z := (X _ _ ho).symm.trans htp
      cases z
    · cases hcl
  ca := fun {prog w A E Q s} X p k => by
    obtain ⟨o, e, c⟩ := p
    exact class_attr_exc X e c F0 k
end PySem.W


set_option Elab.async false
set_option linter.all false
set_option maxRecDepth 100000
set_option maxHeartbeats 1000000
namespace L2
open PySem PySem.Spec PyProof.Rows
/-! ### within an except suite -/
abbrev Cx.hand (X : Cx) (e : Value) : Cx := { X with A := X.A.mark (some e), calm := false, xe := fun _ _ => False }
section
variable {X : Cx} {pins : List (Addr × Obj)} {σ : St} {H : Hp} {s : Shared}
theorem Inv.hand (I : Inv X pins σ H s) (e : Value) : Inv (X.hand e) pins σ H s :=
  ⟨⟨I.ok.mod, I.ok.kind, I.ok.glob, I.ok.blt, I.ok.above, I.ok.inj, I.ok.has, I.ok.cab, (fun z => by cases z), I.ok.frames, I.ok.stk, I.ok.exf, I.ok.bs, I.ok.bsz, I.ok.noex, I.ok.exfs, I.ok.funs, I.ok.frf⟩, I.os, I.bare, I.base, I.loc, I.cell, I.free, I.freeC, I.pin, I.hok, I.len⟩
theorem Inv.unhand {e : Value} (ok : X.Ok) (I : Inv (X.hand e) pins σ H s) : Inv X pins σ H s :=
  ⟨ok, I.os, I.bare, I.base, I.loc, I.cell, I.free, I.freeC, I.pin, I.hok, I.len⟩
/-- a thing that stands there, new since the entry, is tracked from now on -/
theorem Inv.track {a : Addr} {o : Obj} {vs : Array Value} {φ : Heap → Prop} {B : Heap} (I : Inv X pins σ H s) (hx : X.ex = []) (C : Cov X pins H B) (st : B.StaysIn s.heap) (na : H a = none) (nb : B.get? a = none) (ho : s.heap.get? a = some o) (hd : o.data = .fields vs)
    (p : φ s.heap) (stb : ∀ h1 h2 : Heap, φ h1 → (∀ o, h1.get? a = some o → h2.get? a = some o) → φ h2) : Inv X pins σ (upd H a (.ext φ)) s := by
  have nl : a ≠ X.env.locals := by
    rintro rfl
    obtain ⟨m, ⟨o', es, ep, e, d, _⟩, _⟩ := I.loc
    rw [ho] at e; cases e
    rw [hd] at d; cases d
  have nfs : a ∉ X.fs := fun z => by
    obtain ⟨_, o', e, d⟩ := I.funs.mem z
    rw [ho] at e; cases e
    exact d _ hd
  have n0 : X.s₀.heap.get? a = none := by
    cases z : X.s₀.heap.get? a with
    | none => rfl
    | some o' =>
      obtain ⟨o2, e2⟩ := C.old a o' z nfs
      rw [nb] at e2; cases e2
  have nc : ∀ x c, X.env.cells.lookup x = some c → c ≠ a := fun x c e z => by
    obtain ⟨v, o', e', d⟩ := I.cell x c e
    rw [z, ho] at e'; cases e'
    rw [hd] at d; cases d
  have np : ∀ q ∈ X.pn ++ pins, q.1 ≠ a := fun q hq z => by
    obtain ⟨o', e⟩ := C.pin q hq
    rw [z, nb] at e; cases e
  refine ⟨I.ok, I.os, I.bare, ⟨I.base.keep |> fun k b o e n hb hx => k b o e n hb hx, I.base.slot, fun b o' e n hb => ?_, I.base.there, fun b xs e => ?_, fun b ob u e => ?_, fun b ps e => ?_⟩, I.loc, I.cell, ?_, fun x c e => ?_, fun q hq => ?_, fun b u e => ?_, I.len⟩
  · rw [upd_ne (fun z => by subst z; rw [n0] at e; cases e)]
    exact I.base.free b o' e n hb
  · exact upd_old (I.base.tups b xs e) na
  · exact upd_old (I.base.frzs b ob u e) na
  · obtain ⟨more, e'⟩ := I.base.tbls b ps e
    exact ⟨more, upd_old e' na⟩
  · rw [upd_ne (Ne.symm nl)]
    exact I.free
  · rw [upd_ne (nc x c e)]
    exact I.freeC x c e
  · obtain ⟨e, n, r⟩ := I.pin q hq
    exact ⟨e, by rw [upd_ne (np q hq)]; exact n, r⟩
  · by_cases z : b = a
    · subst z
      rw [upd_same] at e
      cases e
      exact ⟨p, ⟨o, ho⟩, stb⟩
    · rw [upd_ne z] at e
      exact (I.hok b u e).stay (fun _ _ _ q => q) (fun c q => upd_old q na) fun c xs q => upd_old q na
/-- the name in slot i is taken away -/
theorem Inv.unbind {i : Nat} {x : Str} {h' : Heap} {u : Option Value} {m : Str → Option Value} (I : Inv X pins σ H s) (hN : X.N.Nodup) (hi : X.N[i]? = some x)
    (hm : s.heap.Ns X.env.locals m) (hl : ∀ (j : Nat) (y : Str) (v : V), X.N[j]? = some y → σ[j]? = some (some v) → Vis X.env.scope y → ∃ u, RelV v u ∧ Look X.env s.heap m y u)
    (hn' : h'.Ns X.env.locals (fun y => if y = x then u else m y)) (hs : Heap.SameBut X.env.locals s.heap h') : Inv X pins (σ.set i none) H { s with heap := h' } := by
  have cne := I.cne
  obtain ⟨oL, _, _, hoL, _⟩ := id hm
  refine ⟨I.ok, I.os, I.bare, ⟨fun b o e n hb hx => ?_, fun b o e n hb hx => ?_, I.base.free, fun b o e hx => ?_, I.base.tups, I.base.frzs, I.base.tbls⟩, ⟨_, hn', fun j y v' e1 e2 e3 => ?_⟩, fun y c e => ?_, I.free, I.freeC, fun p hp => ?_, fun b ob e => ?_, by simpa using I.len⟩
  · exact (hs.2 b (Nat.ne_of_lt (Nat.lt_of_lt_of_le (Heap.lt_size e) I.ok.above))).trans (I.base.keep b o e n hb hx)
  · obtain ⟨sl, e1⟩ := I.base.slot b o e n hb hx
    exact ⟨sl, (hs.2 b (Nat.ne_of_lt (Nat.lt_of_lt_of_le (Heap.lt_size e) I.ok.above))).trans e1⟩
  · obtain ⟨o', e1⟩ := I.base.there b o e hx
    exact ⟨o', (hs.2 b (Nat.ne_of_lt (Nat.lt_of_lt_of_le (Heap.lt_size e) I.ok.above))).trans e1⟩
  · by_cases hj : j = i
    · subst hj
      have : j < σ.length := by rw [I.len]; exact (List.getElem?_eq_some_iff.mp hi).1
      rw [List.getElem?_set_self this] at e2
      cases e2
    · rw [List.getElem?_set_ne (Ne.symm hj)] at e2
      obtain ⟨u', r', q⟩ := hl j y v' e1 e2 e3
      refine ⟨u', r', ?_⟩
      rcases q with ⟨k, e⟩ | ⟨k, c, e, z⟩
      · refine .inl ⟨k, ?_⟩
        have : y ≠ x := fun e => hj (nodup_ix hN e1 (e ▸ hi))
        simp [this, e]
      · exact .inr ⟨k, c, e, z.sameBut hs (cne y c e)⟩
  · obtain ⟨w', z⟩ := I.cell y c e
    exact ⟨w', z.sameBut hs (cne y c e)⟩
  · obtain ⟨e, n, ne, nf, d⟩ := I.pin p hp
    exact ⟨(hs.2 p.1 ne).trans e, n, ne, nf, d⟩
  · refine (I.hok b ob e).stay (fun c w' hc q => (hs.2 c ?_).trans q) (fun _ q => q) fun _ _ q => q
    rintro rfl
    rcases hc with rfl | hc
    · rw [I.free] at e; cases e
    · rw [I.free] at hc; cases hc
end
/-- an exception of the class cls, as a tracked thing -/
def excHO (a : Addr) (cls : Value) : HO := .ext fun h => ∃ o, h.get? a = some o ∧ o.cls = cls

/-! ### try: .. except C as n: .. -/
section
variable {X : Cx}
/-- what is wanted of the body's exception (class, names, heap): the handler takes it -/
def tTry (K : PySem.W.Frag) (D0 : Addr) (i : Nat) (tb : TSX) (th : TS) : TSX := fun D _ σ H =>
  tb D (fun c σ' H' => PySem.W.exmOne K c (.ref D0) = some true ∧ ∀ a, H' a = none →
    th { nx := fun σ2 H2 => D.nx (σ2.set i none) H2, rt := D.rt, bk := fun σ2 H2 => D.bk (σ2.set i none) H2, ct := fun σ2 H2 => D.ct (σ2.set i none) H2 } (σ'.set i (some (.ref a))) (upd H' a (excHO a c))) σ H
theorem sx_try {D0 : Addr} {body : List Stmt} {b₀ : Stmt} {suite : List Stmt} {x n : Str} {np hpos pos : Pos} {i : Nat} {tb : TSX} {th : TS} (ow : OwnFr X) (hN : X.N.Nodup) (hb : PSsX X body tb) (hh : ∀ e, PSs (X.hand e) (b₀ :: suite) th)
    (hm : X.mg x = some (.ref D0)) (hi : X.N[i]? = some n) (hl : X.env.scope.names.lookup n = some .local := by rfl) (hg : Gl X x := by rfl) (hd : (x == ("__debug__" : Str)) = false := by decide) :
    PSX X (.Try body [.ExceptHandler (some (.Name x np)) (some n) (b₀ :: suite) hpos] [] [] pos) (tTry X.K D0 i tb th) := by
  intro pins s σ H D E I h
  refine wpAny_Try_except (wpAny_mono (hb pins s σ H D _ I h) (fun f s1 q => ?_) fun e s1 z => ?_)
  · cases f with
    | next => exact wpAny_execs_nil q
    | ret v => exact q
    | brk => exact q
    | cont => exact q
  refine wpAny_mono z (fun _ s2 z2 => ?_) fun _ _ z => z.elim
  obtain ⟨a, cls, a0, σ', H', B, rfl, I2, held, C, na, em, k⟩ := z2
  refine wpAny_landsW held fun h3 fl3 up3 => ?_
  have I3 := I2.flown (t' := s2.toks) ow.2.2 C held.1 fl3.1 up3
  refine wpAny_handleBy_cons (codeAny_handlers_test ?_) (by intro q; cases q)
  refine ld_glob (X := X.hand (.ref a)) (I3.hand (.ref a)) hg hm ?_ hd
  obtain ⟨ob, hob, hoc⟩ := fl3.there
  have LT : PySem.W.Looks (model X.prog X.w) h3 (typeOf (.ref a)) cls := by
    rw [← hoc]
    exact (PySem.W.Looks.ld hob).andThen .now
  refine PySem.W.Looks.here (s := { s2 with heap := h3 }) (PySem.W.exm_one I3.kIn LT em) ?_
  refine codeAny_handlers_suite_as ?_
  refine lands_againW fl3 fun h4 fl4 up4 => ?_
  have I4 := I3.flown (t' := s2.toks) ow.2.2 C fl3.1 fl4.1 up4
  obtain ⟨oe, ws, hoe, hoec, hoed, _⟩ := fl4.first
  have I5 : Inv X pins σ' (upd H' a (excHO a cls)) _ := I4.track (B := B) ow.2.2 C fl4.1 na fl4.2.1 hoe hoed (φ := fun h => ∃ o, h.get? a = some o ∧ o.cls = cls) ⟨oe, hoe, hoec⟩ fun h1 h2 ⟨o, e, c⟩ q => ⟨o, q o e, c⟩
  refine store_ok (X := X.hand (.ref a)) (I5.hand (.ref a)) hN hi (.inl hl) (v := .ref a) rfl (fun s6 I6 => ?_) (.inr hl)
  refine wpAny_mono (hh (.ref a) pins s6 _ _ _ I6 (k a na)) (fun f s7 q7 => ?_) fun _ _ z => z.elim
  -- behind the suite the name is taken away
  have out : ∀ {σ7 : St} {H7 : Hp} {R : St → Hp → Prop} {Q : Unit → Shared → Prop}, Inv (X.hand (.ref a)) pins σ7 H7 s7 → (∀ s9, Inv X pins (σ7.set i none) H7 s9 → Q () s9) →
      wpAny (model X.prog X.w) X.A (do bindName X.env n .none; unbindBehindTheSuite X.env n hpos) Q (XL X pins E) s7 := fun {σ7 H7 R Q} I7 kk => by
    have I7' := Inv.unhand I.ok I7
    refine wpAny_bind (wpAny_bindName (store_ok I7' hN hi (.inl hl) (v := .non) rfl (fun s8 I8 => ?_) (.inr hl)))
    unfold unbindBehindTheSuite
    obtain ⟨m, hn, hlk⟩ := I8.loc
    have hiσ : i < σ7.length := by rw [I7'.len]; exact (List.getElem?_eq_some_iff.mp hi).1
    obtain ⟨u8, r8, l8⟩ := hlk i n .non hi (by rw [List.getElem?_set_self hiσ]) (.inl hl)
    have hmn : m n = some u8 := by
      rcases l8 with ⟨_, e⟩ | ⟨kd, _⟩
      · exact e
      · rcases kd with kd | kd
        · have z : X.env.scope.names.lookup n = some .cell := kd
          rw [hl] at z; cases z
        · have z : X.env.scope.names.lookup n = some .free := kd
          rw [hl] at z; cases z
    refine wpAny_onRaise (wpAny_unbindName_local (v := u8) hl hn hmn (by rw [I.ok.kind]; rfl) fun h9 u9 hn9 hs9 => ?_)
    have I9 := I8.unbind hN hi hn hlk hn9 hs9
    rw [List.set_set] at I9
    exact kk _ I9
  cases f with
  | next =>
    obtain ⟨σ7, H7, I7, q⟩ := q7
    exact out (R := fun _ _ => True) I7 fun s9 I9 => ⟨_, _, I9, q⟩
  | brk =>
    obtain ⟨σ7, H7, I7, q⟩ := q7
    exact out (R := fun _ _ => True) I7 fun s9 I9 => ⟨_, _, I9, q⟩
  | cont =>
    obtain ⟨σ7, H7, I7, q⟩ := q7
    exact out (R := fun _ _ => True) I7 fun s9 I9 => ⟨_, _, I9, q⟩
  | ret v =>
    obtain ⟨v7, σ7, H7, I7, r7, q⟩ := q7
    exact out (R := fun _ _ => True) I7 fun s9 I9 => ⟨_, _, _, I9, r7, q⟩
end
end L2


set_option Elab.async false
set_option linter.all false
set_option maxRecDepth 100000
set_option maxHeartbeats 1000000
namespace L2
open PySem PySem.Spec PyProof.Rows
/-! ### isinstance(e, C) of a caught exception -/
section
variable {X : Cx}
theorem call_isinstE : CallR X (.builtin "isinstance") (fun xs H Q => ∃ a C y cv b, xs = [.ref a, y] ∧ H a = some (excHO a (.ref C)) ∧ RelV y cv ∧ PySem.W.ExcK X.K C ∧ (PySem.W.clsIn X.K C).isSome = true ∧ PySem.W.kitOne X.K (.ref C) cv = some b ∧ Q (.bl b) H) := by
  intro pins s σ H xs us Q I r h
  obtain ⟨a, C, y, cv, b, rfl, ha, ry, F0, hcl, e, q⟩ := h
  obtain ⟨u, w', rfl, rx, rt⟩ := vals2 r
  cases rx
  have : cv = w' := by
    cases y with
    | ref p => cases ry; cases rt; rfl
    | ty n => cases ry; cases rt; rfl
    | non => cases ry; cases rt; rfl
    | bl p => cases ry; cases rt; rfl
    | int p =>
      exfalso
      obtain ⟨t, rfl⟩ := ry
      simp [PySem.W.kitOne, PySem.W.kitCls] at e
    | str p =>
      exfalso
      obtain ⟨t, rfl⟩ := ry
      simp [PySem.W.kitOne, PySem.W.kitCls] at e
    | byt p =>
      exfalso
      obtain ⟨t, rfl⟩ := ry
      simp [PySem.W.kitOne, PySem.W.kitCls] at e
    | flt p =>
      exfalso
      obtain ⟨t, rfl⟩ := ry
      simp [PySem.W.kitOne, PySem.W.kitCls] at e
  subst this
  obtain ⟨p, _, _⟩ : (∃ o, s.heap.get? a = some o ∧ o.cls = .ref C) ∧ (∃ o, s.heap.get? a = some o) ∧ _ := I.hok a _ ha
  exact PySem.W.kia_one (PySem.W.kitx_exc F0 hcl) I.kIn p e (fun z => nomatch z) fun tk => ⟨.bl b, H, I.tok _, rfl, q⟩
end

/-! ### raise C(..) -/
theorem exc_obj {K : PySem.W.Frag} {h : Heap} {C : Addr} {bmB : List Value} {newId : String} (X : K.In h) (q : PySem.W.excIn K C bmB newId = true) :
    ∃ bm N nm q bs hdct sn sub ab col dd k0 k1 k2 k3 k5 mN, h.get? C = some (excClassObj nm q C N bs bm hdct sn sub ab col dd k0 k1 k2 k3 k5 newId) ∧ h.Ns N mN ∧ mN "__init__" = none ∧ OwnTail h bmB bm := by
  unfold PySem.W.excIn at q
  split at q
  · rename_i dd cd sl ho
    split at q
    · rename_i C' bm k0 k1 k2 k3 n k5 hm hs
      simp only [Bool.and_eq_true, beq_iff_eq, Bool.not_eq_true'] at q
      obtain ⟨⟨⟨⟨⟨rfl, rfl⟩, hdel⟩, ht⟩, hok⟩, hni⟩ := q
      obtain ⟨nm, bs, mro, ns, qn, hd, sn, sub, ab, col, del⟩ := cd
      dsimp only at hm hdel hok hni
      subst hm hdel
      have hsl : sl = #[k0, k1, k2, k3, some (.builtin n), k5] := by
        obtain ⟨l⟩ := sl
        simp only at hs
        rw [hs]
      subst hsl
      exact ⟨bm, ns, nm, qn, bs, hd, sn, sub, ab, col, dd, k0, k1, k2, k3, k5, _, X _ _ ho, .of_isNs (PySem.W.isNs_of_in X hok), PySem.W.nsMap_none_of_in X hok hni, PySem.W.tail_of_in X ht⟩
    · cases q
  · cases q
/-- an own error class under ValueError -/
def veTail : List Value := [.type "ValueError", .type "Exception", .type "BaseException", .type "object"]
structure ExcC (K : PySem.W.Frag) (mg : Str → Option Value) (x : Str) (C : Addr) : Prop where
  m : mg x = some (.ref C)
  q : PySem.W.excIn K C veTail "ValueError.__new__" = true
  k : PySem.W.ExcK K C
  c : (PySem.W.clsIn K C).isSome = true
section
variable {X : Cx}
theorem sx_raise {x : Str} {C : Addr} {e : Expr} {es : List Expr} {ta : TA} {np cpos pos : Pos} (ow : OwnFr X) (hc : X.calm = true) (K0 : ExcC X.K X.mg x C) (ha : PA X.nox (e :: es) ta) (hp : plainE e = true := by rfl) (hps : es.all plainE = true := by rfl) (hg : Gl X x := by rfl)
    (hd : (x == ("__debug__" : Str)) = false := by decide) :
    PSX X (.Raise (some (.Call (.Name x np) (e :: es) [] cpos)) none pos) (fun D E σ H => ta σ H fun vs H1 => vs.length ≤ sizeLine ∧ E (.ref C) σ H1) := by
  intro pins s σ H D E I h
  obtain ⟨tl, N, nm, q, bs, hdct, sn, sub, ab, col, dd, k0, k1, k2, k3, k5, mN, hC, hN, hni, T⟩ := exc_obj I.ok.mod.kin K0.q
  refine wpAny_Raise_call_subT (C := C) (nm := nm) (q := q) (N := N) (bs := bs) (bm := tl) (hdct := hdct) (sn := sn) (sub := sub) (ab := ab) (col := col) (dd := dd) (k0 := k0) (k1 := k1) (k2 := k2) (k3 := k3) (k5 := k5)
    PySem.F.excBase_ValueError (mN := mN) (T.hasType PySem.F.excBase_ValueError.hasBase) (I.ok.hd hc) (starAny_plain (es := e :: es) (by rw [List.all_cons, hp, hps]; rfl) _ _) hni (ld_glob I hg K0.m ⟨rfl, ?_⟩ hd)
  have hA := ha.lift cpos pins s σ H (fun vs H1 => vs.length ≤ sizeLine ∧ E (.ref C) σ H1) (XL X pins E) I h
  rw [starEach_plain hp] at hA ⊢
  refine Calls.evalArgs_plain (wpAny_mono hA (fun us s2 ⟨vs, H2, I2, r, z, q2⟩ => ?_) fun _ _ y => y)
  have kp : ∀ b o, X.base.get? b = some o → s2.heap.get? b = some o := I2.bk
  exact ⟨rfl, by rw [← r.length]; exact z, kp _ _ hC, hN.keeps kp, T.keeps kp, fun h' a hx => XL.of_made ow I2 hx q2⟩
end

/-! ### for, in a body that may raise -/
section
variable {X : Cx} {tg : Expr}
theorem PG.lift {g : TG} {target : Expr} (h : PG X.nox target g) : ∀ (pins : List (Addr × Obj)) (s : Shared) (σ : St) (H : Hp) (v : V) (u : Value) (Q : St → Hp → Prop) (E : Value → Shared → Prop), Inv X pins σ H s → RelV v u → g v σ H Q →
    wpAny (model X.prog X.w) X.A (assign target X.env u) (fun _ s' => ∃ σ' H', Inv X pins σ' H' s' ∧ Q σ' H') E s := fun pins s σ H v u Q E I r hw =>
  wpAny_mono (h pins s σ H v u Q (I.wish _) r hw) (fun _ _ ⟨σ', H', I', q⟩ => ⟨σ', H', I'.unwish, q⟩) fun _ _ z => False.elim z
def tForX (wi : TI) (g : TG) (tb : TSX) : TSX := fun D E σ H => wi σ H fun J H1 => ∃ W : Nat → Nat → St → Hp → Prop, (∃ m, W 0 m σ H1) ∧ ∀ i m σ H, W i m σ H →
  (J.stop i H ∧ D.nx σ H) ∨ (J.go i H ∧ ∃ N : St → Hp → Prop, (∀ σ' H', N σ' H' → ∃ m', m' < m ∧ W (i + 1) m' σ' H') ∧ ∀ x H', J.yld i H x H' → g x σ H' fun σ2 H2 => tb { D with nx := N, ct := N, bk := D.nx } E σ2 H2)
theorem sx_for {iter : Expr} {body : List Stmt} {wi : TI} {g : TG} {tb : TSX} {pos : Pos} (hc : X.calm = true) (hi : PI X.nox tg iter wi) (hg : PG X.nox tg g) (hb : PSsX X body tb)
    (hs : ∀ x, foldedSetIterable iter X.env x = pure x := by intro _; rfl) : PSX X (.For tg iter body [] pos) (tForX wi g tb) := by
  intro pins s σ H D E I h
  have hp : PassesOwn (model X.prog X.w) X.A X.env (XL X pins E) := XL.passes
  refine wpAny_For (wpAny_mono (hi pins s σ H _ (I.wish _) h) (fun v s1 h1 => wpAny_mono h1 (fun itv s2 h2 => ?_) fun _ _ z => False.elim z) fun _ _ z => False.elim z) hs
  obtain ⟨it, fp, tn, J, H2, e, I2', T, st2, f2, W, ⟨m0, w0⟩, turn⟩ := h2
  have I2 : Inv X pins σ H2 s2 := I2'.unwish
  subst e
  have f2' : ∀ b ∈ fp, FpOk X pins H2 b := f2
  have stat : ∀ {H' : Hp}, (∀ b ∈ fp, H' b = none) → ∀ b ∈ fp, FpOk X pins H' b := fun hn b hb => ⟨hn b hb, (f2' b hb).2⟩
  refine codeAny_forLoop_any (fun n s' => ∃ i σ' H', Inv X pins σ' H' s' ∧ tn i s'.heap ∧ (∀ b ∈ fp, H' b = none) ∧ W i n σ' H') ?_ m0 ⟨0, σ, H2, I2, st2, fun b hb => (f2' b hb).1, w0⟩
  rintro n s3 ⟨i, σ3, H3, I3, st3, fr3, w3⟩
  rcases turn i n σ3 H3 w3 with ⟨stop, qn⟩ | ⟨go, N, hN, step⟩
  · refine wpAny_passesOwn hp (thn (T.done X rfl rfl rfl hc i pins s3 σ3 H3 (XL X pins E) I3 (stat fr3) st3 stop) fun r s4 ⟨hr, I4⟩ => ?_)
    subst hr
    exact wpAny_execs_nil ⟨σ3, H3, I4, qn⟩
  · refine wpAny_passesOwn hp (thn (T.item X rfl rfl rfl hc i pins s3 σ3 H3 (XL X pins E) I3 (stat fr3) st3 go) fun r s4 ⟨u, hr, h4⟩ => ?_)
    subst hr
    refine wpAny_passesOwn hp (thn h4 fun _ s5 ⟨x, H5, I5, r5, y5, st5, fr5⟩ => ?_)
    have I5' := I5.pinned (stat fr5) (T.obj _ _ st5)
    refine wpAny_passesOwn hp (thn (hg.lift _ s5 σ3 H5 x u _ (XL X pins E) I5' r5 (step x H5 y5)) fun _ s6 ⟨σ6, H6, I6, q6⟩ => ?_)
    refine wpAny_passesOwn hp (wpAny_mono (hb _ s6 σ6 H6 _ E I6 q6) (fun f s7 q7 => ?_) fun _ _ z => XL.weak z fun _ _ _ q => q)
    have again : ∀ {σ7 : St} {H7 : Hp}, Inv X (pins ++ pinsAt fp s5.heap) σ7 H7 s7 → N σ7 H7 → ∃ m, m < n ∧ ∃ i σ' H', Inv X pins σ' H' s7 ∧ tn i s7.heap ∧ (∀ b ∈ fp, H' b = none) ∧ W i m σ' H' := fun {σ7 H7} I7 n7 => by
      obtain ⟨m', hm, w7⟩ := hN σ7 H7 n7
      refine ⟨m', hm, i + 1, σ7, H7, I7.unpinned, T.keep _ _ _ st5 fun b hb o e => (I7.pin (b, o) (List.mem_append_right _ (List.mem_append_right _ (mem_pinsAt hb e)))).1, fun b hb => ?_, w7⟩
      obtain ⟨o, e, d⟩ := T.obj _ _ st5 b hb
      exact (I7.pin (b, o) (List.mem_append_right _ (List.mem_append_right _ (mem_pinsAt hb e)))).2.1
    cases f with
    | next => obtain ⟨σ7, H7, I7, n7⟩ := q7; exact again I7 n7
    | cont => obtain ⟨σ7, H7, I7, n7⟩ := q7; exact again I7 n7
    | brk => obtain ⟨σ7, H7, I7, q7⟩ := q7; exact ⟨σ7, H7, I7.unpinned, q7⟩
    | ret v => obtain ⟨x7, σ7, H7, I7, r7, q7⟩ := q7; exact ⟨x7, σ7, H7, I7.unpinned, r7, q7⟩
/-- while, in a body that may raise -/
def tWhileX (c : TT) (tb : TSX) : TSX := fun D E σ H => ∃ W : Nat → St → Hp → Prop, (∃ m, W m σ H) ∧ ∀ m σ H, W m σ H →
  c σ H fun b H1 => if b = true then ∃ N : St → Hp → Prop, (∀ σ' H', N σ' H' → ∃ m', m' < m ∧ W m' σ' H') ∧ tb { D with nx := N, ct := N, bk := D.nx } E σ H1 else D.nx σ H1
end
end L2


set_option Elab.async false
set_option linter.all false
set_option maxRecDepth 100000
set_option maxHeartbeats 1000000
namespace L2
open PySem PySem.Spec PyProof.Rows
/-! ### a[lo:hi:st] of a list -/
def idxOf (n : Nat) (lo hi st : Option Int) : List Nat := sliceRange (sliceBounds lo hi st n).1 (sliceBounds lo hi st n).2.1 (sliceBounds lo hi st n).2.2
def cut3 {α : Type} (xs : List α) (lo hi st : Option Int) : List α := (idxOf xs.length lo hi st).filterMap (xs[·]?)
section
variable {X : Cx} {e : Expr} {te : TE} {lo hi : Option Expr} {st : Expr} {tl th ts : TO} {pos p2 : Pos}
def tSl3 (K : PySem.W.Frag) (te : TE) (tl th ts : TO) : TE := fun σ H Q => te σ H fun x H1 => tl σ H1 fun l H2 => th σ H2 fun u H3 => ts σ H3 fun c H4 => ∃ a xs, x = .ref a ∧ SqL K H4 a xs ∧ c ≠ some 0 ∧ ∀ p, H4 p = none → (cut3 xs l u c).length ≤ xs.length → Q (.ref p) (upd H4 p (.lst (cut3 xs l u c)))
end
/-! ### a call of a def that may raise, where it does not -/
theorem passN {X : Cx} {P : Program} {w : World} : Passes (CXr P w) X E0 := fun _ _ _ _ _ _ _ h => by
  obtain ⟨_, _, _, _, _, _, _, _, _, _, _, _, _, _, z⟩ := h
  exact z.elim
theorem pe_defN {X : Cx} {x : Str} {st : Stmt} {ps : List Str} {f : Addr} {fd : FuncData} {k : Nat} {sp : Sp} {p pos : Pos} {e : Expr} {es : List Expr} {t : TA} (D : Def X.K X.mg x st ps f fd) (G : FnOk X.prog X.w X.K X.mg X.base (CXr X.prog X.w) k f fd ps sp) (hr : Room k X.A) (ha : PA X (e :: es) t)
    (hp : plainE e = true := by rfl) (hps : es.all plainE = true := by rfl) (hg : Gl X x := by rfl) (hdb : (x == ("__debug__" : Str)) = false := by decide) :
    PE X (.Call (.Name x p) (e :: es) [] pos) (tCall sp [] E0 t) := pe_call G hr hg D.m D.F.kp D.b .nil passN ha hdb (starEach_plain hp _ _) (starAny_plain hps _ _)
/-! ### tests that may raise -/
def PTX (X : Cx) (e : Expr) (t : St → Hp → (Bool → Hp → Prop) → (Value → Hp → Prop) → Prop) : Prop :=
  ∀ (pins : List (Addr × Obj)) (s : Shared) (σ : St) (H : Hp) (Q : Bool → Hp → Prop) (E : Value → Hp → Prop), Inv X pins σ H s → t σ H Q E → wpAny (model X.prog X.w) X.A (isTrue e X.env (eval e X.env)) (TP X pins σ Q) (XL X pins fun c σ' H' => σ' = σ ∧ E c H') s
section
variable {X : Cx} {e : Expr} {pos : Pos}
/-- e is not None -/
def tNotNX (te : St → Hp → VK → (Value → Hp → Prop) → Prop) : St → Hp → (Bool → Hp → Prop) → (Value → Hp → Prop) → Prop := fun σ H Q E => te σ H (fun v H1 => Q (!decide (v = .non)) H1) E
def tIfXX (c : St → Hp → (Bool → Hp → Prop) → (Value → Hp → Prop) → Prop) (t u : TSX) : TSX := fun D E σ H => c σ H (fun b H1 => if b = true then t D E σ H1 else u D E σ H1) fun c H1 => E c σ H1
end
/-- isinstance(e, C) within the except suite -/
theorem call_isinstH {X : Cx} {ev : Value} : CallR (X.hand ev) (.builtin "isinstance") (fun xs H Q => ∃ a C y cv b, xs = [.ref a, y] ∧ H a = some (excHO a (.ref C)) ∧ RelV y cv ∧ PySem.W.ExcK X.K C ∧ (PySem.W.clsIn X.K C).isSome = true ∧ PySem.W.kitOne X.K (.ref C) cv = some b ∧ Q (.bl b) H) := call_isinstE (X := X.hand ev)
/-! ### the walk through readings -/
section
variable {σ : St} {H : Hp} {Q : VK} {D : Ends} {E : XE} {K : PySem.W.Frag}
theorem rd_seqX {t u : TSX} (q : t { D with nx := u D E } E σ H) : tSeqX t u D E σ H := q
theorem rd_lift {t : TS} (q : t D σ H) : tLift t D E σ H := q
theorem rd_nextX (q : D.nx σ H) : tNextX D E σ H := q
theorem rd_ifX {c : TT} {t u : TSX} (q : c σ H fun b H1 => if b = true then t D E σ H1 else u D E σ H1) : tIfX c t u D E σ H := q
theorem rd_callX {sp : Sp} {ta : TA} {E : Value → Hp → Prop} (q : ta σ H fun vs H1 => sp vs H1 Q fun c _ H' => E c H') : tCallX sp ta σ H Q E := q
theorem rd_try {D0 : Addr} {i : Nat} {tb : TSX} {th : TS} (q : tb D (fun c σ' H' => PySem.W.exmOne K c (.ref D0) = some true ∧ ∀ a, H' a = none →
    th { nx := fun σ2 H2 => D.nx (σ2.set i none) H2, rt := D.rt, bk := fun σ2 H2 => D.bk (σ2.set i none) H2, ct := fun σ2 H2 => D.ct (σ2.set i none) H2 } (σ'.set i (some (.ref a))) (upd H' a (excHO a c))) σ H) : tTry K D0 i tb th D E σ H := q
end
end L2


set_option linter.all false
set_option maxRecDepth 100000
/-! A walk through readings: one rule for each head; `rd` goes on until something must be said. -/
namespace L2
open PySem PySem.Spec
section
variable {σ : St} {H : Hp} {Q : VK} {D : Ends} {K : PySem.W.Frag}
theorem rd_var {i : Nat} {v : V} (h : σ[i]? = some (some v)) (q : Q v H) : tVar i σ H Q := ⟨v, h, q⟩
theorem rd_c {v : V} (q : Q v H) : tC v σ H Q := q
theorem rd_op {r : R2} {ta tb : TE} (q : ta σ H fun x H1 => tb σ H1 fun y H2 => r x y H2 Q) : tOp r ta tb σ H Q := q
theorem rd_un {r : V → Hp → VK → Prop} {ta : TE} (q : ta σ H fun x H1 => r x H1 Q) : tUn r ta σ H Q := q
theorem rd_i0 {g : Int → Int → V} {i j : Int} (q : Q (g i j) H) : rI0 g (.int i) (.int j) H Q := ⟨i, j, rfl, rfl, q⟩
theorem rd_i {C : Int → Int → Prop} {g : Int → Int → V} {i j : Int} (c : C i j) (q : Q (g i j) H) : rI C g (.int i) (.int j) H Q := ⟨i, j, rfl, rfl, c, q⟩
theorem rd_u {g : Int → V} {i : Int} (q : Q (g i) H) : rU g (.int i) H Q := ⟨i, rfl, q⟩
theorem rd_eqI {i j : Int} (q : Q (.bl (decide (i = j))) H) : rEq (.int i) (.int j) H Q := ⟨rfl, by rw [show decide (V.int i = V.int j) = decide (i = j) by rw [dec_int]; by_cases h : i = j <;> simp [h]]; exact q⟩
theorem rd_neI {i j : Int} (q : Q (.bl (!decide (i = j))) H) : rNe (.int i) (.int j) H Q := ⟨rfl, by rw [show decide (V.int i = V.int j) = decide (i = j) by rw [dec_int]; by_cases h : i = j <;> simp [h]]; exact q⟩
theorem rd_nn {P : Prop} (q : P) : V.non = V.non ∧ P := ⟨rfl, q⟩
theorem rd_test {t : TE} {Q : Bool → Hp → Prop} (q : t σ H fun x H' => ∃ k, x = .bl k ∧ Q k H') : tTest t σ H Q := q
theorem rd_tB {t : TE} {Q : Bool → Hp → Prop} (q : t σ H fun x H' => ∃ k, x = .bl k ∧ Q k H') : tB t σ H Q := q
theorem rd_ex {k : Bool} {P : Bool → Prop} (q : P k) : ∃ k', V.bl k = .bl k' ∧ P k' := ⟨k, rfl, q⟩
theorem rd_next (q : D.nx σ H) : tNext D σ H := q
theorem rd_seq {t u : TS} (q : t { D with nx := u D } σ H) : tSeq t u D σ H := q
theorem rd_drop {te : TE} (q : te σ H fun _ H1 => D.nx σ H1) : tDrop te D σ H := q
theorem rd_ret {te : TE} (q : te σ H D.rt) : tRet te D σ H := q
theorem rd_if {c : TT} {t u : TS} (q : c σ H fun b H1 => if b = true then t D σ H1 else u D σ H1) : tIfS c t u D σ H := q
theorem rd_asg {te : TE} {g : TG} (q : te σ H fun x H1 => g x σ H1 D.nx) : tAsg te g D σ H := q
theorem rd_gname {i : Nat} {v : V} {Q : St → Hp → Prop} (q : Q (σ.set i (some v)) H) : gName i v σ H Q := q
theorem rd_gsub {to ti : TE} {t : TSet} {v : V} {Q : St → Hp → Prop} (q : to σ H fun o H1 => ti σ H1 fun i H2 => t o i v H2 fun H3 => Q σ H3) : gSub to ti t v σ H Q := q
theorem rd_gtup {n : Nat} {t : TGs} {a : Addr} {xs : List V} {Q : St → Hp → Prop} (h : SqT K H a xs) (hn : xs.length = n) (q : t xs σ H Q) : gTup K n t (.ref a) σ H Q := ⟨a, xs, rfl, h, hn, q⟩
theorem rd_gcons {t : TG} {u : TGs} {v : V} {r : List V} {Q : St → Hp → Prop} (q : t v σ H fun σ' H' => u r σ' H' Q) : gCons t u (v :: r) σ H Q := ⟨v, r, rfl, q⟩
theorem rd_gnil {Q : St → Hp → Prop} (q : Q σ H) : gNil [] σ H Q := ⟨rfl, q⟩
theorem rd_nil {Q : List V → Hp → Prop} (q : Q [] H) : tNil σ H Q := q
theorem rd_cons {ta : TE} {tr : TA} {Q : List V → Hp → Prop} (q : ta σ H fun x H1 => tr σ H1 fun xs H2 => Q (x :: xs) H2) : tCons ta tr σ H Q := q
theorem rd_call {sp : Sp} {E : XK} {t : TA} (q : t σ H fun vs H1 => sp vs H1 Q E) : tCall sp [] E t σ H Q := by
  unfold tCall
  have e : ∀ vs : List V, vs ++ [] = vs := fun vs => List.append_nil vs
  simp only [e]
  exact q
theorem rd_cb {r : List V → Hp → VK → Prop} {t : TA} (q : t σ H fun vs H1 => r vs H1 Q) : tCB r t σ H Q := q
theorem rd_andV {ta tb : TE} (q : ta σ H fun x H1 => ∃ c, x = .bl c ∧ if c = true then tb σ H1 Q else Q (.bl false) H1) : tAndV ta tb σ H Q := q
theorem rd_orV {ta tb : TE} (q : ta σ H fun x H1 => ∃ c, x = .bl c ∧ if c = true then Q (.bl true) H1 else tb σ H1 Q) : tOrV ta tb σ H Q := q
theorem rd_notV {ta : TE} (q : ta σ H fun x H1 => ∃ c, x = .bl c ∧ Q (.bl (!c)) H1) : tNotV ta σ H Q := q
theorem rd_and {t u : TT} {Q : Bool → Hp → Prop} (q : t σ H fun c H1 => if c = true then u σ H1 Q else Q false H1) : tAnd t u σ H Q := q
theorem rd_or {t u : TT} {Q : Bool → Hp → Prop} (q : t σ H fun c H1 => if c = true then Q true H1 else u σ H1 Q) : tOr t u σ H Q := q
theorem rd_not {t : TT} {Q : Bool → Hp → Prop} (q : t σ H fun c H1 => Q (!c) H1) : tNot t σ H Q := q
theorem rd_lst {t : TA} (q : t σ H fun xs H1 => xs.length ≤ sizeLine ∧ ∀ p, H1 p = none → Q (.ref p) (upd H1 p (.lst xs))) : tLst t σ H Q := q
theorem rd_tup {t : TA} (q : t σ H fun xs H1 => xs.length ≤ sizeLine ∧ ∀ p, H1 p = none → Q (.ref p) (upd H1 p (.tup xs))) : tTup t σ H Q := q
theorem rd_ixL {p : Addr} {xs : List V} {i : Int} {v : V} (h : SqL K H p xs) (a : atI xs i = some v) (q : Q v H) : rIxL K (.ref p) (.int i) H Q := ⟨p, xs, i, v, rfl, rfl, h, a, q⟩
theorem rd_setL {p : Addr} {xs : List V} {k : Int} {j : Nat} {v : V} {Q : Hp → Prop} (h : H p = some (.lst xs)) (a : ixN xs.length k = some j) (q : Q (upd H p (.lst (xs.set j v)))) : rSetL (.ref p) (.int k) v H Q := ⟨p, xs, k, j, rfl, rfl, h, a, q⟩
theorem rd_chain {r r' : R2} {ta tb tc : TE} (q : ta σ H fun x H1 => tb σ H1 fun y H2 => r x y H2 fun z H3 => ∃ k, z = .bl k ∧ (if k = true then tc σ H3 fun w' H4 => r' y w' H4 Q else Q (.bl false) H3)) : tChain r r' ta tb tc σ H Q := q
theorem rd_sl {r : V → Option Int → Option Int → Hp → VK → Prop} {te : TE} {tl th : TO} (q : te σ H fun x H1 => tl σ H1 fun l H2 => th σ H2 fun u H3 => r x l u H3 Q) : tSl r te tl th σ H Q := q
theorem rd_part {t : TE} {Q : Option Int → Hp → Prop} (q : t σ H fun x H1 => ∃ i, x = .int i ∧ Q (some i) H1) : tPart t σ H Q := q
theorem rd_exI {k : Int} {P : Int → Prop} (q : P k) : ∃ k', V.int k = .int k' ∧ P k' := ⟨k, rfl, q⟩
theorem rd_slL {a : Addr} {xs : List V} {lo hi : Option Int} (h : SqL K H a xs) (q : ∀ p, H p = none → Q (.ref p) (upd H p (.lst (cutV xs lo hi)))) : rSlL K (.ref a) lo hi H Q := ⟨a, xs, rfl, h, q⟩
theorem rd_iList {tl : TE} {R : It → Hp → Prop} (q : tl σ H fun x H1 => ∃ a, x = .ref a ∧ (∃ xs, SqL K H1 a xs) ∧ R (Itl K a) H1) : iList K tl σ H R := q
theorem rd_for {wi : TI} {g : TG} {tb : TS} (q : wi σ H fun J H1 => ∃ W : Nat → Nat → St → Hp → Prop, (∃ m, W 0 m σ H1) ∧ ∀ i m σ H, W i m σ H →
  (J.stop i H ∧ D.nx σ H) ∨ (J.go i H ∧ ∃ N : St → Hp → Prop, (∀ σ' H', N σ' H' → ∃ m', m' < m ∧ W (i + 1) m' σ' H') ∧ ∀ x H', J.yld i H x H' → g x σ H' fun σ2 H2 => tb { D with nx := N, ct := N, bk := D.nx } σ2 H2)) : tFor wi g tb D σ H := q
theorem rd_tyL {l : Addr} {xs : List V} {T : String} (hT : T = "list") (h : SqL K H l xs) : tyV K T (.ref l) H := .inl ⟨hT, _, h⟩
theorem rd_bm {T : String} {r : V → List V → Hp → VK → Prop} {to : TE} {t : TA} (q : to σ H fun x H1 => tyV K T x H1 ∧ t σ H1 fun xs H2 => r x xs H2 Q) : tBM K T r to t σ H Q := q
theorem rd_bm0 {T : String} {r : V → List V → Hp → VK → Prop} {to : TE} (q : to σ H fun x H1 => tyV K T x H1 ∧ r x [] H1 Q) : tBM0 K T r to σ H Q := q
theorem rd_rep {l : Addr} {k : Int} {xs : List V} (h : H l = some (.lst xs)) (h1 : -(2 ^ 63) ≤ k) (h2 : k < 2 ^ 63) (h3 : xs.length * k.toNat ≤ sizeLine) (q : ∀ p, H p = none → Q (.ref p) (upd H p (.lst (List.replicate k.toNat xs).flatten))) : rRep (.ref l) (.int k) H Q := ⟨l, k, xs, rfl, rfl, h, h1, h2, h3, q⟩
theorem rd_cat {l b : Addr} {xs zs : List V} (h : H l = some (.lst xs)) (h1 : H b = some (.lst zs)) (h3 : xs.length + zs.length ≤ sizeLine) (q : ∀ p, H p = none → Q (.ref p) (upd H p (.lst (xs ++ zs)))) : rCat (.ref l) (.ref b) H Q := ⟨l, b, xs, zs, rfl, rfl, h, h1, h3, q⟩
theorem rd_join {t : TS} (M : St → Hp → Prop) (h : t { D with nx := M } σ H) (q : ∀ σ' H', M σ' H' → D.nx σ' H') : tJ t D σ H := ⟨M, h, q⟩
theorem rd_in {x : V} {p : Addr} {xs : List V} (h : SqL K H p xs) (fx : flatV x = true) (fs : xs.all flatV = true) (q : Q (.bl (inV x xs)) H) : rIn K false x (.ref p) H Q := ⟨p, xs, rfl, .inl h, fx, fs, q⟩
theorem rd_comp {own : Nat} {fr : List Nat} {wi : TI} {g : TG} {tt : TT} {te : TE} (q : wi σ H fun J H1 => ∀ l, H1 l = none →
  ∃ W : Nat → Nat → List V → St → Hp → Prop, (∃ m, W 0 m [] (blkσ own fr σ) (upd H1 l (.lst []))) ∧ ∀ i m ys σ H, W i m ys σ H →
    (J.stop i H ∧ Q (.ref l) H) ∨ (J.go i H ∧ ∀ x H', J.yld i H x H' → g x σ H' fun σ2 H2 => tt σ2 H2 fun b H3 =>
      if b = true then te σ2 H3 fun v H4 => H4 l = some (.lst ys) ∧ ys.length < sizeLine ∧ ∃ m', m' < m ∧ W (i + 1) m' (ys ++ [v]) σ2 (upd H4 l (.lst (ys ++ [v])))
      else ∃ m', m' < m ∧ W (i + 1) m' ys σ2 H3)) : tComp own fr wi g tt te σ H Q := q
theorem rd_yes {Q : Bool → Hp → Prop} (q : Q true H) : tYes σ H Q := q
theorem rd_iEnum {ta : TA} {R : It → Hp → Prop} (q : ta σ H fun vs H1 => ∃ a xs, vs = [.ref a] ∧ H1 a = some (.lst xs) ∧ R (Ite K a) H1) : iEnum K ta σ H R := q
theorem rd_maxD {te td : TE} (q : te σ H fun x H1 => td σ H1 fun y H2 => ∃ (a : Addr) (ns : List Int) (d : Int), x = .ref a ∧ y = .int d ∧ SqL K H2 a (ns.map V.int) ∧ ∀ M, ((ns = [] ∧ M = d) ∨ (M ∈ ns ∧ ∀ n ∈ ns, n ≤ M)) → Q (.int M) H2) : tMaxD te td K σ H Q := q
theorem rd_din {ty td : TE} (q : ty σ H fun y H1 => td σ H1 fun x H2 => ∃ a o, x = .ref a ∧ DGet H2 a y o ∧ Q (.bl o.isSome) H2) : tDIn ty td σ H Q := q
theorem rd_dput {td ty tv : TE} (q : tv σ H fun v H1 => td σ H1 fun x H2 => ty σ H2 fun y H3 => ∃ a H4, x = .ref a ∧ DPut H3 a y v H4 ∧ D.nx σ H4) : sDPut td ty tv D σ H := q
end
end L2

local macro_rules | `(tactic| tm_at "rd1") => `(tactic| first
  | ((with_reducible refine L2.rd_seq ?_))
  | ((with_reducible refine L2.rd_var (v := ?v) ?h ?q); (case h => rfl))
  | ((with_reducible refine L2.rd_c ?_))
  | ((with_reducible refine L2.rd_asg ?_))
  | ((with_reducible refine L2.rd_gname ?_))
  | ((with_reducible refine L2.rd_op ?_))
  | ((with_reducible refine L2.rd_i0 ?_))
  | ((with_reducible refine L2.rd_cons ?_))
  | ((with_reducible refine L2.rd_nil ?_))
  | ((with_reducible refine L2.rd_call ?_))
  | ((with_reducible refine L2.rd_cb ?_))
  | ((with_reducible refine L2.rd_if ?_))
  | ((with_reducible refine L2.rd_test ?_))
  | ((with_reducible refine L2.rd_tB ?_))
  | ((with_reducible refine L2.rd_ex ?_))
  | ((with_reducible refine L2.rd_eqI ?_))
  | ((with_reducible refine L2.rd_neI ?_))
  | ((with_reducible refine L2.rd_eqB ?_))
  | ((with_reducible refine L2.rd_neB ?_))
  | ((with_reducible refine L2.rd_un ?_))
  | ((with_reducible refine L2.rd_u ?_))
  | ((with_reducible refine L2.rd_ret ?_))
  | ((with_reducible refine L2.rd_retN ?_))
  | ((with_reducible refine L2.rd_drop ?_))
  | ((with_reducible refine L2.rd_next ?_))
  | ((with_reducible refine L2.rd_gsub ?_))
  | ((with_reducible refine L2.rd_gcons ?_))
  | ((with_reducible refine L2.rd_gnil ?_))
  | ((with_reducible refine L2.rd_andV ?_))
  | ((with_reducible refine L2.rd_orV ?_))
  | ((with_reducible refine L2.rd_notV ?_))
  | ((with_reducible refine L2.rd_and ?_))
  | ((with_reducible refine L2.rd_or ?_))
  | ((with_reducible refine L2.rd_not ?_))
  | ((with_reducible refine L2.rd_tIf ?_))
  | ((with_reducible refine L2.rd_lst ?_))
  | ((with_reducible refine L2.rd_tup ?_))
  | ((with_reducible refine L2.rd_chain ?_))
  | ((with_reducible refine L2.rd_sl ?_))
  | ((with_reducible refine L2.rd_nopart ?_))
  | ((with_reducible refine L2.rd_part ?_))
  | ((with_reducible refine L2.rd_exI ?_))
  | ((with_reducible refine L2.rd_iList ?_))
  | ((with_reducible refine L2.rd_iRng1 ?_))
  | ((with_reducible refine L2.rd_for ?_))
  | ((with_reducible refine L2.rd_bm ?_))
  | ((with_reducible refine L2.rd_bm0 ?_))
  | ((with_reducible refine L2.rd_ip ?_))
  | ((with_reducible refine L2.rd_aug (x := ?v) ?h ?q); (case h => rfl))
  | ((with_reducible refine L2.rd_nn ?_))
  | ((with_reducible refine L2.rd_iTup ?_))
  | ((with_reducible refine L2.rd_dni ?_))
  | ((with_reducible refine L2.rd_din ?_))
  | ((with_reducible refine L2.rd_dput ?_))
  | ((with_reducible refine L2.rd_dget ?_))
  | ((with_reducible refine L2.rd_comp ?_))
  | ((with_reducible refine L2.rd_yes ?_))
  | ((with_reducible refine L2.rd_iEnum ?_))
  | ((with_reducible refine L2.rd_iZip ?_))
  | ((with_reducible refine L2.rd_maxD ?_))
  | ((with_reducible refine L2.rd_i ?_ ?_); (· (first | assumption | exact ⟨by decide, by decide⟩ | exact ⟨by decide, by decide, by decide⟩ | exact Or.inl ⟨by decide, by decide⟩ | exact Or.inr ⟨by decide, by decide⟩ | (show (0 : Int) < _; first | decide | omega)))))
local macro_rules | `(tactic| tm_at "rd") => `(tactic| repeat tm_at "rd1")

/-! The mathematics of seats on a ring: no program in it. -/
set_option linter.all false
namespace Ring
/-- how far one goes on from a to p on a ring of n -/
def dist (n a p : Nat) : Nat := if a ≤ p then p - a else p + n - a
def nxt (n p : Nat) : Nat := if p + 1 < n then p + 1 else 0
def prv (n p : Nat) : Nat := if p = 0 then n - 1 else p - 1
def back (n p j : Nat) : Nat := if j ≤ p then p - j else p + n - j
abbrev Seats := List (Option Int)
/-- who sits on seat p -/
def sat (s : Seats) (p : Nat) : Option Int := s.getD p none
/-- x goes ahead of y at p; h: the homes -/
def Ahead (n : Nat) (h : Int → Nat) (x y : Int) (p : Nat) : Prop :=
  dist n (h y) p < dist n (h x) p ∨ (dist n (h x) p = dist n (h y) p ∧ x < y)
instance (n : Nat) (h : Int → Nat) (x y : Int) (p : Nat) : Decidable (Ahead n h x y p) := by unfold Ahead; infer_instance

section
variable {n : Nat} {h : Int → Nat} {x y z : Int} {p q e j i : Nat} {a b : Nat}
theorem dist_lt (ha : a < n) (hp : p < n) : dist n a p < n := by unfold dist; split <;> omega
theorem dist_self : dist n a a = 0 := by unfold dist; rw [if_pos (Nat.le_refl _)]; omega
theorem dist_zero (ha : a < n) (hp : p < n) (e : dist n a p = 0) : a = p := by unfold dist at e; split at e <;> omega
theorem dist_inj (ha : a < n) (hp : p < n) (hq : q < n) (e : dist n a p = dist n a q) : p = q := by
  unfold dist at e; split at e <;> split at e <;> omega
theorem nxt_lt (hp : p < n) : nxt n p < n := by unfold nxt; split <;> omega
theorem prv_lt (hp : p < n) : prv n p < n := by unfold prv; split <;> omega
theorem prv_nxt (hp : p < n) : prv n (nxt n p) = p := by unfold prv nxt; split <;> split <;> omega
/-- on from p, not yet at the home -/
theorem dist_nxt (ha : a < n) (hp : p < n) (hne : nxt n p ≠ a) : dist n a (nxt n p) = dist n a p + 1 := by
  unfold dist nxt at *; split at hne <;> (repeat' split) <;> omega
theorem dist_nxt' (ha : a < n) (hp : p < n) (hl : dist n a p + 1 < n) : dist n a (nxt n p) = dist n a p + 1 := by
  apply dist_nxt ha hp
  intro e
  unfold dist at hl; unfold nxt at e
  split at e <;> split at hl <;> omega
theorem dist_prv (ha : a < n) (hp : p < n) (hne : p ≠ a) : dist n a p = dist n a (prv n p) + 1 := by
  unfold dist prv; split <;> split <;> split <;> omega
theorem dist_to_nxt (hp : p < n) (he : e < n) (hne : p ≠ e) : dist n p e = dist n (nxt n p) e + 1 := by
  unfold dist nxt; split <;> split <;> split <;> omega
theorem back_one (hp : p < n) : back n p 1 = prv n p := by unfold back prv; split <;> split <;> omega
theorem back_back (hp : p < n) (hi : i + j < n) : back n (back n p j) i = back n p (j + i) := by
  unfold back; split <;> split <;> split <;> omega
theorem back_dist (ha : a < n) (hp : p < n) : back n p (dist n a p) = a := by
  unfold back dist; split <;> split <;> omega
theorem dist_back (ha : a < n) (hp : p < n) (hj : j ≤ dist n a p) : dist n a (back n p j) = dist n a p - j := by
  unfold back dist at *; split at hj <;> split <;> split <;> omega
/-- a seat on the way from a to p: q lies back from p -/
theorem back_of (ha : a < n) (hp : p < n) (hq : q < n) (hl : dist n a q ≤ dist n a p) : back n p (dist n a p - dist n a q) = q := by
  unfold back dist at *; split at hl <;> split at hl <;> (repeat' split) <;> omega
theorem ahead_irrefl : ¬ Ahead n h x x p := by unfold Ahead; omega
theorem ahead_asymm (u : Ahead n h x y p) : ¬ Ahead n h y x p := by unfold Ahead at *; omega
theorem ahead_trans (u : Ahead n h x y p) (v : Ahead n h y z p) : Ahead n h x z p := by unfold Ahead at *; omega
theorem ahead_total (d : x ≠ y) : Ahead n h x y p ∨ Ahead n h y x p := by unfold Ahead; omega
theorem ahead_ne (u : Ahead n h x y p) : x ≠ y := by rintro rfl; exact ahead_irrefl u
theorem ahead_le (u : Ahead n h x y p) : dist n (h y) p ≤ dist n (h x) p := by unfold Ahead at u; omega
variable (hh : ∀ g, h g < n)
include hh
/-- who goes ahead at p goes ahead on every seat that both passed -/
theorem ahead_back (hp : p < n) (u : Ahead n h x y p) (hj : j ≤ dist n (h y) p) : Ahead n h x y (back n p j) := by
  have := ahead_le u
  unfold Ahead at *
  rw [dist_back (hh x) hp (by omega), dist_back (hh y) hp hj]
  omega
end

/-! ### settled: by the seat before alone, and by all seats on the way -/
def Loc (n : Nat) (h : Int → Nat) (f : Nat → Option Int) : Prop :=
  ∀ p g, p < n → f p = some g → h g ≠ p → ∃ g', f (prv n p) = some g' ∧ Ahead n h g' g (prv n p)
def Glo (n : Nat) (h : Int → Nat) (f : Nat → Option Int) : Prop :=
  ∀ p g, p < n → f p = some g → ∀ j, 1 ≤ j → j ≤ dist n (h g) p → ∃ g', f (back n p j) = some g' ∧ Ahead n h g' g (back n p j)
theorem glo_of_loc {n : Nat} {h : Int → Nat} {f : Nat → Option Int} (hh : ∀ g, h g < n) (L : Loc n h f) : Glo n h f := by
  have all : ∀ j p g, p < n → f p = some g → j + 1 ≤ dist n (h g) p → ∃ g', f (back n p (j + 1)) = some g' ∧ Ahead n h g' g (back n p (j + 1)) := by
    intro j
    induction j with
    | zero =>
      intro p g hp hg hd
      rw [show (0 + 1) = 1 from rfl, back_one hp]
      refine L p g hp hg fun e => ?_
      rw [e, dist_self] at hd; omega
    | succ j ih =>
      intro p g hp hg hd
      have hne : h g ≠ p := fun e => by rw [e, dist_self] at hd; omega
      obtain ⟨g1, h1, a1⟩ := L p g hp hg hne
      have hq := prv_lt hp
      have d1 := dist_prv (hh g) hp (Ne.symm hne)
      have le1 := ahead_le a1
      obtain ⟨g2, h2, a2⟩ := ih (prv n p) g1 hq h1 (by omega)
      have lt1 := dist_lt (hh g1) hq
      have eb : back n (prv n p) (j + 1) = back n p (j + 1 + 1) := by
        rw [← back_one hp, back_back hp (by have := dist_lt (hh g) hp; omega)]
        congr 1; omega
      rw [eb] at h2 a2
      refine ⟨g2, h2, ahead_trans a2 ?_⟩
      rw [← eb]
      exact ahead_back hh hq a1 (by omega)
  intro p g hp hg j h1 hj
  obtain ⟨i, rfl⟩ : ∃ i, j = i + 1 := ⟨j - 1, by omega⟩
  exact all i p g hp hg hj
/-! ### one settled seating of the same guests -/
section
variable {n : Nat} {h : Int → Nat} {A B : Nat → Option Int}
theorem chain (hh : ∀ g, h g < n) (GA : Glo n h A) (GB : Glo n h B) (sub : ∀ q g, q < n → B q = some g → ∃ p, p < n ∧ A p = some g) :
    ∀ (i p : Nat) (a b : Int), p < n → A p = some a → B p = some b → Ahead n h b a p → 1 ≤ i → i < n → B (back n p i) ≠ none := by
  intro i
  induction i using Nat.strongRecOn with
  | ind i ih =>
    intro p a b hp ha hb u h1 hi
    obtain ⟨q, hq, hqb⟩ := sub p b hp hb
    have hne : q ≠ p := by
      rintro rfl
      rw [ha] at hqb
      exact ahead_ne u (Option.some.inj hqb).symm
    have hd : dist n (h b) q < dist n (h b) p := by
      rcases Nat.lt_trichotomy (dist n (h b) q) (dist n (h b) p) with l | l | l
      · exact l
      · exact absurd (dist_inj (hh b) hq hp l) hne
      · obtain ⟨g', hg', u'⟩ := GA q b hq hqb (dist n (h b) q - dist n (h b) p) (by omega) (by omega)
        rw [back_of (hh b) hq hp (by omega)] at hg' u'
        rw [ha] at hg'
        cases hg'
        exact absurd u' (ahead_asymm u)
    by_cases hij : i ≤ dist n (h b) p - dist n (h b) q
    · obtain ⟨g', hg', _⟩ := GB p b hp hb i h1 (by omega)
      rw [hg']; simp
    · obtain ⟨b', hb', u'⟩ := GB p b hp hb (dist n (h b) p - dist n (h b) q) (by omega) (by omega)
      have eq := back_of (hh b) hp hq (by omega)
      rw [eq] at hb' u'
      have r := ih (i - (dist n (h b) p - dist n (h b) q)) (by omega) q b b' hq hqb hb' u' (by omega) (by omega)
      generalize hd' : dist n (h b) p - dist n (h b) q = d at *
      subst eq
      rw [back_back hp (by omega), show d + (i - d) = i by omega] at r
      exact r
theorem no_chain (hh : ∀ g, h g < n) (GA : Glo n h A) (GB : Glo n h B) (sub : ∀ q g, q < n → B q = some g → ∃ p, p < n ∧ A p = some g)
    (em : ∃ e, e < n ∧ B e = none) {p : Nat} {a b : Int} (hp : p < n) (ha : A p = some a) (hb : B p = some b) : ¬ Ahead n h b a p := by
  intro u
  obtain ⟨e, he, hn⟩ := em
  have hne : p ≠ e := by rintro rfl; rw [hb] at hn; cases hn
  have := chain hh GA GB sub (dist n e p) p a b hp ha hb u
    (by rcases Nat.eq_zero_or_pos (dist n e p) with z | z
        · exact absurd (dist_zero he hp z).symm hne
        · exact z) (dist_lt he hp)
  rw [back_dist he hp] at this
  exact this hn
theorem half (hh : ∀ g, h g < n) (GA : Glo n h A) (GB : Glo n h B) (sab : ∀ q g, q < n → A q = some g → ∃ p, p < n ∧ B p = some g) (sba : ∀ q g, q < n → B q = some g → ∃ p, p < n ∧ A p = some g)
    (ea : ∃ e, e < n ∧ A e = none) (eb : ∃ e, e < n ∧ B e = none) {p : Nat} {g : Int} (hp : p < n) (hg : A p = some g) : B p = some g := by
  obtain ⟨q, hq, hqg⟩ := sab p g hp hg
  rcases Nat.lt_trichotomy (dist n (h g) p) (dist n (h g) q) with l | l | l
  · obtain ⟨b, hb, u⟩ := GB q g hq hqg (dist n (h g) q - dist n (h g) p) (by omega) (by omega)
    rw [back_of (hh g) hq hp (by omega)] at hb u
    exact absurd u (no_chain hh GA GB sba eb hp hg hb)
  · have := dist_inj (hh g) hp hq l
    rw [this]; exact hqg
  · obtain ⟨a, ha, u⟩ := GA p g hp hg (dist n (h g) p - dist n (h g) q) (by omega) (by omega)
    rw [back_of (hh g) hp hq (by omega)] at ha u
    exact absurd u (no_chain hh GB GA sab ea hq hqg ha)
/-- THE one settled seating -/
theorem unique (hh : ∀ g, h g < n) (LA : Loc n h A) (LB : Loc n h B) (same : ∀ g, (∃ p, p < n ∧ A p = some g) ↔ (∃ p, p < n ∧ B p = some g))
    (ea : ∃ e, e < n ∧ A e = none) (eb : ∃ e, e < n ∧ B e = none) {p : Nat} (hp : p < n) : A p = B p := by
  have GA := glo_of_loc hh LA
  have GB := glo_of_loc hh LB
  have sab : ∀ q g, q < n → A q = some g → ∃ p, p < n ∧ B p = some g := fun q g hq hg => (same g).mp ⟨q, hq, hg⟩
  have sba : ∀ q g, q < n → B q = some g → ∃ p, p < n ∧ A p = some g := fun q g hq hg => (same g).mpr ⟨q, hq, hg⟩
  cases ha : A p with
  | some g => exact (half hh GA GB sab sba ea eb hp ha).symm
  | none =>
    cases hb : B p with
    | none => rfl
    | some g =>
      have := half hh GB GA sba sab eb ea hp hb
      rw [ha] at this; cases this
/-- in a settled seating nobody sits twice -/
theorem once (hh : ∀ g, h g < n) (L : Loc n h A) {p q : Nat} {g : Int} (hp : p < n) (hq : q < n) (h1 : A p = some g) (h2 : A q = some g) : p = q := by
  have G := glo_of_loc hh L
  rcases Nat.lt_trichotomy (dist n (h g) p) (dist n (h g) q) with l | l | l
  · obtain ⟨b, hb, u⟩ := G q g hq h2 (dist n (h g) q - dist n (h g) p) (by omega) (by omega)
    rw [back_of (hh g) hq hp (by omega), h1] at hb
    cases hb
    exact absurd u ahead_irrefl
  · exact dist_inj (hh g) hp hq l
  · obtain ⟨b, hb, u⟩ := G p g hp h1 (dist n (h g) p - dist n (h g) q) (by omega) (by omega)
    rw [back_of (hh g) hp hq (by omega), h2] at hb
    cases hb
    exact absurd u ahead_irrefl
end

/-! ### lists of seats -/
def who (s : Seats) : List Int := s.filterMap id
theorem fm_some (g : Int) (r : Seats) : List.filterMap id (some g :: r) = g :: List.filterMap id r := rfl
theorem fm_none (r : Seats) : List.filterMap id (none :: r) = List.filterMap id r := rfl
section
variable {n : Nat} {h : Int → Nat} {s : Seats} {p q : Nat} {v : Option Int} {x y : Int}
theorem sat_set (hp : p < s.length) : sat (s.set p v) q = if q = p then v else sat s q := by
  unfold sat
  by_cases e : q = p
  · subst e
    rw [if_pos rfl]
    simp [List.getD, hp]
  · rw [if_neg e]
    simp [List.getD, List.getElem?_set_ne (Ne.symm e)]
theorem sat_same (hp : p < s.length) : sat (s.set p v) p = v := by rw [sat_set hp, if_pos rfl]
theorem sat_ne (hp : p < s.length) (e : q ≠ p) : sat (s.set p v) q = sat s q := by rw [sat_set hp, if_neg e]
theorem sat_get (hp : p < s.length) : s[p]? = some (sat s p) := by
  unfold sat; simp [List.getD, hp]
theorem sat_get' (hp : p < s.length) : s[p] = sat s p := by
  unfold sat; simp [List.getD, hp]
theorem cut_at (hp : p < s.length) : s = s.take p ++ sat s p :: s.drop (p + 1) := by
  rw [← sat_get' hp, List.getElem_cons_drop, List.take_append_drop]
theorem cut_set (hp : p < s.length) : s.set p v = s.take p ++ v :: s.drop (p + 1) := List.set_eq_take_append_cons_drop ▸ by rw [if_pos hp]
theorem who_none (hp : p < s.length) (e : sat s p = none) : List.Perm (who (s.set p (some x))) (x :: who s) := by
  have e1 : who s = who (s.take p) ++ who (s.drop (p + 1)) := by
    conv => lhs; rw [cut_at hp, e]
    unfold who; rw [List.filterMap_append, fm_none]
  have e2 : who (s.set p (some x)) = who (s.take p) ++ x :: who (s.drop (p + 1)) := by
    rw [cut_set hp]
    unfold who; rw [List.filterMap_append, fm_some]
  rw [e1, e2]
  exact List.perm_middle
theorem who_some (hp : p < s.length) (e : sat s p = some y) : ∃ r, List.Perm (who s) (y :: r) ∧ List.Perm (who (s.set p (some x))) (x :: r) ∧ who (s.set p none) = r := by
  refine ⟨who (s.take p) ++ who (s.drop (p + 1)), ?_, ?_, ?_⟩
  · have : who s = who (s.take p) ++ y :: who (s.drop (p + 1)) := by
      conv => lhs; rw [cut_at hp, e]
      unfold who; rw [List.filterMap_append, fm_some]
    rw [this]; exact List.perm_middle
  · have : who (s.set p (some x)) = who (s.take p) ++ x :: who (s.drop (p + 1)) := by
      rw [cut_set hp]
      unfold who; rw [List.filterMap_append, fm_some]
    rw [this]; exact List.perm_middle
  · rw [cut_set hp]
    unfold who; rw [List.filterMap_append, fm_none]
theorem mem_who {g : Int} : g ∈ who s ↔ ∃ p, p < s.length ∧ sat s p = some g := by
  unfold who
  rw [List.mem_filterMap]
  constructor
  · rintro ⟨o, ho, e⟩
    obtain ⟨i, hi, rfl⟩ := List.getElem_of_mem ho
    exact ⟨i, hi, by rw [← sat_get' hi]; exact e⟩
  · rintro ⟨p, hp, e⟩
    refine ⟨s[p], List.getElem_mem hp, ?_⟩
    rw [sat_get' hp, e]; rfl
theorem sat_rep {m : Nat} : sat (List.replicate m none) p = none := by
  unfold sat
  rw [List.getD]
  cases e : (List.replicate m (none : Option Int))[p]? with
  | none => rfl
  | some u =>
    have := List.getElem?_replicate (n := m) (a := (none : Option Int)) (i := p)
    rw [e] at this
    split at this
    · cases this; rfl
    · cases this
theorem who_rep {m : Nat} : who (List.replicate m none) = [] := by
  unfold who
  induction m with
  | zero => rfl
  | succ m ih => rw [List.replicate_succ, fm_none, ih]
theorem loc_rep {m : Nat} : Loc n h (sat (List.replicate m none)) := by
  intro p g hp hg
  rw [sat_rep] at hg; cases hg
/-- as many guests as filled seats -/
theorem who_len (s : Seats) : (who s).length + s.count none = s.length := by
  unfold who
  induction s with
  | nil => rfl
  | cons o r ih =>
    cases o with
    | none => rw [fm_none, List.count_cons_self, List.length_cons]; omega
    | some g => rw [fm_some, List.count_cons_of_ne (by simp), List.length_cons, List.length_cons]; omega
theorem empty_of (hl : (who s).length < s.length) : ∃ e, e < s.length ∧ sat s e = none := by
  have := who_len s
  have hc : 0 < s.count none := by omega
  have hm : none ∈ s := List.count_pos_iff.mp hc
  obtain ⟨i, hi, e⟩ := List.getElem_of_mem hm
  exact ⟨i, hi, by rw [← sat_get' hi]; exact e⟩
theorem ext_sat {s t : Seats} (hl : s.length = t.length) (e : ∀ p, p < s.length → sat s p = sat t p) : s = t := by
  apply List.ext_getElem hl
  intro i h1 h2
  rw [sat_get' h1, sat_get' h2]
  exact e i h1
end

/-! ### a guest comes: who goes ahead keeps the seat -/
def put (n : Nat) (h : Int → Nat) : Nat → Seats → Int → Nat → Seats
  | 0, s, _, _ => s
  | k + 1, s, x, p =>
    match sat s p with
    | none => s.set p (some x)
    | some y => if Ahead n h x y p then put n h k (s.set p (some x)) y (nxt n p) else put n h k s x (nxt n p)
/-- x comes to p: it is at home, or the one on the seat before goes ahead of it there -/
def Arr (n : Nat) (h : Int → Nat) (s : Seats) (x : Int) (p : Nat) : Prop := h x = p ∨ ∃ g', sat s (prv n p) = some g' ∧ Ahead n h g' x (prv n p)
section
variable {n : Nat} {h : Int → Nat}
theorem prv_ne {p : Nat} (h2 : 2 ≤ n) (hp : p < n) : prv n p ≠ p := by unfold prv; split <;> omega
theorem loc_put (h2 : 2 ≤ n) {s : Seats} {x : Int} {p : Nat} (hl : s.length = n) (L : Loc n h (sat s)) (hp : p < n) (ar : Arr n h s x p)
    (ok : ∀ y, sat s p = some y → Ahead n h x y p) : Loc n h (sat (s.set p (some x))) := by
  intro q g hq hg hne
  have hps : p < s.length := by omega
  by_cases e : q = p
  · subst e
    rw [sat_same hps] at hg
    cases hg
    rcases ar with z | ⟨g', e', u⟩
    · exact absurd z hne
    · exact ⟨g', by rw [sat_ne hps (prv_ne h2 hq)]; exact e', u⟩
  · rw [sat_ne hps e] at hg
    obtain ⟨g', e', u⟩ := L q g hq hg hne
    by_cases e2 : prv n q = p
    · rw [e2] at e' u ⊢
      exact ⟨x, sat_same hps, ahead_trans (ok g' e') u⟩
    · exact ⟨g', by rw [sat_ne hps e2]; exact e', u⟩
theorem put_ok (h2 : 2 ≤ n) (hh : ∀ g, h g < n) : ∀ (k : Nat) (s : Seats) (x : Int) (p e : Nat), s.length = n → Loc n h (sat s) → x ∉ who s → (who s).Nodup → p < n → e < n → sat s e = none →
    dist n (h x) p + dist n p e < n → Arr n h s x p → dist n p e < k →
    (put n h k s x p).length = n ∧ Loc n h (sat (put n h k s x p)) ∧ List.Perm (who (put n h k s x p)) (x :: who s) := by
  intro k
  induction k with
  | zero => intro s x p e _ _ _ _ _ _ _ _ _ hk; omega
  | succ k ih =>
    intro s x p e hl L hx nd hp he hn hd ar hk
    have hps : p < s.length := by omega
    unfold put
    cases hy : sat s p with
    | none =>
      exact ⟨by simpa using hl, loc_put h2 hl L hp ar (fun y z => by rw [hy] at z; cases z), who_none hps hy⟩
    | some y =>
      dsimp only
      have hpe : p ≠ e := by rintro rfl; rw [hy] at hn; cases hn
      have d1 := dist_to_nxt hp he hpe
      have hyx : x ≠ y := by
        rintro rfl
        exact hx (mem_who.mpr ⟨p, hps, hy⟩)
      by_cases u : Ahead n h x y p
      · rw [if_pos u]
        obtain ⟨r, r1, r2, _⟩ := who_some (x := x) hps hy
        have nd1 : (y :: r).Nodup := r1.nodup_iff.mp nd
        have hxr : x ∉ r := fun z => hx (r1.symm.subset (List.mem_cons_of_mem _ z))
        have hle := ahead_le u
        have := ih (s.set p (some x)) y (nxt n p) e (by simpa using hl) (loc_put h2 hl L hp ar (fun y' z => by rw [hy] at z; cases z; exact u))
          (fun z => by
            rcases List.mem_cons.mp (r2.subset z) with e | e
            · exact hyx e.symm
            · exact (List.nodup_cons.mp nd1).1 e)
          (r2.nodup_iff.mpr (List.nodup_cons.mpr ⟨hxr, (List.nodup_cons.mp nd1).2⟩))
          (nxt_lt hp) he (by rw [sat_ne hps (Ne.symm hpe)]; exact hn)
          (by rw [dist_nxt' (hh y) hp (by omega)]; omega)
          (.inr ⟨x, by rw [prv_nxt hp]; exact sat_same hps, by rw [prv_nxt hp]; exact u⟩) (by omega)
        refine ⟨this.1, this.2.1, this.2.2.trans ?_⟩
        exact ((List.Perm.cons y r2).trans (List.Perm.swap x y r)).trans (List.Perm.cons x r1.symm)
      · rw [if_neg u]
        have u' : Ahead n h y x p := (ahead_total hyx).resolve_left u
        exact ih s x (nxt n p) e hl L hx nd (nxt_lt hp) he hn (by rw [dist_nxt' (hh x) hp (by omega)]; omega)
          (.inr ⟨y, by rw [prv_nxt hp]; exact hy, by rw [prv_nxt hp]; exact u'⟩) (by omega)
/-- a settled seating on n seats of just these guests -/
structure Settled (n : Nat) (h : Int → Nat) (s : Seats) : Prop where
  len : s.length = n
  loc : Loc n h (sat s)
  emp : (who s).length < n
theorem Settled.nodup (hh : ∀ g, h g < n) {s : Seats} (S : Settled n h s) : (who s).Nodup := by
  have inj : ∀ p q g, p < s.length → q < s.length → sat s p = some g → sat s q = some g → p = q := fun p q g hp hq a b =>
    once hh S.loc (by have := S.len; omega) (by have := S.len; omega) a b
  clear S
  induction s with
  | nil => exact List.nodup_nil
  | cons o r ih =>
    have tl := ih fun p q g hp hq a b => by
      have := inj (p + 1) (q + 1) g (by simpa using hp) (by simpa using hq) (by simpa [sat] using a) (by simpa [sat] using b)
      omega
    cases o with
    | none => unfold who; rw [fm_none]; exact tl
    | some g =>
      unfold who; rw [fm_some]
      refine List.nodup_cons.mpr ⟨fun m => ?_, tl⟩
      obtain ⟨p, hp, e⟩ := mem_who.mp m
      have := inj 0 (p + 1) g (by simp) (by simpa using hp) (by simp [sat]) (by simpa [sat] using e)
      omega
theorem Settled.empty {s : Seats} (S : Settled n h s) : ∃ e, e < n ∧ sat s e = none := by
  have := empty_of (s := s) (by rw [S.len]; exact S.emp)
  rwa [S.len] at this
theorem Settled.unique (hh : ∀ g, h g < n) {s t : Seats} (S : Settled n h s) (T : Settled n h t) (same : ∀ g, g ∈ who s ↔ g ∈ who t) : s = t := by
  refine ext_sat (by rw [S.len, T.len]) fun p hp => ?_
  rw [S.len] at hp
  refine Ring.unique hh S.loc T.loc (fun g => ?_) S.empty T.empty hp
  have := same g
  rw [mem_who, mem_who, S.len, T.len] at this
  exact this
/-- the guest x comes -/
def comes (n : Nat) (h : Int → Nat) (s : Seats) (x : Int) : Seats := put n h n s x (h x)
theorem comes_ok (h2 : 2 ≤ n) (hh : ∀ g, h g < n) {s : Seats} {x : Int} (S : Settled n h s) (hx : x ∉ who s) :
    (comes n h s x).length = n ∧ Loc n h (sat (comes n h s x)) ∧ List.Perm (who (comes n h s x)) (x :: who s) := by
  obtain ⟨e, he, hn⟩ := S.empty
  have hd := dist_lt (hh x) he
  exact put_ok h2 hh n s x (h x) e S.len S.loc hx (S.nodup hh) (hh x) he hn (by rw [dist_self]; omega) (.inl rfl) hd
theorem comes_settled (h2 : 2 ≤ n) (hh : ∀ g, h g < n) {s : Seats} {x : Int} (S : Settled n h s) (hx : x ∉ who s) (room : (who s).length + 1 < n) : Settled n h (comes n h s x) := by
  obtain ⟨a, b, c⟩ := comes_ok h2 hh S hx
  exact ⟨a, b, by rw [c.length_eq, List.length_cons]; exact room⟩
end
end Ring


set_option linter.all false
namespace Ring
/-! ### strain: sums over the seats -/
def costAt (n : Nat) (h : Int → Nat) (f : Nat → Nat) (o : Option Int) (p : Nat) : Nat := match o with
  | none => 0
  | some g => f (dist n (h g) p)
def cost (n : Nat) (h : Int → Nat) (f : Nat → Nat) (s : Seats) : Nat → Nat
  | 0 => 0
  | k + 1 => cost n h f s k + costAt n h f (sat s k) k
def most (n : Nat) (h : Int → Nat) (s : Seats) : Nat → Nat
  | 0 => 0
  | k + 1 => max (most n h s k) (costAt n h id (sat s k) k)
section
variable {n : Nat} {h : Int → Nat} {f : Nat → Nat} {s t : Seats} {p q k e : Nat} {x y : Int} {v : Option Int}
theorem cost_congr (hs : ∀ q, q < k → sat s q = sat t q) : cost n h f s k = cost n h f t k := by
  induction k with
  | zero => rfl
  | succ k ih => unfold cost; rw [ih fun q hq => hs q (by omega), hs k (by omega)]
theorem cost_set (hp : p < s.length) (hk : p < k) : cost n h f (s.set p v) k + costAt n h f (sat s p) p = cost n h f s k + costAt n h f v p := by
  induction k with
  | zero => omega
  | succ k ih =>
    unfold cost
    by_cases e : p = k
    · subst e
      rw [sat_same hp, cost_congr (s := s.set p v) (t := s) fun q hq => sat_ne hp (by omega)]
      omega
    · have := ih (by omega)
      rw [sat_ne hp (Ne.symm e)]
      omega
theorem most_ge (hq : q < k) : costAt n h id (sat s q) q ≤ most n h s k := by
  induction k with
  | zero => omega
  | succ k ih =>
    unfold most
    by_cases e : q = k
    · subst e; omega
    · have := ih (by omega); omega
theorem most_le {m : Nat} (hm : ∀ q, q < k → costAt n h id (sat s q) q ≤ m) : most n h s k ≤ m := by
  induction k with
  | zero => exact Nat.zero_le _
  | succ k ih =>
    unfold most
    have := ih fun q hq => hm q (by omega)
    have := hm k (by omega)
    omega
theorem most_set (hp : p < s.length) (hk : p < k) : most n h (s.set p v) k ≤ max (most n h s k) (costAt n h id v p) := by
  refine most_le fun q hq => ?_
  by_cases e : q = p
  · subst e; rw [sat_same hp]; omega
  · rw [sat_ne hp e]
    have := most_ge (n := n) (h := h) (s := s) hq
    omega
theorem most_set_none (hp : p < s.length) (hk : p < k) (hn : sat s p = none) (hv : v = some x) : most n h (s.set p v) k = max (most n h s k) (dist n (h x) p) := by
  subst hv
  refine Nat.le_antisymm (most_set hp hk) ?_
  have h1 : dist n (h x) p ≤ most n h (s.set p (some x)) k := by
    have := most_ge (n := n) (h := h) (s := s.set p (some x)) hk
    rw [sat_same hp] at this
    exact this
  have h2 : most n h s k ≤ most n h (s.set p (some x)) k := most_le fun q hq => by
    by_cases e : q = p
    · subst e; rw [hn]; exact Nat.zero_le _
    · have := most_ge (n := n) (h := h) (s := s.set p (some x)) hq
      rw [sat_ne hp e] at this
      exact this
  omega

/-! ### the first empty seat from p on -/
def firstE (n : Nat) : Nat → Seats → Nat → Nat
  | 0, _, p => p
  | k + 1, s, p => if sat s p = none then p else firstE n k s (nxt n p)
theorem firstE_congr (hs : ∀ q, sat s q = none ↔ sat t q = none) : ∀ (k p : Nat), firstE n k s p = firstE n k t p := by
  intro k
  induction k with
  | zero => intro p; rfl
  | succ k ih =>
    intro p
    unfold firstE
    by_cases e : sat s p = none
    · rw [if_pos e, if_pos ((hs p).mp e)]
    · rw [if_neg e, if_neg (fun z => e ((hs p).mpr z)), ih]
theorem firstE_ok : ∀ (k p e : Nat), p < n → e < n → sat s e = none → dist n p e < k →
    firstE n k s p < n ∧ sat s (firstE n k s p) = none ∧ dist n p (firstE n k s p) ≤ dist n p e := by
  intro k
  induction k with
  | zero => intro p e _ _ _ hk; omega
  | succ k ih =>
    intro p e hp he hn hk
    unfold firstE
    by_cases z : sat s p = none
    · rw [if_pos z, dist_self]
      exact ⟨hp, z, Nat.zero_le _⟩
    · rw [if_neg z]
      have hpe : p ≠ e := by rintro rfl; exact z hn
      have d1 := dist_to_nxt hp he hpe
      obtain ⟨a, b, c⟩ := ih (nxt n p) e (nxt_lt hp) he hn (by omega)
      refine ⟨a, b, ?_⟩
      have hne : p ≠ firstE n k s (nxt n p) := by
        intro e'
        rw [← e'] at b
        exact z b
      have := dist_to_nxt hp a hne
      omega
/-- what a coming guest does to the sums: e is the first empty seat -/
theorem put_sums (hh : ∀ g, h g < n) : ∀ (k : Nat) (s : Seats) (x : Int) (p e : Nat), s.length = n → p < n → e < n → sat s e = none →
    dist n (h x) p + dist n p e < n → dist n p e < k →
    (∀ q, sat (put n h k s x p) q = none ↔ (sat s q = none ∧ q ≠ firstE n k s p)) ∧
    cost n h id (put n h k s x p) n = cost n h id s n + (dist n (h x) p + dist n p (firstE n k s p)) ∧
    cost n h (fun c => c * c) (put n h k s x p) n ≤ cost n h (fun c => c * c) s n + (dist n (h x) p + dist n p (firstE n k s p)) * (dist n (h x) p + dist n p (firstE n k s p)) ∧
    most n h (put n h k s x p) n ≤ max (most n h s n) (dist n (h x) p + dist n p (firstE n k s p)) := by
  intro k
  induction k with
  | zero => intro s x p e _ _ _ _ _ hk; omega
  | succ k ih =>
    intro s x p e hl hp he hn hd hk
    have hps : p < s.length := by omega
    unfold put firstE
    cases hy : sat s p with
    | none =>
      dsimp only
      rw [if_pos rfl, dist_self, Nat.add_zero]
      refine ⟨fun q => ?_, ?_, ?_, ?_⟩
      · rw [sat_set hps]
        by_cases z : q = p
        · rw [if_pos z]; simp [z]
        · rw [if_neg z]; simp [z]
      · have := cost_set (n := n) (h := h) (f := id) (v := some x) hps hp
        rw [hy] at this
        simp only [costAt, id] at this
        omega
      · have := cost_set (n := n) (h := h) (f := fun c => c * c) (v := some x) hps hp
        rw [hy] at this
        simp only [costAt] at this
        omega
      · exact most_set hps hp
    | some y =>
      dsimp only
      rw [if_neg (show ¬ (some y : Option Int) = none from fun z => nomatch z)]
      have hpe : p ≠ e := by rintro rfl; rw [hy] at hn; cases hn
      have d1 := dist_to_nxt hp he hpe
      have same : ∀ q, sat (s.set p (some x)) q = none ↔ sat s q = none := fun q => by
        rw [sat_set hps]
        by_cases z : q = p
        · rw [if_pos z, z, hy]; simp
        · rw [if_neg z]
      obtain ⟨f1, f2, f3⟩ := firstE_ok (s := s) k (nxt n p) e (nxt_lt hp) he hn (by omega)
      have hpf : p ≠ firstE n k s (nxt n p) := by
        intro z; rw [← z, hy] at f2; cases f2
      have d2 := dist_to_nxt hp f1 hpf
      by_cases u : Ahead n h x y p
      · rw [if_pos u]
        have hle := ahead_le u
        have dy : dist n (h y) (nxt n p) = dist n (h y) p + 1 := dist_nxt' (hh y) hp (by omega)
        obtain ⟨a, b, c, d⟩ := ih (s.set p (some x)) y (nxt n p) e (by simpa using hl) (nxt_lt hp) he ((same e).mpr hn) (by omega) (by omega)
        rw [firstE_congr same k (nxt n p)] at a b c d
        have c1 := cost_set (n := n) (h := h) (f := id) (v := some x) hps hp
        have c2 := cost_set (n := n) (h := h) (f := fun c => c * c) (v := some x) hps hp
        have c3 := most_set (n := n) (h := h) (v := some x) hps hp
        rw [hy] at c1 c2
        simp only [costAt, id] at c1 c2 c3
        rw [dy] at b c d
        rw [show dist n (h y) p + 1 + dist n (nxt n p) (firstE n k s (nxt n p)) = dist n (h y) p + dist n p (firstE n k s (nxt n p)) by omega] at b c d
        generalize dist n p (firstE n k s (nxt n p)) = D at *
        generalize dist n (h y) p = a' at *
        generalize dist n (h x) p = b' at *
        refine ⟨fun q => ?_, by omega, ?_, by omega⟩
        · rw [a q, same q]
        · refine Nat.le_trans c ?_
          have e1 : (a' + D) * (a' + D) = a' * a' + 2 * (a' * D) + D * D := by
            rw [Nat.add_mul, Nat.mul_add, Nat.mul_add, Nat.mul_comm D a']; omega
          have e2 : (b' + D) * (b' + D) = b' * b' + 2 * (b' * D) + D * D := by
            rw [Nat.add_mul, Nat.mul_add, Nat.mul_add, Nat.mul_comm D b']; omega
          have e3 : a' * D ≤ b' * D := Nat.mul_le_mul_right D hle
          omega
      · rw [if_neg u]
        have dx : dist n (h x) (nxt n p) = dist n (h x) p + 1 := dist_nxt' (hh x) hp (by omega)
        obtain ⟨a, b, c, d⟩ := ih s x (nxt n p) e hl (nxt_lt hp) he hn (by omega) (by omega)
        rw [dx] at b c d
        rw [show dist n (h x) p + 1 + dist n (nxt n p) (firstE n k s (nxt n p)) = dist n (h x) p + dist n p (firstE n k s (nxt n p)) by omega] at b c d
        exact ⟨a, b, c, d⟩
/-- as they come: x sits on the first empty seat from its home on -/
def fcome (n : Nat) (h : Int → Nat) (s : Seats) (x : Int) : Seats := s.set (firstE n n s (h x)) (some x)
/-- of two seatings with the same seats filled: one settled by turns, one as they come -/
structure Pair (n : Nat) (h : Int → Nat) (A F : Seats) : Prop where
  la : A.length = n
  lf : F.length = n
  em : ∀ q, sat A q = none ↔ sat F q = none
  tot : cost n h id A n = cost n h id F n
  sq : cost n h (fun c => c * c) A n ≤ cost n h (fun c => c * c) F n
  mx : most n h A n ≤ most n h F n
theorem put_len : ∀ (k : Nat) (s : Seats) (x : Int) (p : Nat), (put n h k s x p).length = s.length := by
  intro k
  induction k with
  | zero => intro s x p; rfl
  | succ k ih =>
    intro s x p
    unfold put
    cases sat s p with
    | none => simp
    | some y =>
      dsimp only
      by_cases u : Ahead n h x y p
      · rw [if_pos u, ih]; simp
      · rw [if_neg u, ih]
theorem Pair.more (hh : ∀ g, h g < n) {A F : Seats} (P : Pair n h A F) (em : ∃ e, e < n ∧ sat A e = none) (x : Int) : Pair n h (comes n h A x) (fcome n h F x) := by
  obtain ⟨e, he, hn⟩ := em
  have hd := dist_lt (hh x) he
  obtain ⟨a, b, c, d⟩ := put_sums hh n A x (h x) e P.la (hh x) he hn (by rw [dist_self]; omega) hd
  obtain ⟨f1, f2, f3⟩ := firstE_ok (s := A) n (h x) e (hh x) he hn hd
  have fe : firstE n n F (h x) = firstE n n A (h x) := (firstE_congr P.em n (h x)).symm
  have hF : firstE n n A (h x) < F.length := by rw [P.lf]; exact f1
  have hFn : sat F (firstE n n A (h x)) = none := (P.em _).mp f2
  rw [dist_self, Nat.zero_add] at b c d
  have c1 := cost_set (n := n) (h := h) (f := id) (v := some x) hF f1
  have c2 := cost_set (n := n) (h := h) (f := fun c => c * c) (v := some x) hF f1
  have c3 := most_set_none (n := n) (h := h) hF f1 hFn (rfl : some x = some x)
  rw [hFn] at c1 c2
  simp only [costAt, id] at c1 c2
  have t := P.tot
  have s2 := P.sq
  have m2 := P.mx
  unfold comes fcome
  rw [fe]
  refine ⟨by rw [put_len, P.la], by rw [List.length_set, P.lf], fun q => ?_, by omega, by omega, by omega⟩
  rw [a q, sat_set hF, P.em q]
  by_cases z : q = firstE n n A (h x)
  · rw [if_pos z]; simp [z]
  · rw [if_neg z]; simp [z]
theorem Pair.start : Pair n h (List.replicate n none) (List.replicate n none) :=
  ⟨by simp, by simp, fun _ => Iff.rfl, rfl, Nat.le_refl _, Nat.le_refl _⟩
end
end Ring


set_option linter.all false
namespace Ring
/-! ### the words of the program: rests -/
theorem far_eq {n a p : Nat} (ha : a < n) (hp : p < n) : ((p : Int) - (a : Int)) % (n : Int) = (dist n a p : Int) := by
  unfold dist
  by_cases e : a ≤ p
  · rw [if_pos e, Int.emod_eq_of_lt (by omega) (by omega)]; omega
  · rw [if_neg e]
    have : ((p : Int) - (a : Int)) % (n : Int) = ((p : Int) - (a : Int) + (n : Int)) % (n : Int) := by rw [Int.add_emod_right]
    rw [this, Int.emod_eq_of_lt (by omega) (by omega)]; omega
theorem on_eq {n p : Nat} (hp : p < n) : ((p : Int) + 1) % (n : Int) = (nxt n p : Int) := by
  unfold nxt
  by_cases e : p + 1 < n
  · rw [if_pos e, Int.emod_eq_of_lt (by omega) (by omega)]; omega
  · rw [if_neg e]
    have : p + 1 = n := by omega
    rw [show ((p : Int) + 1) = (n : Int) by omega, Int.emod_self]; rfl
/-- the home of point 3 -/
def mark (g : Int) : Int := (g * 40503 + g / 65536) % 65536
def hm (n : Nat) (g : Int) : Nat := (mark g % (n : Int)).toNat
theorem hm_eq {n : Nat} (hn : 0 < n) (g : Int) : ((hm n g : Nat) : Int) = mark g % (n : Int) := by
  unfold hm
  have := Int.emod_nonneg (mark g) (show (n : Int) ≠ 0 by omega)
  omega
theorem hm_lt {n : Nat} (hn : 0 < n) (g : Int) : hm n g < n := by
  have h1 := hm_eq hn g
  have h2 := Int.emod_lt_of_pos (mark g) (show (0 : Int) < (n : Int) by omega)
  omega
/-! ### a look -/
def look (n : Nat) (h : Int → Nat) : Nat → Seats → Int → Nat → Nat → Nat × Option Nat
  | 0, _, _, _, c => (c, none)
  | k + 1, s, g, p, c => match sat s p with
    | none => (c + 1, none)
    | some y => if y = g then (c + 1, some p) else if Ahead n h y g p then look n h k s g (nxt n p) (c + 1) else (c + 1, none)
section
variable {n : Nat} {h : Int → Nat} {s : Seats} {g : Int}
end
end Ring


set_option linter.all false
namespace Ring
/-! ### a guest goes: those behind move up -/
def shift (n : Nat) (h : Int → Nat) : Nat → Seats → Nat → Seats
  | 0, s, _ => s
  | k + 1, s, p => match sat s (nxt n p) with
    | none => s.set p none
    | some y => if h y = nxt n p then s.set p none else shift n h k (s.set p (some y)) (nxt n p)
section
variable {n : Nat} {h : Int → Nat}
end
end Ring


set_option linter.all false
namespace Ring
/-! ### the words of the program, in whole numbers -/
def far (g p m : Int) : Int := (p - mark g % m) % m
def aheadF (x y p m : Int) : Bool := decide (far y p m < far x p m) || (decide (far x p m = far y p m) && decide (x < y))
theorem far_dist {n p : Nat} (hp : p < n) (g : Int) : far g (p : Int) (n : Int) = (dist n (hm n g) p : Int) := by
  unfold far
  have h0 : 0 < n := by omega
  rw [← hm_eq h0 g]
  exact far_eq (hm_lt h0 g) hp
theorem aheadF_eq {n p : Nat} (hp : p < n) (x y : Int) : aheadF x y (p : Int) (n : Int) = decide (Ahead n (hm n) x y p) := by
  unfold aheadF Ahead
  rw [far_dist hp, far_dist hp]
  by_cases h1 : dist n (hm n y) p < dist n (hm n x) p
  · have : ((dist n (hm n y) p : Nat) : Int) < (dist n (hm n x) p : Nat) := by omega
    simp [h1]
  · by_cases h2 : dist n (hm n x) p = dist n (hm n y) p
    · simp [h2]
    · have : ¬ (((dist n (hm n x) p : Nat) : Int) = (dist n (hm n y) p : Nat)) := by omega
      simp [h1, h2]
      intro e
      exact absurd e this
/-! ### well seated -/
def WellAt (n : Nat) (s : Seats) (p : Nat) : Prop := ∀ g, sat s p = some g → hm n g ≠ p → ∃ g', sat s (prv n p) = some g' ∧ Ahead n (hm n) g' g (prv n p)
open Classical in
noncomputable def wellB (n : Nat) (s : Seats) (p : Nat) : Bool := decide (WellAt n s p)
open Classical in
noncomputable def setB (s : Seats) : Bool := decide (none ∈ s ∧ Loc s.length (hm s.length) (sat s))
/-! ### strain -/
def ways (n : Nat) (s : Seats) (k : Nat) : List Int := ((List.range k).filter fun i => (sat s i).isSome).map fun i => ((costAt n (hm n) id (sat s i) i : Nat) : Int)
theorem ways_succ (n : Nat) (s : Seats) (k : Nat) : ways n s (k + 1) = ways n s k ++ (if (sat s k).isSome = true then [((costAt n (hm n) id (sat s k) k : Nat) : Int)] else []) := by
  unfold ways
  rw [List.range_succ, List.filter_append, List.map_append]
  congr 1
  by_cases h : (sat s k).isSome = true
  · rw [if_pos h]; simp [h]
  · rw [if_neg h]; simp [h]
theorem ways_sum (n : Nat) (s : Seats) : ∀ k, (ways n s k).sum = ((cost n (hm n) id s k : Nat) : Int)
  | 0 => rfl
  | k + 1 => by
    rw [ways_succ, List.sum_append, ways_sum n s k]
    show _ = ((cost n (hm n) id s k + costAt n (hm n) id (sat s k) k : Nat) : Int)
    cases h : sat s k with
    | none => simp [costAt]
    | some g => simp
theorem ways_sq (n : Nat) (s : Seats) : ∀ k, ((ways n s k).map fun w => w * w).sum = ((cost n (hm n) (fun x => x * x) s k : Nat) : Int)
  | 0 => rfl
  | k + 1 => by
    rw [ways_succ, List.map_append, List.sum_append, ways_sq n s k]
    show _ = ((cost n (hm n) (fun x => x * x) s k + costAt n (hm n) (fun x => x * x) (sat s k) k : Nat) : Int)
    cases h : sat s k with
    | none => simp [costAt]
    | some g => simp [costAt]
theorem mem_ways {n : Nat} {s : Seats} {k : Nat} {w : Int} : w ∈ ways n s k ↔ ∃ i, i < k ∧ (sat s i).isSome = true ∧ w = ((costAt n (hm n) id (sat s i) i : Nat) : Int) := by
  unfold ways
  simp only [List.mem_map, List.mem_filter, List.mem_range]
  constructor
  · rintro ⟨i, ⟨h1, h2⟩, rfl⟩; exact ⟨i, h1, h2, rfl⟩
  · rintro ⟨i, h1, h2, rfl⟩; exact ⟨i, ⟨h1, h2⟩, rfl⟩
theorem ways_max {n : Nat} {s : Seats} {k : Nat} {B : Int} (h : (ways n s k = [] ∧ B = 0) ∨ (B ∈ ways n s k ∧ ∀ w ∈ ways n s k, w ≤ B)) : B = ((most n (hm n) s k : Nat) : Int) := by
  have hB : 0 ≤ B := by
    rcases h with ⟨_, h⟩ | ⟨h, _⟩
    · omega
    · obtain ⟨i, _, _, e⟩ := mem_ways.mp h
      omega
  have h1 : B ≤ ((most n (hm n) s k : Nat) : Int) := by
    rcases h with ⟨_, h⟩ | ⟨h, _⟩
    · omega
    · obtain ⟨i, hi, _, e⟩ := mem_ways.mp h
      have := most_ge (n := n) (h := hm n) (s := s) hi
      omega
  have h2 : most n (hm n) s k ≤ B.toNat := by
    refine most_le fun q hq => ?_
    cases hs : sat s q with
    | none => show (0 : Nat) ≤ _; omega
    | some g =>
      have hm' : ((costAt n (hm n) id (sat s q) q : Nat) : Int) ∈ ways n s k := mem_ways.mpr ⟨q, hq, by rw [hs]; rfl, rfl⟩
      rw [hs] at hm'
      rcases h with ⟨h, _⟩ | ⟨_, h⟩
      · rw [h] at hm'; cases hm'
      · have := h _ hm'
        omega
  omega
theorem ways_lt {n : Nat} (hn : 0 < n) {s : Seats} {k : Nat} (hk : k ≤ n) {w : Int} (h : w ∈ ways n s k) : 0 ≤ w ∧ w < n := by
  obtain ⟨i, hi, hs, e⟩ := mem_ways.mp h
  obtain ⟨g, hg⟩ := Option.isSome_iff_exists.mp hs
  rw [hg] at e
  have : costAt n (hm n) id (some g) i = dist n (hm n g) i := rfl
  rw [this] at e
  have := dist_lt (n := n) (hm_lt hn g) (show i < n by omega)
  omega
/-! ### a walk of the look: put, step by step -/
theorem put_none {n : Nat} {h : Int → Nat} {k : Nat} {s : Seats} {x : Int} {p : Nat} (e : sat s p = none) : put n h (k + 1) s x p = s.set p (some x) := by
  unfold put
  rw [e]
theorem put_yes {n : Nat} {h : Int → Nat} {k : Nat} {s : Seats} {x y : Int} {p : Nat} (e : sat s p = some y) (a : Ahead n h x y p) : put n h (k + 1) s x p = put n h k (s.set p (some x)) y (nxt n p) := by
  rw [put, e]
  exact if_pos a
theorem put_no {n : Nat} {h : Int → Nat} {k : Nat} {s : Seats} {x y : Int} {p : Nat} (e : sat s p = some y) (a : ¬ Ahead n h x y p) : put n h (k + 1) s x p = put n h k s x (nxt n p) := by
  rw [put, e]
  exact if_neg a
end Ring
namespace Ring
theorem sorted_eq : ∀ {a b : List Int}, a.Perm b → a.Pairwise (· ≤ ·) → b.Pairwise (· ≤ ·) → a = b
  | [], b, h, _, _ => (List.Perm.nil_eq h)
  | x :: a, [], h, _, _ => by simpa using h.length_eq
  | x :: a, y :: b, h, ha, hb => by
    obtain ⟨a1, a2⟩ := List.pairwise_cons.mp ha
    obtain ⟨b1, b2⟩ := List.pairwise_cons.mp hb
    have hxy : x = y := by
      have h1 : x ∈ y :: b := h.mem_iff.mp List.mem_cons_self
      have h2 : y ∈ x :: a := h.mem_iff.mpr List.mem_cons_self
      rcases List.mem_cons.mp h1 with e | e
      · exact e
      · rcases List.mem_cons.mp h2 with e' | e'
        · exact e'.symm
        · exact Int.le_antisymm (a1 y e') (b1 x e)
    subst hxy
    rw [sorted_eq (List.Perm.cons_inv h) a2 b2]
theorem who_append (s t : Seats) : who (s ++ t) = who s ++ who t := by
  unfold who
  rw [List.filterMap_append]
theorem who_take (s : Seats) (f : Option Int → Int) (hf : ∀ g, f (some g) = g) : ∀ k, k ≤ s.length → ((List.range k).filter fun i => (sat s i).isSome).map (fun i => f (sat s i)) = who (s.take k)
  | 0, _ => by simp [who]
  | k + 1, hk => by
    have ih := who_take s f hf k (by omega)
    have hk' : k < s.length := by omega
    rw [List.range_succ, List.filter_append, List.map_append, ih, List.take_succ_eq_append_getElem hk', who_append, sat_get' hk']
    congr 1
    cases h : sat s k with
    | none => simp [h, who]
    | some g => simp [h, who, hf]
theorem who_range (s : Seats) : ((List.range s.length).filter fun i => (sat s i).isSome).map (fun i => (sat s i).getD 0) = who s := by
  have := who_take s (fun o => o.getD 0) (fun _ => rfl) s.length (Nat.le_refl _)
  rw [List.take_length] at this
  exact this
end Ring


set_option linter.all false
set_option maxRecDepth 100000
/-! The promises of the program's defs and of the laws' helpers, in values. -/
namespace Law
open PySem L2 Ring
def sv : Option Int → V
  | none => .non
  | some g => .int g
theorem sv_some (g : Int) : sv (some g) = .int g := rfl
abbrev svs (s : Seats) : List V := s.map sv
theorem sv_flat (o : Option Int) : flatV (sv o) = true := by cases o <;> rfl
theorem svs_flat (s : Seats) : (svs s).all flatV = true := by
  rw [List.all_eq_true]
  intro v hv
  obtain ⟨o, _, rfl⟩ := List.mem_map.mp hv
  exact sv_flat o
theorem svs_at {s : Seats} {p : Nat} (hp : p < s.length) : atI (svs s) (p : Int) = some (sv (sat s p)) := by
  refine atI_nat ?_
  rw [List.getElem?_map, sat_get hp]
  rfl
theorem svs_len (s : Seats) : (svs s).length = s.length := List.length_map _
theorem ixN_nat {n p : Nat} (hp : p < n) : ixN n (p : Int) = some p := by
  unfold ixN
  rw [if_pos (by omega), if_pos (by omega)]
  simp
theorem svs_set {s : Seats} {p : Nat} {o : Option Int} : (svs s).set p (sv o) = svs (s.set p o) := by
  unfold svs
  rw [List.map_set]
theorem svs_setI {s : Seats} {p : Nat} {g : Int} : (svs s).set p (.int g) = svs (s.set p (some g)) := svs_set (o := some g)
theorem eqVs_sv : ∀ {s t : Seats}, eqVs (svs s) (svs t) = decide (s = t)
  | [], [] => by simp [eqVs]
  | [], _ :: _ => by simp [eqVs]
  | _ :: _, [] => by simp [eqVs]
  | a :: s, b :: t => by
    have ih := @eqVs_sv s t
    show (eqV (sv a) (sv b) && eqVs (svs s) (svs t)) = _
    rw [ih]
    cases a with
    | none => cases b with
      | none => simp [sv, eqV]
      | some y => simp [sv, eqV]
    | some x => cases b with
      | none => simp [sv, eqV]
      | some y =>
        rw [Bool.eq_iff_iff]
        simp [sv, eqV]
theorem eqVs_ints : ∀ {s t : List Int}, eqVs (s.map V.int) (t.map V.int) = decide (s = t)
  | [], [] => by simp [eqVs]
  | [], _ :: _ => by simp [eqVs]
  | _ :: _, [] => by simp [eqVs]
  | a :: s, b :: t => by
    have ih := @eqVs_ints s t
    show (eqV (.int a) (.int b) && eqVs (s.map V.int) (t.map V.int)) = _
    rw [ih, Bool.eq_iff_iff]
    simp [eqV]
theorem ints_flat (s : List Int) : (s.map V.int).all flatV = true := by
  rw [List.all_eq_true]
  intro v hv
  obtain ⟨o, _, rfl⟩ := List.mem_map.mp hv
  rfl
theorem atI_ints {ns : List Int} {j : Nat} (h : j < ns.length) : atI (ns.map V.int) (j : Int) = some (.int ns[j]) := by
  refine atI_nat ?_
  rw [List.getElem?_map, List.getElem?_eq_getElem h]
  rfl
theorem cut_ints (ns : List Int) (lo hi : Option Int) : cutV (ns.map V.int) lo hi = ((ns.drop (HT.sIx ns.length 0 lo)).take (HT.sIx ns.length ns.length hi - HT.sIx ns.length 0 lo)).map V.int := by
  unfold cutV
  rw [List.length_map, ← List.map_drop, ← List.map_take]
def spLaw (K : PySem.W.Frag) : Sp := fun vs H Q _ => ∃ (a : Addr) (ns : List Int), vs = [.ref a] ∧ SqL K H a (ns.map V.int) ∧ ns.length ≤ 63 ∧ ∀ H', Q (.bl true) H'
/-! ### numbers -/
def P60 : Int := 1000000000000000000000000000000000000000000000000000000000000
theorem p60 : (10 : Int) ^ (60 : Int).toNat = P60 := by decide +kernel
def cellF (ns : List Int) (k : Int) : Int := ns.getD k.toNat 0
/-! ### promises -/
def spHome : Sp := fun vs H Q _ => ∃ g m : Int, vs = [.int g, .int m] ∧ 0 < m ∧ Q (.int (mark g % m)) H
def spCarried : Sp := fun vs H Q _ => ∃ g p m : Int, vs = [.int g, .int p, .int m] ∧ 0 < m ∧ Q (.int (far g p m)) H
def spAhead : Sp := fun vs H Q _ => ∃ x y p m : Int, vs = [.int x, .int y, .int p, .int m] ∧ 0 < m ∧ Q (.bl (aheadF x y p m)) H
def spCell (K : PySem.W.Frag) : Sp := fun vs H Q _ => ∃ (a : Addr) (ns : List Int) (k : Int), vs = [.ref a, .int k] ∧ SqL K H a (ns.map V.int) ∧ 0 ≤ k ∧ Q (.int (cellF ns k)) H
def spWhole : Sp := fun vs H Q _ => ∃ i : Int, vs = [.int i] ∧ Q (.bl true) H
theorem rd_home {g m : Int} {H : Hp} {Q : VK} {E : XK} (h : 0 < m) (q : Q (.int (mark g % m)) H) : spHome [.int g, .int m] H Q E := ⟨g, m, rfl, h, q⟩
theorem rd_carried {g p m : Int} {H : Hp} {Q : VK} {E : XK} (h : 0 < m) (q : Q (.int (far g p m)) H) : spCarried [.int g, .int p, .int m] H Q E := ⟨g, p, m, rfl, h, q⟩
/-- at a seat of the ring -/
theorem rd_homeN {g : Int} {n : Nat} {H : Hp} {Q : VK} {E : XK} (h : 0 < n) (q : Q (.int ((hm n g : Nat) : Int)) H) : spHome [.int g, .int (n : Int)] H Q E := by
  rw [hm_eq h] at q
  exact ⟨g, n, rfl, by omega, q⟩
theorem rd_carriedN {g : Int} {p n : Nat} {H : Hp} {Q : VK} {E : XK} (h : p < n) (q : Q (.int ((dist n (hm n g) p : Nat) : Int)) H) : spCarried [.int g, .int (p : Int), .int (n : Int)] H Q E := by
  rw [← far_dist h] at q
  exact ⟨g, p, n, rfl, by omega, q⟩
theorem rd_aheadN {x y : Int} {p n : Nat} {H : Hp} {Q : VK} {E : XK} (h : p < n) (q : Q (.bl (decide (Ahead n (hm n) x y p))) H) : spAhead [.int x, .int y, .int (p : Int), .int (n : Int)] H Q E := by
  rw [← aheadF_eq h] at q
  exact ⟨x, y, p, n, rfl, by omega, q⟩
theorem rd_whole {i : Int} {H : Hp} {Q : VK} {E : XK} (q : Q (.bl true) H) : spWhole [.int i] H Q E := ⟨i, rfl, q⟩
/-- seats -/
def spWell (K : PySem.W.Frag) : Sp := fun vs H Q _ => ∃ (a : Addr) (s : Seats) (p : Nat), vs = [.ref a, .int (p : Int)] ∧ SqL K H a (svs s) ∧ p < s.length ∧ Q (.bl (wellB s.length s p)) H
def spSettled (K : PySem.W.Frag) : Sp := fun vs H Q _ => ∃ (a : Addr) (s : Seats), vs = [.ref a] ∧ SqL K H a (svs s) ∧ s.length ≤ 1024 ∧ ∀ H', Same H H' → Q (.bl (setB s)) H'
def strainV (s : Seats) : List V := [.int ((cost s.length (hm s.length) id s s.length : Nat) : Int), .int ((most s.length (hm s.length) s s.length : Nat) : Int), .int ((cost s.length (hm s.length) (fun x => x * x) s s.length : Nat) : Int)]
def spStrain : Sp := fun vs H Q _ => ∃ (a : Addr) (s : Seats), vs = [.ref a] ∧ H a = some (.lst (svs s)) ∧ s.length ≤ 1024 ∧ ∀ t H', Same H H' → H' t = some (.tup (strainV s)) → Q (.ref t) H'
def spPut : Sp := fun vs H Q _ => ∃ (a : Addr) (s : Seats) (x : Int), vs = [.ref a, .int x] ∧ H a = some (.lst (svs s)) ∧ (∃ e, e < s.length ∧ sat s e = none) ∧ Q .non (upd H a (.lst (svs (comes s.length (hm s.length) s x))))
def spGuestBy : Sp := fun vs H Q _ => ∃ c b : Int, vs = [.int c, .int b] ∧ 0 ≤ b ∧ b < P60 - 10000000000000 ∧ ∀ g : Int, 0 ≤ g → g < P60 → Q (.int g) H
def spManyBy : Sp := fun vs H Q _ => ∃ c : Int, vs = [.int c] ∧ ∀ n : Nat, 2 ≤ n → n ≤ 1024 → Q (.int (n : Int)) H
def spSeated (K : PySem.W.Frag) : Sp := fun vs H Q _ => ∃ (a : Addr) (cs : List Int) (b : Int) (n : Nat), vs = [.ref a, .int b, .int (n : Int)] ∧ SqL K H a (cs.map V.int) ∧ cs.length ≤ 63 ∧ 0 ≤ b ∧ b < P60 - 10000000000000 ∧ 2 ≤ n ∧ n ≤ 1024 ∧
  ∀ l s H', Settled n (hm n) s → (∀ g ∈ who s, 0 ≤ g ∧ g < P60) → (who s).length ≤ 63 → Same H H' → H' l = some (.lst (svs s)) → H l = none → Q (.ref l) H'
end Law

local macro_rules | `(tactic| tm_at "rd1") => `(tactic| first
  | ((with_reducible refine Law.rd_whole ?_))
  | ((with_reducible refine Law.rd_homeN ?_ ?_); (· (first | assumption | omega)))
  | ((with_reducible refine Law.rd_carriedN ?_ ?_); (· (first | assumption | omega)))
  | ((with_reducible refine Law.rd_aheadN ?_ ?_); (· (first | assumption | omega))))

set_option linter.all false
set_option maxRecDepth 100000
namespace L2
end L2

local macro_rules | `(tactic| tm_at "rd1") => `(tactic| first
  | ((with_reducible refine L2.rd_seqX ?_))
  | ((with_reducible refine L2.rd_lift ?_))
  | ((with_reducible refine L2.rd_nextX ?_))
  | ((with_reducible refine L2.rd_ifX ?_))
  | ((with_reducible refine L2.rd_callX ?_))
  | ((with_reducible refine L2.rd_ifXX ?_))
  | ((with_reducible refine L2.rd_notNX ?_))
  | ((with_reducible refine L2.rd_try ?_))
  | ((with_reducible refine L2.rd_sl3 ?_)))

set_option linter.all false
set_option maxRecDepth 100000
/-! The promises of the program's defs that may raise. NG, TW, FU, AW, NS: the refusals' classes. -/
namespace Law
open PySem L2 Ring
def Odd (K : PySem.W.Frag) (H : Hp) (x : V) : Prop := (∃ b, x = .bl b) ∨ ∃ t, TyOf K H x t ∧ PySem.W.kitOne K t (.type "bool") = some false ∧ PySem.W.kitOne K t (.type "int") = some false
/-- no guest -/
def Bad (K : PySem.W.Frag) (H : Hp) (x : V) : Prop := (∃ i : Int, x = .int i ∧ ¬ (0 ≤ i ∧ i < P60)) ∨ Odd K H x
theorem Odd.same {K : PySem.W.Frag} {H H' : Hp} {x : V} (h : Odd K H x) (s : Same H H') : Odd K H' x := by
  rcases h with h | ⟨t, ty, h⟩
  · exact .inl h
  · refine .inr ⟨t, ?_, h⟩
    cases ty with
    | non => exact .non
    | bl b => exact .bl b
    | int i => exact .int i
    | str z => exact .str z
    | flt z => exact .flt z
    | lst e => exact .lst (s _ _ e)
    | frz e => exact .frz (s _ _ e)
    | tup e => exact .tup (s _ _ e)
    | dK e => exact .dK (s _ _ e)
    | dT e => exact .dT (s _ _ e)
    | ins e a b c d f => exact .ins (s _ _ e) a b c d f
theorem Bad.same {K : PySem.W.Frag} {H H' : Hp} {x : V} (h : Bad K H x) (s : Same H H') : Bad K H' x := by
  rcases h with h | h
  · exact .inl h
  · exact .inr (h.same s)
def spIW (K : PySem.W.Frag) : Sp := fun vs H Q _ => (∃ i : Int, vs = [.int i] ∧ Q (.bl true) H) ∨ (∃ x, vs = [x] ∧ Odd K H x ∧ Q (.bl false) H)
def spIs (K : PySem.W.Frag) : Sp := fun vs H Q _ => (∃ i : Int, vs = [.int i] ∧ Q (.bl (decide (0 ≤ i ∧ i < P60))) H) ∨ (∃ x, vs = [x] ∧ Odd K H x ∧ Q (.bl false) H)
def spCheck (K : PySem.W.Frag) (NG : Addr) : Sp := fun vs H Q E => (∃ i : Int, vs = [.int i] ∧ 0 ≤ i ∧ i < P60 ∧ Q .non H) ∨ (∃ x, vs = [x] ∧ Bad K H x ∧ E (.ref NG) none H)
/-- what a look finds -/
def placeV (s : Seats) (g : Int) : V := match (look s.length (hm s.length) s.length s g (hm s.length g) 0).2 with
  | none => .non
  | some p => .int (p : Int)
def looksN (s : Seats) (g : Int) : Nat := (look s.length (hm s.length) s.length s g (hm s.length g) 0).1
def spPassed (K : PySem.W.Frag) : Sp := fun vs H Q _ => ∃ (a : Addr) (s : Seats) (g : Int), vs = [.ref a, .int g] ∧ SqL K H a (svs s) ∧ none ∈ s ∧
  ∀ c p : Nat, p < s.length → (((hm s.length g : Nat) : Int) + (c : Int)) % (s.length : Int) = (p : Int) → look s.length (hm s.length) s.length s g (hm s.length g) 0 = (c + 1, if sat s p = some g then some p else none) → Q (.int (c : Int)) H
def spPlace (K : PySem.W.Frag) (NG : Addr) : Sp := fun vs H Q E => (∃ (a : Addr) (s : Seats) (g : Int), vs = [.ref a, .int g] ∧ SqL K H a (svs s) ∧ none ∈ s ∧ 0 ≤ g ∧ g < P60 ∧ Q (placeV s g) H) ∨ (∃ (a : Addr) (x : V), vs = [.ref a, x] ∧ Bad K H x ∧ E (.ref NG) none H)
def spLooks (K : PySem.W.Frag) (NG : Addr) : Sp := fun vs H Q E => (∃ (a : Addr) (s : Seats) (g : Int), vs = [.ref a, .int g] ∧ SqL K H a (svs s) ∧ none ∈ s ∧ 0 ≤ g ∧ g < P60 ∧ Q (.int (looksN s g : Int)) H) ∨ (∃ (a : Addr) (x : V), vs = [.ref a, x] ∧ Bad K H x ∧ E (.ref NG) none H)
/-- a guest comes into a settled seating -/
def spSeatIn (K : PySem.W.Frag) (NG TW FU : Addr) : Sp := fun vs H Q E => (∃ (a : Addr) (s : Seats) (g : Int), vs = [.ref a, .int g] ∧ SqL K H a (svs s) ∧ Settled s.length (hm s.length) s ∧ s.length ≤ 1024 ∧ 0 ≤ g ∧ g < P60 ∧
  (g ∈ who s → E (.ref TW) none H) ∧ (g ∉ who s → s.length ≤ (who s).length + 1 → E (.ref FU) none H) ∧ (g ∉ who s → (who s).length + 1 < s.length → ∀ l, H l = none → Q (.ref l) (upd H l (.lst (svs (comes s.length (hm s.length) s g)))))) ∨
  (∃ (a : Addr) (x : V), vs = [.ref a, x] ∧ Bad K H x ∧ E (.ref NG) none H)
def flNG : List Bool := [true, false, false, true, false, false]
def flTW : List Bool := [false, true, false, true, false, false]
def flFU : List Bool := [false, false, true, true, false, false]
theorem eqVs_bls : ∀ {s t : List Bool}, eqVs (s.map V.bl) (t.map V.bl) = decide (s = t)
  | [], [] => by simp [eqVs]
  | [], _ :: _ => by simp [eqVs]
  | _ :: _, [] => by simp [eqVs]
  | a :: s, b :: t => by
    have ih := @eqVs_bls s t
    show (eqV (.bl a) (.bl b) && eqVs (s.map V.bl) (t.map V.bl)) = _
    rw [ih, Bool.eq_iff_iff]
    simp [eqV]
theorem bls_flat (s : List Bool) : (s.map V.bl).all flatV = true := by
  rw [List.all_eq_true]
  intro v hv
  obtain ⟨o, _, rfl⟩ := List.mem_map.mp hv
  rfl
/-- a guest goes out of a settled seating -/
def spSeatOut (K : PySem.W.Frag) (NG AW : Addr) : Sp := fun vs H Q E => (∃ (a : Addr) (s : Seats) (g : Int), vs = [.ref a, .int g] ∧ SqL K H a (svs s) ∧ Settled s.length (hm s.length) s ∧ 2 ≤ s.length ∧ s.length ≤ 1024 ∧ 0 ≤ g ∧ g < P60 ∧
  (g ∉ who s → E (.ref AW) none H) ∧ (g ∈ who s → ∀ l r, H l = none → Settled s.length (hm s.length) r → (∀ R, (who s).Perm (g :: R) → (who r).Perm R) → Q (.ref l) (upd H l (.lst (svs r))))) ∨
  (∃ (a : Addr) (x : V), vs = [.ref a, x] ∧ Bad K H x ∧ E (.ref NG) none H)
def P58 : Int := 10000000000000000000000000000000000000000000000000000000000
theorem p58 : (10 : Int) ^ (58 : Int).toNat = P58 := by decide +kernel
def P40 : Int := 10000000000000000000000000000000000000000
theorem p40 : (10 : Int) ^ (40 : Int).toNat = P40 := by decide +kernel
theorem p32 : (2 : Int) ^ (32 : Int).toNat = 4294967296 := by decide +kernel
def spBase7 : Sp := fun vs H Q _ => ∃ c : Int, vs = [.int c] ∧ ∀ b : Int, 0 ≤ b → b < P58 → Q (.int b) H
def spGuest7 : Sp := fun vs H Q _ => ∃ c b : Int, vs = [.int c, .int b] ∧ 0 ≤ b ∧ b < P58 ∧ ∀ g : Int, 0 ≤ g → g < P60 → Q (.int g) H
def spDrawn (K : PySem.W.Frag) : Sp := fun vs H Q _ => ∃ (a : Addr) (cs : List Int) (b : Int), vs = [.ref a, .int b] ∧ SqL K H a (cs.map V.int) ∧ cs.length ≤ 63 ∧ 0 ≤ b ∧ b < P58 ∧
  ∀ (l : Addr) (ds : List Int) (H' : Hp), ds.Nodup → (∀ g ∈ ds, 0 ≤ g ∧ g < P60) → ds.length ≤ cs.length → Same H H' → H' l = some (.lst (ds.map V.int)) → H l = none → Q (.ref l) H'
def spSett3 (K : PySem.W.Frag) : Sp := fun vs H Q _ => ∃ (a b : Addr) (s : Seats) (ds : List Int), vs = [.ref a, .int (s.length : Int), .ref b] ∧ H a = some (.lst (svs s)) ∧ SqL K H b (ds.map V.int) ∧ s.length ≤ 1024 ∧ Settled s.length (hm s.length) s ∧ (who s).Perm ds ∧ ds.length < 64 ∧ ∀ H', Same H H' → Q (.bl true) H'
def spSame (K : PySem.W.Frag) : Sp := fun vs H Q _ => ∃ (a b : Addr) (s : Seats), vs = [.ref a, .ref b] ∧ H a = some (.lst (svs s)) ∧ H b = some (.lst (svs s)) ∧ ∀ H', Same H H' → Q (.bl true) H'
def spOdd (K : PySem.W.Frag) : Sp := fun vs H Q _ => ∃ c : Int, vs = [.int c] ∧ ∀ x H', Bad K H' x → Same H H' → Q x H'
end Law
theorem PyProof.Rows.boot_ValueError : PySem.bootBuiltins "ValueError" = some (.type "ValueError") := by decide +kernel


set_option linter.all false
set_option maxRecDepth 100000
/-! (a, b, ..) = a list; set(list of ints), len of it; list.insert; a list beside its copy. -/
namespace L2
open PySem PySem.Spec PyProof
theorem unpackItems_list {prog : Program} {w : World} {A : Around} {E : Value → Shared → Prop} {s : Shared} {l : Addr} {items : Array Value} {Q : List Value → Shared → Prop} (hh : A.handled = none) (hl : s.heap.IsList l items)
    (hQ : ∀ h', Heap.ExtBut s.heap.objs.size s.heap h' → Q items.toList { s with heap := h' }) : wpAny (model prog w) A (unpackItems (.ref l) items.size none) Q E s := by
  have hlt : l ≠ s.heap.objs.size := by
    obtain ⟨o, ho, _⟩ := hl
    exact Nat.ne_of_lt (Heap.lt_size ho)
  unfold unpackItems
  refine wpAny_bind ?_
  unfold notIterableAtAll
  refine wpAny_bind (wpAny_specialOf hl.typeIs (Slot.lookup PySem.F.slot_list_iter) (wpAny_pure ?_))
  simp only [Bool.false_eq_true, if_false]
  have hl1 := hl.push { cls := .type "list_iterator", data := .fields #[.ref l, .int 0 0] }
  refine wpAny_bind (wpAny_holding (wpAny_pyIter_list hl (wpAny_bind (wpAny_holding (PySem.W.kun_draw (items := items) hlt items.size 0 _ _ ⟨_, Heap.get?_push_size s.heap rfl, rfl, rfl⟩ hl1 (by omega) fun h' hi hs => ?_)))))
  have hl2 : h'.IsList l items := by
    obtain ⟨o, ho, r⟩ := hl1
    exact ⟨o, by rw [hs.2 l hlt]; exact ho, r⟩
  have e : List.take items.size (List.drop 0 items.toList) = items.toList := by
    rw [List.drop_zero, List.take_of_length_le (by simp)]
  rw [e, if_neg (by simp)]
  refine wpAny_bind (wpAny_holding (wpAny_pyNext_list_end hh hi hl2 (by simp) fun h'' hx => ?_))
  simp only [Option.isSome_none, Bool.false_eq_true, if_false]
  refine wpAny_pure (hQ h'' ?_)
  intro b o hb ho
  refine hx b o hb ?_
  rw [hs.2 b hb]
  exact Heap.get?_push_of_some _ ho
/-- (a, b, ..) = a list of that length -/
def gLst (K : PySem.W.Frag) (n : Nat) (t : TGs) : TG := fun v σ H Q => ∃ a xs, v = .ref a ∧ SqL K H a xs ∧ xs.length = n ∧ t xs σ H Q
section
variable {X : Cx}
theorem pg_lst {es : List Expr} {k : Nat} {t : TGs} {n : Nat} {pos : Pos} (hc : X.calm = true) (h : PGs X es t)
    (hn : (assignEach es X.env).length = n := by rfl) (hst : (assignEach es X.env).findIdx? (·.1) = none := by rfl) : PG X (.Tuple es k pos) (gLst X.K n t) := by
  intro pins s σ H v u Q I r hw
  obtain ⟨a, xs, e1, hq, hl, hw⟩ := hw
  subst e1
  cases r
  obtain ⟨its, rv, ht, hz⟩ := I.list hq
  rw [Rows.assign_Tuple]
  refine wpAny_bind (wpAny_standAt ?_)
  unfold unpack
  rw [hst, show (assignEach es X.env).length = its.toArray.size by simp [hn, ← hl, rv.length]]
  refine wpAny_bind (wpAny_holding (unpackItems_list (I.ok.hd hc) ht.isList fun h' hx => ?_))
  have I1 : Inv X pins σ H { s with heap := h' } := I.kept (t' := s.toks) fun b o e => hx b o (Nat.ne_of_lt (Heap.lt_size e)) e
  exact h pins _ σ H xs _ Q I1 (by simpa using rv) hw
/-- l.insert(i, y) -/
def rInsert : V → List V → Hp → VK → Prop := fun x vs H Q => ∃ l xs i y, x = .ref l ∧ vs = [.int i, y] ∧ H l = some (.lst xs) ∧ 0 ≤ i ∧ i < 2 ^ 62 ∧ xs.length < sizeLine ∧ Q .non (upd H l (.lst (xs.take i.toNat ++ y :: xs.drop i.toNat)))
theorem mt_insert : MtM X "list.insert" rInsert := by
  intro pins s σ H x vs v us Q I rx rv h
  obtain ⟨l, xs, i, y, rfl, rfl, hH, h1, h2, hz, q⟩ := h
  cases rx
  cases rv with
  | cons ri rv =>
    obtain ⟨t, rfl⟩ := ri
    obtain ⟨u, rfl, ru⟩ := Vals.one rv
    obtain ⟨z, its, n, r, hl, e⟩ := I.lstM hH
    have hf : Builtin.List.listFitsIndex i = true := fitsIndex_both (by omega) (by omega)
    refine call_meets F.slot_list_insert ⟨_, e, rfl⟩ F.entry_list_insert (F.args_list_insert_3 _ _ _) (AutoSeq1.list_insert_list_int_val_1 l its.toArray n i t u (by rw [hf]; decide) (by rw [List.size_toArray]; omega)) ⟨e, ?_⟩
    refine ⟨.non, _, I.lset (its' := its.take i.toNat ++ u :: its.drop i.toNat) hH e ?_ ?_ ?_, rfl, q⟩
    · show Array.push (Array.extract its.toArray 0 (if i < 0 then Int.toNat (i + (its.toArray.size : Int)) else min i.toNat its.toArray.size)) u ++ Array.extract its.toArray (if i < 0 then Int.toNat (i + (its.toArray.size : Int)) else min i.toNat its.toArray.size) = _
      rw [if_neg (by omega), List.size_toArray]
      apply Array.toList_inj.mp
      rw [Array.toList_append, Array.toList_push, Array.toList_extract, Array.toList_extract]
      simp only [List.extract_eq_drop_take, List.drop_zero, Nat.sub_zero]
      rw [List.append_assoc, List.singleton_append]
      congr 1
      · rcases Nat.le_total i.toNat its.length with h | h
        · rw [Nat.min_eq_left h]
        · rw [Nat.min_eq_right h, List.take_length, List.take_of_length_le h]
      · congr 1
        rcases Nat.le_total i.toNat its.length with h | h
        · rw [Nat.min_eq_left h, List.take_of_length_le (by rw [List.length_drop]; omega)]
        · rw [Nat.min_eq_right h, List.drop_of_length_le (Nat.le_refl _), List.drop_of_length_le h, List.take_nil]
    · exact (r.take _).append (.cons ru (r.drop _))
    · rw [List.length_append, List.length_cons, List.length_take, List.length_drop]
      omega
theorem dedup_len : ∀ (ns acc : List Int), (ns.foldl Rows.step_dedup acc).length ≤ acc.length + ns.length ∧ ((ns.foldl Rows.step_dedup acc).length = acc.length + ns.length ↔ ns.Nodup ∧ ∀ x ∈ ns, x ∉ acc)
  | [], acc => by simp
  | x :: ns, acc => by
    have ih := dedup_len ns (Rows.step_dedup acc x)
    rw [List.foldl_cons]
    by_cases hx : x ∈ acc
    · have e : Rows.step_dedup acc x = acc := by
        unfold Rows.step_dedup
        rw [if_pos (by simpa using hx)]
      rw [e] at ih ⊢
      refine ⟨by rw [List.length_cons]; omega, ?_⟩
      constructor
      · intro h
        rw [List.length_cons] at h
        omega
      · rintro ⟨_, h⟩
        exact absurd hx (h x (List.mem_cons_self ..))
    · have e : Rows.step_dedup acc x = acc ++ [x] := by
        unfold Rows.step_dedup
        rw [if_neg (by simpa using hx)]
      rw [e] at ih ⊢
      rw [List.length_append] at ih
      have el : [x].length = 1 := rfl
      rw [el] at ih
      rw [List.length_cons]
      refine ⟨by omega, ?_⟩
      have ih2 := ih.2
      rw [show acc.length + (ns.length + 1) = acc.length + 1 + ns.length by omega, ih2, List.nodup_cons]
      constructor
      · rintro ⟨h1, h2⟩
        refine ⟨⟨fun m => h2 x m (List.mem_append.mpr (.inr (List.mem_singleton.mpr rfl))), h1⟩, fun y hy => ?_⟩
        rcases List.mem_cons.mp hy with rfl | hy
        · exact hx
        · exact fun m => h2 y hy (List.mem_append.mpr (.inl m))
      · rintro ⟨⟨h1, h2⟩, h3⟩
        refine ⟨h2, fun y hy m => ?_⟩
        rcases List.mem_append.mp m with m | m
        · exact h3 y (List.mem_cons_of_mem _ hy) m
        · rw [List.mem_singleton.mp m] at hy
          exact h1 hy
theorem range_get (l : List Int) : (List.range l.length).map (fun i => l.getD i 0) = l := by
  refine List.ext_getElem (by rw [List.length_map, List.length_range]) fun i h1 h2 => ?_
  rw [List.getElem_map, List.getElem_range, List.getD_eq_getElem?_getD, List.getElem?_eq_getElem h2]
  rfl
theorem firstMet_len (ns : List Int) : (Rows.firstMet (fun i => ns.getD i 0) ns.length).length ≤ ns.length ∧ ((Rows.firstMet (fun i => ns.getD i 0) ns.length).length = ns.length ↔ ns.Nodup) := by
  unfold Rows.firstMet
  rw [range_get]
  have h := dedup_len ns []
  rw [List.length_nil, Nat.zero_add] at h
  refine ⟨h.1, h.2.trans ⟨fun z => z.1, fun z => ⟨z, fun _ _ m => nomatch m⟩⟩⟩
/-- set(a list of ints) -/
theorem call_setI (hc : X.calm = true) : CallR X (.type "set") (fun xs H Q => ∃ (a : Addr) (ns : List Int), xs = [.ref a] ∧ SqL X.K H a (ns.map V.int) ∧ ns.length ≤ 1024 ∧ ∀ (l : Addr) (S : Int → Bool) (n : Nat), H l = none → (n = ns.length ↔ ns.Nodup) → n ≤ ns.length → Q (.ref l) (upd H l (.set S n))) := by
  intro pins s σ H xs us Q I r h
  obtain ⟨a, ns, rfl, hq, hn, q⟩ := h
  obtain ⟨u, rfl, rx⟩ := vals1 r
  cases rx
  obtain ⟨its, rv, pl, hz⟩ := I.list hq
  have hlen := rv.length
  rw [List.length_map] at hlen
  refine call_set_list (ns := ns) (I.ok.hd hc) pl.isList (intsAre_of_vals rv) (by rw [List.size_toArray, ← hlen]; exact Nat.lt_of_le_of_lt (show ns.length + 1 ≤ 1025 by omega) (by decide)) fun h' tk hS hk => ?_
  rw [show its.toArray.size = ns.length by rw [List.size_toArray, hlen]] at hS
  have f := firstMet_len ns
  exact ⟨.ref s.heap.objs.size, _, I.laid (a := s.heap.objs.size) (o := .set _ _) (t' := tk) (fun b o e => hk b o (Heap.lt_size e) e) (Nat.le_refl _) hS, rfl, q _ _ _ I.fresh f.2 f.1⟩
theorem call_lenS : CallR X (.builtin "len") (fun xs H Q => ∃ (a : Addr) (S : Int → Bool) (n : Nat), xs = [.ref a] ∧ H a = some (.set S n) ∧ Q (.int n) H) := by
  intro pins s σ H xs us Q I r h
  obtain ⟨a, S, n, rfl, hq, q⟩ := h
  obtain ⟨u, rfl, rx⟩ := vals1 r
  cases rx
  have ho : s.heap.SetOf (intKind X.prog X.w) a S n := I.hok a _ hq
  obtain ⟨o, es, ep, t, h1, h2, h3, _, _, h6, h7, h8⟩ := ho
  refine call_len_set h1 h2 h3 h7 (by have : scanBound ≤ 2 ^ 62 := by decide
                                      omega) ⟨.int n, H, I.tok _, ⟨_, by rw [h8]⟩, q⟩
/-- two lists of the same things: ints, None, truths and texts by their worth, all else by itself -/
theorem same_eqAt {A : Around} {s : Shared} {x : V} {u v : Value} (ru : RelV x u) (rv : RelV x v) (h : flatV x = true ∨ ∃ a, x = .ref a) : SeqAt.EqAt A s u v true := by
  rcases h with f | ⟨a, rfl⟩
  · have := eqAt_V (A := A) (s := s) ru rv f f
    have e : eqV x x = true := by cases x <;> simp_all [eqV, flatV]
    rwa [e] at this
  · cases ru
    cases rv
    exact SeqAt.EqAt.same _
def rNeC (K : PySem.W.Frag) : R2 := fun x y H Q => ∃ a b xs, x = .ref a ∧ y = .ref b ∧ SqL K H a xs ∧ SqL K H b xs ∧ (∀ z ∈ xs, flatV z = true ∨ ∃ r, z = .ref r) ∧ Q (.bl false) H
theorem op_neC (hu : X.A.units < cLine) : OpR X (compareOp .NotEq) (rNeC X.K) := by
  intro pins s σ H x y v u Q I rx ry h
  obtain ⟨a, b, xs, rfl, rfl, hx, hy, fx, q⟩ := h
  cases rx
  cases ry
  obtain ⟨its, r, pl, hz⟩ := I.list hx
  obtain ⟨jts, r2, pl2, hz2⟩ := I.list hy
  have l1 := r.length
  have l2 := r2.length
  refine SeqAt.RcNeAt.lists (e := fun j => true) pl.isList pl2.isList (by simp; omega) hu (fun j h1 h2 => ?_) _ _ _ _ ⟨.bl _, H, I, ?_, q⟩
  · have h1' : j < its.length := by simpa using h1
    have h2' : j < jts.length := by simpa using h2
    obtain ⟨u, hu, ru⟩ := r.get (i := j) (x := xs[j]) (by simp [show j < xs.length by omega])
    obtain ⟨v, hv, rv⟩ := r2.get (i := j) (x := xs[j]) (by simp [show j < xs.length by omega])
    have e1 : its.toArray[j] = u := by
      have : its[j]? = some its[j] := List.getElem?_eq_getElem h1'
      rw [this] at hu
      simpa using hu
    have e2 : jts.toArray[j] = v := by
      have : jts[j]? = some jts[j] := List.getElem?_eq_getElem h2'
      rw [this] at hv
      simpa using hv
    rw [e1, e2]
    exact same_eqAt ru rv (fx _ (List.getElem_mem _))
  · show Value.bool _ = Value.bool _
    congr 1
    rw [Bool.not_eq_false', List.all_eq_true]
    exact fun _ _ => rfl
end
end L2


set_option linter.all false
set_option maxRecDepth 100000
namespace L2
section
variable {σ : St} {H : Hp} {K : PySem.W.Frag}
theorem rd_forX {wi : TI} {g : TG} {tb : TSX} {D : Ends} {E : PySem.Value → St → Hp → Prop} (q : wi σ H fun J H1 => ∃ W : Nat → Nat → St → Hp → Prop, (∃ m, W 0 m σ H1) ∧ ∀ i m σ H, W i m σ H →
  (J.stop i H ∧ D.nx σ H) ∨ (J.go i H ∧ ∃ N : St → Hp → Prop, (∀ σ' H', N σ' H' → ∃ m', m' < m ∧ W (i + 1) m' σ' H') ∧ ∀ x H', J.yld i H x H' → g x σ H' fun σ2 H2 => tb { D with nx := N, ct := N, bk := D.nx } E σ2 H2)) : tForX wi g tb D E σ H := q
theorem rd_glst {n : Nat} {t : TGs} {a : PySem.Addr} {xs : List V} {Q : St → Hp → Prop} (h : SqL K H a xs) (hn : xs.length = n) (q : t xs σ H Q) : gLst K n t (.ref a) σ H Q := ⟨a, xs, rfl, h, hn, q⟩
theorem for_listX {a : PySem.Addr} {xs : List V} {g : TG} {B : (St → Hp → Prop) → St → Hp → Prop} {nx : St → Hp → Prop} (Pv : Nat → St → Hp → Prop) (h0 : Pv 0 σ H) (hl : ∀ i σ H, i ≤ xs.length → Pv i σ H → SqL K H a xs)
    (hs : ∀ i x σ H, xs[i]? = some x → Pv i σ H → g x σ H fun σ2 H2 => B (Pv (i + 1)) σ2 H2) (hd : ∀ σ H, Pv xs.length σ H → nx σ H) :
    ∃ W : Nat → Nat → St → Hp → Prop, (∃ m, W 0 m σ H) ∧ ∀ i m σ H, W i m σ H →
      ((Itl K a).stop i H ∧ nx σ H) ∨ ((Itl K a).go i H ∧ ∃ N : St → Hp → Prop, (∀ σ' H', N σ' H' → ∃ m', m' < m ∧ W (i + 1) m' σ' H') ∧ ∀ x H', (Itl K a).yld i H x H' → g x σ H' fun σ2 H2 => B N σ2 H2) :=
  for_list (tb := fun D => B D.nx) (D := { nx := nx, rt := fun _ _ => True }) Pv h0 hl hs hd
end
end L2

local macro_rules | `(tactic| tm_at "rd1") => `(tactic| first
  | ((with_reducible refine L2.rd_forX ?_)))

set_option linter.all false
set_option maxRecDepth 100000
/-! Lists of guests: cut, drawn, one taken out; a stranger is found. -/
namespace Law
open PySem L2 Ring
/-- how many of the guests lie from the i-th number behind s0 on -/
def offs (gs : List Int) (s0 : Int) (i : Nat) : Nat := gs.countP fun d => decide ((i : Int) ≤ (d - s0) % P60)
/-- the cells from the k-th on -/
theorem cut_from (ns : List Int) (k : Nat) (j : Nat) : ((ns.drop (HT.sIx ns.length 0 (some (k : Int)))).take j).length ≤ ns.length - k := by
  rw [HT.sIx_nat, List.length_take, List.length_drop]
  omega
theorem nodup_take {ds : List Int} {k : Nat} (h : ds.Nodup) : (ds.take k).Nodup := h.sublist (List.take_sublist k ds)
theorem take_succ_get {ds : List Int} {i : Nat} {g : Int} (h : ds[i]? = some g) : ds.take (i + 1) = ds.take i ++ [g] := by
  rw [List.take_succ, h]
  rfl
theorem not_in_take {ds : List Int} {i : Nat} {g : Int} (nd : ds.Nodup) (h : ds[i]? = some g) : g ∉ ds.take i := by
  have h1 := nodup_take (k := i + 1) nd
  rw [take_succ_get h] at h1
  intro m
  exact (List.nodup_append.mp h1).2.2 g m g (List.mem_singleton.mpr rfl) rfl
end Law


set_option linter.all false
set_option maxRecDepth 100000
/-! The promises of seated and of law k08's helpers. -/
namespace Law
open PySem L2 Ring
def Gs (ds : List Int) : Prop := ∀ g ∈ ds, 0 ≤ g ∧ g < P60
/-- a list in which something is no guest -/
def BadL (K : PySem.W.Frag) (H : Hp) (xs : List V) : Prop := (∃ x ∈ xs, Bad K H x) ∧ ∀ x ∈ xs, (∃ g : Int, x = .int g ∧ 0 ≤ g ∧ g < P60) ∨ Bad K H x
theorem BadL.same {K : PySem.W.Frag} {H H' : Hp} {xs : List V} (h : BadL K H xs) (s : Same H H') : BadL K H' xs := by
  obtain ⟨⟨x, hx, b⟩, h2⟩ := h
  refine ⟨⟨x, hx, b.same s⟩, fun y hy => ?_⟩
  rcases h2 y hy with z | z
  · exact .inl z
  · exact .inr (z.same s)
def spCheckL (K : PySem.W.Frag) (NG TW FU : Addr) : Sp := fun vs H Q E => (∃ (a : Addr) (xs : List V) (n : Int), vs = [.ref a, .int n] ∧ SqL K H a xs ∧ BadL K H xs ∧ E (.ref NG) none H) ∨
  (∃ (a : Addr) (ds : List Int) (n : Int), vs = [.ref a, .int n] ∧ SqL K H a (ds.map V.int) ∧ Gs ds ∧ ds.length ≤ 1024 ∧ ∀ H', Same H H' → (¬ ds.Nodup → E (.ref TW) none H') ∧ (ds.Nodup → n ≤ (ds.length : Int) → E (.ref FU) none H') ∧ (ds.Nodup → (ds.length : Int) < n → Q .non H'))
def spSeatedF (K : PySem.W.Frag) (NG TW FU : Addr) : Sp := fun vs H Q E => (∃ (a : Addr) (xs : List V) (n : Int), vs = [.ref a, .int n] ∧ SqL K H a xs ∧ BadL K H xs ∧ E (.ref NG) none H) ∨
  (∃ (a : Addr) (ds : List Int) (n : Nat), vs = [.ref a, .int (n : Int)] ∧ SqL K H a (ds.map V.int) ∧ Gs ds ∧ ds.length ≤ 1024 ∧ 2 ≤ n ∧ n ≤ 1024 ∧ ∀ H', Same H H' → (¬ ds.Nodup → E (.ref TW) none H') ∧ (ds.Nodup → n ≤ ds.length → E (.ref FU) none H') ∧
    (ds.Nodup → ds.length < n → ∀ (l : Addr) (t : Seats), H l = none → H' l = some (.lst (svs t)) → Settled n (hm n) t → (who t).Perm ds → Q (.ref l) H'))
def spTurned (K : PySem.W.Frag) : Sp := fun vs H Q _ => ∃ (a c : Addr) (ds cl : List Int), vs = [.ref a, .ref c] ∧ SqL K H a (ds.map V.int) ∧ SqL K H c (cl.map V.int) ∧ ds.length ≤ cl.length ∧ ds.length ≤ 63 ∧ ∀ (l : Addr) (os : List Int) (H' : Hp), Same H H' → H' l = some (.lst (os.map V.int)) → os.Perm ds → Q (.ref l) H'
def spOne (K : PySem.W.Frag) : Sp := fun vs H Q _ => ∃ (a c : Addr) (os cl : List Int) (n : Nat) (b : Int), vs = [.ref a, .int (n : Int), .ref c, .int b] ∧ SqL K H a (os.map V.int) ∧ SqL K H c (cl.map V.int) ∧ os.length ≤ cl.length ∧ Gs os ∧ os.Nodup ∧ os.length + 2 ≤ n ∧ n ≤ 1024 ∧ 0 ≤ b ∧ b < P58 ∧
  ∀ (l : Addr) (t : Seats) (H' : Hp), Same H H' → H' l = some (.lst (svs t)) → Settled n (hm n) t → (who t).Perm os → Q (.ref l) H'
def flr (a b c : Bool) : List Bool := [a, b, c, true]
/-- what is due of a list and a ring -/
def Due (K : PySem.W.Frag) (H : Hp) (xs : List V) (n : Nat) (d1 d2 d3 : Bool) : Prop := (d1 = true ∧ d2 = false ∧ d3 = false ∧ BadL K H xs) ∨
  (d1 = false ∧ ∃ es : List Int, xs = es.map V.int ∧ Gs es ∧ es.length ≤ 1024 ∧ ((d2 = true ∧ d3 = false ∧ ¬ es.Nodup) ∨ (d2 = false ∧ d3 = true ∧ es.Nodup ∧ n ≤ es.length) ∨ (d2 = false ∧ d3 = false)))
theorem Due.same {K : PySem.W.Frag} {H H' : Hp} {xs : List V} {n : Nat} {d1 d2 d3 : Bool} (h : Due K H xs n d1 d2 d3) (s : Same H H') : Due K H' xs n d1 d2 d3 := by
  rcases h with ⟨a, b, c, d⟩ | h
  · exact .inl ⟨a, b, c, d.same s⟩
  · exact .inr h
def spRef08 (K : PySem.W.Frag) : Sp := fun vs H Q _ => ∃ (a : Addr) (xs : List V) (n : Nat) (d1 d2 d3 : Bool), vs = [.ref a, .int (n : Int)] ∧ SqL K H a xs ∧ 2 ≤ n ∧ n ≤ 1024 ∧ Due K H xs n d1 d2 d3 ∧ (d1 = true ∨ d2 = true ∨ d3 = true) ∧ ∀ (l : Addr) (H' : Hp), Same H H' → H' l = some (.lst ((flr d1 d2 d3).map V.bl)) → Q (.ref l) H'
def Fl (xs : List V) : Prop := ∀ z ∈ xs, flatV z = true ∨ ∃ r, z = .ref r
def spOdd2 (K : PySem.W.Frag) : Sp := fun vs H Q _ => ∃ c : Int, vs = [.int c] ∧ ∀ x H', Bad K H' x → Same H H' → (flatV x = true ∨ ∃ r, x = .ref r) → Q x H'
def spSpoil (K : PySem.W.Frag) : Sp := fun vs H Q _ => ∃ (a b : Addr) (ns ds : List Int), vs = [.ref a, .ref b] ∧ SqL K H a (ns.map V.int) ∧ H b = some (.lst (ds.map V.int)) ∧ Gs ds ∧ ds.Nodup ∧ ds.length ≤ 63 ∧
  ∀ (l ls ld : Addr) (xs : List V) (n : Nat) (d1 d2 d3 : Bool) (H' : Hp), Same H H' → H' l = some (.lst [.ref ls, .int (n : Int), .ref ld]) → H' ls = some (.lst xs) → H' ld = some (.lst ([d1, d2, d3].map V.bl)) → 2 ≤ n → n ≤ 1024 → Fl xs → Due K H' xs n d1 d2 d3 → Q (.ref l) H'
theorem ints_fl (ds : List Int) : Fl (ds.map V.int) := fun z hz => by
  obtain ⟨g, _, rfl⟩ := List.mem_map.mp hz
  exact .inl rfl
end Law


set_option linter.all false
namespace L2
open PySem PyProof
theorem entry_itemIter : entryFor table "dict_itemiterator.__iter__" = some Builtin.«dict_keyiterator.__iter__» := by kernel_rfl
end L2


set_option Elab.async false
set_option linter.all false
set_option maxRecDepth 100000
/-! sorted(d), sorted(d.values()); for a, b in d.items(); zip(tuple, list) -/
namespace L2
open PySem PySem.Spec PyProof PyProof.Rows
theorem collect_kdl {prog : Program} {w : World} {A : Around} {E : Value → Shared → Prop} {s : Shared} {T : String} {r d : Addr} {n : Nat} {P : Nat → Value → Prop} {OK : Heap → Prop} {Q : List Value → Shared → Prop}
    (S : PySem.W.KdlSrc prog w T r d n P OK) (hh : A.handled = none) (ok : OK s.heap) (hn : n ≤ sizeLine)
    (hQ : ∀ h' tk (acc : Array Value), (∀ b o, s.heap.get? b = some o → h'.get? b = some o) → s.heap.objs.size < h'.objs.size → ItemsOf P acc n → Q acc.toList { s with heap := h', toks := tk }) : wpAny (model prog w) A (collect (.ref r)) Q E s := by
  obtain ⟨hr, hd⟩ := S.there s.heap ok
  unfold collect
  refine wpAny_bind (wpAny_runValue (codeAny_builtin F.entry_proto_collect ?_))
  rw [Around.under_plainId F.plain_proto_collect]
  unfold Builtin.«proto.collect»
  refine wpAny_bind (wpAny_newList ?_ (by decide))
  refine wpAny_pure ⟨plainId_quiet F.plain_list_iadd _, codeAny_builtin F.entry_list_iadd ?_⟩
  rw [Around.under_plainId F.plain_list_iadd]
  unfold Builtin.«list.__iadd__»
  have ok' : OK (s.heap.push (seqObj "list" #[] 0)) := S.keep s.heap _ ok fun b _ o e => Heap.get?_push_of_some _ e
  refine wpAny_bind (wpAny_pure ?_)
  refine PySem.W.kdl_extend (s := { s with heap := s.heap.push (seqObj "list" #[] 0) }) (R := fun r s' => match r with
      | .ok (.ret v) => wpAny (model prog w) A (match v with
          | .ref a => do
            let o ← load a
            match o.data with
              | .seq xs _ => pure xs.toList
              | _ => unsupported "internal:collect"
          | _ => unsupported "internal:collect") Q E s'
      | .ok _ => False
      | .error e => E e s') S hh ok' s.heap.objs.size (Nat.ne_of_gt hr) (Nat.ne_of_gt hd) _ 0 (Heap.get?_push_size s.heap rfl) (fun h' tk acc c hk hS hi => ?_) hn
  refine wpAny_bind (wpAny_load hS (wpAny_pure ?_))
  refine hQ h' tk acc (fun b o e => hk b o (Nat.ne_of_lt (Heap.lt_size e)) (Heap.get?_push_of_some _ e)) (Heap.lt_size hS) hi
end L2
namespace L2
open PySem PySem.Spec PyProof PyProof.Rows
theorem sorted_kdl {prog : Program} {w : World} {A : Around} {E : Value → Shared → Prop} {s : Shared} {T : String} {r d : Addr} {n : Nat} {P : Nat → Value → Prop} {OK : Heap → Prop} {Q : Value → Shared → Prop} {ns : List Int}
    (S : PySem.W.KdlSrc prog w T r d n P OK) (hh : A.handled = none) (ok : OK s.heap) (hI : ∀ acc : Array Value, ItemsOf P acc n → IntsAre acc.toList ns) (h64 : ns.length < 64) (hn : n = ns.length)
    (h : ∀ (l : Addr) (h' : Heap) (tk : Nat) (out : Array Value) (e : Nat) (ns' : List Int), s.heap.objs.size ≤ l → (∀ b o, s.heap.get? b = some o → h'.get? b = some o) → h'.get? l = some (seqObj "list" out e) → IntsAre out.toList ns' → ns'.Perm ns → ns'.Pairwise (· ≤ ·) → Q (.ref l) { s with heap := h', toks := tk }) :
    wpAny (model prog w) A (call (.builtin "sorted") [.ref r]) Q E s := by
  refine Calls.call_function_entry kind_sorted plain_sorted entry_sorted (args_sorted1 (.ref r)) ?_
  unfold Builtin.sorted
  refine wpAny_bind (wpAny_pure (wpAny_bind ?_))
  refine collect_kdl S hh ok (by rw [hn, sizeLine_eq]; omega) fun h1 tk acc hk hz hi => ?_
  have hI' := hI acc hi
  have hlen : acc.toList.length = ns.length := hI'.length
  refine wpAny_bind (wpAny_newList ?_ (by rw [sizeLine_eq]; omega))
  have hoL := Heap.get?_push_size (o := seqObj "list" acc.toList.toArray 0) h1 rfl
  refine wpAny_bind (wpAny_holding (wpAny_call_entry slot_list_sort ⟨_, hoL, rfl⟩ entry_list_sort ?_ (args_list_sort _)))
  refine list_sort_tree (vs := acc.toList) (n := 0) hoL hI' (by omega) fun out ns' a1 a2 a3 => ⟨.none, rfl, wpAny_pure ⟨_, rfl, ?_⟩⟩
  obtain ⟨e, he⟩ := sortedHeap_at (out := out) hoL
  refine h h1.objs.size _ tk out e ns' (by omega) (fun b o q => ?_) he a1 a2 a3
  have hb := hk b o q
  have hlt := Heap.lt_size hb
  refine Eq.trans (sortedHeap_old (Nat.ne_of_lt hlt) ?_) (Heap.get?_push_of_some _ hb)
  exact Heap.lt_size (Heap.get?_push_of_some _ hb)
section
variable {X : Cx}
theorem dictAt_of {P : Program} {w : World} {H : Hp} {h : Heap} {a : Addr} {kvs : List (Key × V)} (hok : HOk P w H h) (e : H a = some (.dK kvs)) : ∃ (vs : List (Key × Value)) (ep : Nat), (a == sysModules) = false ∧ KV kvs vs ∧ h.DictAt (mixKind P w) a vs ep ∧ h.DictOf (mixKind P w) a vs := by
  obtain ⟨z, hd, vs, rel, dd⟩ := dk_of hok e
  obtain ⟨ep, hat⟩ := dd.dictAt
  exact ⟨vs, ep, hd, rel, hat, dd⟩
theorem KV.at {kvs : List (Key × V)} {vs : List (Key × Value)} (r : KV kvs vs) {j : Nat} {k : Key} {u : Value} (h : vs[j]? = some (k, u)) : ∃ x, kvs[j]? = some (k, x) ∧ RelV x u := by
  induction r generalizing j with
  | nil => cases h
  | cons p rest ih =>
    cases j with
    | zero =>
      rename_i a b _ _
      have e : b = (k, u) := by simpa using h
      refine ⟨a.2, ?_, ?_⟩
      · have : a.1 = k := by rw [p.1, e]
        rw [← this]
        rfl
      · have := p.2
        rw [e] at this
        exact this
    | succ j => exact ih (by simpa using h)
theorem KV.at' {kvs : List (Key × V)} {vs : List (Key × Value)} (r : KV kvs vs) {j : Nat} {k : Key} {x : V} (h : kvs[j]? = some (k, x)) : ∃ u, vs[j]? = some (k, u) ∧ RelV x u := by
  induction r generalizing j with
  | nil => cases h
  | cons p rest ih =>
    cases j with
    | zero =>
      rename_i a b _ _
      have e : a = (k, x) := by simpa using h
      refine ⟨b.2, ?_, ?_⟩
      · have : b.1 = k := by rw [← p.1, e]
        rw [← this]
        rfl
      · have := p.2
        rw [e] at this
        exact this
    | succ j => exact ih (by simpa using h)
/-- the end of a sorted: a new list -/
theorem sorted_end {pins : List (Addr × Obj)} {σ : St} {H : Hp} {s : Shared} {Q : VK} (I : Inv X pins σ H s) {ns : List Int} (h64 : ns.length < 64) (q : ∀ (l : Addr) (ns' : List Int), H l = none → ns'.Perm ns → ns'.Pairwise (· ≤ ·) → Q (.ref l) (upd H l (.lst (ns'.map V.int))))
    (l : Addr) (h' : Heap) (tk : Nat) (out : Array Value) (e : Nat) (ns' : List Int) (hz : s.heap.objs.size ≤ l) (hk : ∀ b o, s.heap.get? b = some o → h'.get? b = some o) (hl : h'.get? l = some (seqObj "list" out e)) (a1 : IntsAre out.toList ns') (a2 : ns'.Perm ns) (a3 : ns'.Pairwise (· ≤ ·)) :
    EP X pins σ Q (.ref l) { s with heap := h', toks := tk } := by
  refine ⟨.ref l, _, I.laid (a := l) (o := .lst (ns'.map V.int)) (t' := tk) hk hz ⟨?_, out.toList, e, vals_ints a1, ?_⟩, rfl, q _ _ (I.hok.fresh hz) a2 a3⟩
  · have h1 := a2.length_eq
    rw [List.length_map]
    exact Nat.le_trans (show ns'.length ≤ 64 by omega) (by decide)
  · rw [Array.toArray_toList]; exact hl
theorem call_sortedD (hc : X.calm = true) : CallR X (.builtin "sorted") (fun xs H Q => ∃ (a : Addr) (kvs : List (Key × V)) (ns : List Int), xs = [.ref a] ∧ H a = some (.dK kvs) ∧ kvs.map (·.1) = ns.map Sum.inl ∧ ns.length < 64 ∧ ∀ (l : Addr) (ns' : List Int), H l = none → ns'.Perm ns → ns'.Pairwise (· ≤ ·) → Q (.ref l) (upd H l (.lst (ns'.map V.int)))) := by
  intro pins s σ H xs us Q I r h
  obtain ⟨a, kvs, ns, rfl, hH, hks, h64, q⟩ := h
  obtain ⟨u, rfl, ru⟩ := vals1 r
  cases ru
  obtain ⟨vs, ep, hd, rel, hat, dd⟩ := dictAt_of I.hok hH
  have hl := rel.length
  have hkl : kvs.length = ns.length := by
    have := congrArg List.length hks
    rwa [List.length_map, List.length_map] at this
  refine sorted_kdl (PySem.W.kdl_dict (knd := mixKind X.prog X.w) (kvs := vs) (ep := ep) hd) (I.ok.hd hc) hat (fun acc hi => ?_) h64 (by omega) (sorted_end I h64 q)
  refine intsAre_of_vals (vals_of_get (by have := hi.1; rw [List.length_map]; simp; omega) fun j x v hx hv => ?_)
  obtain ⟨k, y, hky, his⟩ := hi.2 j v (by rw [← Array.getElem?_toList]; exact hv)
  obtain ⟨z, hz, _⟩ := KV.at rel hky
  have e1 : (kvs.map (·.1))[j]? = some k := by rw [List.getElem?_map, hz]; rfl
  rw [hks, List.getElem?_map] at e1
  rw [List.getElem?_map] at hx
  cases hn : ns[j]? with
  | none => rw [hn] at hx; cases hx
  | some m =>
    rw [hn] at hx e1
    have ek : k = Sum.inl m := (Option.some.inj e1).symm
    have ex : x = .int m := (Option.some.inj hx).symm
    rw [ex]
    rw [ek] at his
    exact kV_of his
/-- sorted(d.values()) -/
def tSortV (td : TE) : TE := fun σ H Q => td σ H fun x H1 => ∃ (a : Addr) (kvs : List (Key × V)) (ns : List Int), x = .ref a ∧ H1 a = some (.dK kvs) ∧ kvs.map (·.2) = ns.map V.int ∧ ns.length < 64 ∧ ∀ (l : Addr) (ns' : List Int), H1 l = none → ns'.Perm ns → ns'.Pairwise (· ≤ ·) → Q (.ref l) (upd H1 l (.lst (ns'.map V.int)))
theorem pe_sortedV {o : Expr} {td : TE} {p apos cpos pos : Pos} (hc : X.calm = true) (hm : X.mg "sorted" = none) (ho : PE X o td) (hg : Gl X "sorted" := by rfl)
    (hbase : attributeBase o "values" X.env (eval o X.env) = eval o X.env := by rfl) (hline : (apos.endLine == cpos.line) = true := by rfl) :
    PE X (.Call (.Name "sorted" p) [.Call (.Attribute o "values" apos) [] [] cpos] [] pos) (tSortV td) := by
  intro pins s σ H Q I h
  refine wpAny_Call_Name_kw (ld_blt I hg hm boot_sorted ?_ (by decide) (by decide))
  refine PyProof.Rows.callWith_builtin1 ?_ (starEach_plain rfl _ _) rfl
  rw [starEach_plain rfl]
  refine Calls.spliced_cons (wpAny_Call_method0_late hbase hline (thn (ho pins s σ H _ I h) fun v s1 ⟨x, H1, I1, r1, a, kvs, ns, ex, hH, hvs, h64, q⟩ => ?_))
  subst ex
  cases r1
  obtain ⟨vs, ep, hd, rel, hat, dd⟩ := dictAt_of I1.hok hH
  obtain ⟨t1, t2⟩ := tyV_is (T := "dict") I1 (show RelV (.ref a) (.ref a) from rfl) (.inr (.inr (.inl ⟨rfl, .inl ⟨kvs, hH⟩⟩)))
  refine ⟨"dict", "dict.values", PySem.F.plainAttrs_dict, PySem.F.slot_dict_values, PySem.F.type_dict_values, t1, t2, Calls.callWith_builtin rfl (PySem.evalArgs_none ?_)⟩
  refine call_meetsIn PySem.F.slot_dict_values dd.typeIs PySem.F.entry_dict_values (PySem.F.args_dict_values_1 _) (meets_dict_values (mixKind X.prog X.w) a hd) ⟨⟨vs, dd⟩, ?_⟩
  refine Calls.spliced_nil ?_
  have I2 : Inv X pins σ H1 { s1 with heap := s1.heap.push { cls := .type "dict_values", data := .fields #[.ref a] } } := I1.kept (t' := s1.toks) fun b o e => Heap.get?_push_of_some _ e
  have hl := rel.length
  have hkl : kvs.length = ns.length := by
    have := congrArg List.length hvs
    rwa [List.length_map, List.length_map] at this
  refine sorted_kdl (s := { s1 with heap := s1.heap.push { cls := .type "dict_values", data := .fields #[.ref a] } }) (PySem.W.kdl_values (knd := mixKind X.prog X.w) (d := a) (r := s1.heap.objs.size) (kvs := vs) (ep := ep)) (I1.ok.hd hc) ⟨⟨_, Heap.get?_push_size s1.heap rfl, rfl, rfl⟩, (PySem.W.kdl_dict (knd := mixKind X.prog X.w) hd).keep s1.heap _ hat fun b _ o e => Heap.get?_push_of_some _ e⟩ (fun acc hi => ?_) h64 (by omega) (sorted_end I2 h64 q)
  refine intsAre_of_vals (vals_of_get (by have := hi.1; rw [List.length_map]; simp; omega) fun j x v hx hv => ?_)
  obtain ⟨k, hky⟩ := hi.2 j v (by rw [← Array.getElem?_toList]; exact hv)
  obtain ⟨z, hz, rz⟩ := KV.at rel hky
  have e1 : (kvs.map (·.2))[j]? = some z := by rw [List.getElem?_map, hz]; rfl
  rw [hvs, hx] at e1
  cases e1
  exact rz
/-- for k, v in d.items(): the dict is not written while the loop walks it, nor later -/
def Iti (a : Addr) (o : Obj) (kvs : List (Key × V)) : It :=
  ⟨fun i H => H a = some (.frz o (.dK kvs)) ∧ i < kvs.length, fun i H v H' => ∃ (t : Addr) (k : Key) (x : V), H t = none ∧ v = .ref t ∧ H' = upd H t (.tup [kV k, x]) ∧ kvs[i]? = some (k, x), fun i H => H a = some (.frz o (.dK kvs)) ∧ kvs.length ≤ i⟩
theorem Inv.freeze {pins : List (Addr × Obj)} {σ : St} {H : Hp} {s : Shared} {a : Addr} {kvs : List (Key × V)} (I : Inv X pins σ H s) (e : H a = some (.dK kvs)) : ∃ o, s.heap.get? a = some o ∧ Inv X pins σ (upd H a (.frz o (.dK kvs))) s := by
  have hok : ObjOk X.prog X.w H s.heap a (.dK kvs) := I.hok a _ e
  obtain ⟨z, hd, vs, rel, dd⟩ := dk_of I.hok e
  obtain ⟨o, ho⟩ : ∃ o, s.heap.get? a = some o := let ⟨q, _, _, hq, _⟩ := dd; ⟨q, hq⟩
  exact ⟨o, ho, d_write (t' := s.toks) I (by rw [e]; exact True.intro) (Heap.SameBut.refl _ _) ⟨_, ho⟩ ⟨ho, hok⟩⟩
theorem turn_items {P : Program} {w : World} {K : PySem.W.Frag} {elts : List Expr} {x1} {tp : Pos} (a it : Addr) (h0 : Heap) (o : Obj) (kvs : List (Key × V)) (vs : List (Key × Value)) (ep : Nat) (hd : (a == sysModules) = false) (hat : h0.DictAt (mixKind P w) a vs ep) (ho : h0.get? a = some o) (rel : KV kvs vs) :
    Turn P w K (.Tuple elts x1 tp) (Iti a o kvs) [it] it (fun i h => ∃ ok ov, IsItemIter h it a i vs.length ep ok ov) where
  mem := by simp
  obj := fun i h st b hb => by
    obtain ⟨ok, ov, he⟩ := st
    rw [List.mem_singleton.mp hb]
    exact ⟨_, he, fun v z => by
      have z' : Data.fields _ = Data.cell v := z
      cases z'⟩
  keep := fun i h h' st k => by
    obtain ⟨ok, ov, he⟩ := st
    exact ⟨ok, ov, k it (by simp) _ he⟩
  item := by
    intro X hP hw hK hc i pins s σ H E I hf st hg
    subst hP hw hK
    obtain ⟨ok, ov, he⟩ := st
    obtain ⟨hH, hi⟩ := hg
    have ha : s.heap.get? a = some o := (show s.heap.get? a = some o ∧ _ from I.hok a _ hH).1
    have hat' : s.heap.DictAt (mixKind X.prog X.w) a vs ep := (PySem.W.kdl_dict (knd := mixKind X.prog X.w) hd).keep h0 s.heap hat fun b hb o' e => by
      have : b = a := hb.elim id id
      subst this
      rw [ho] at e
      cases e
      exact ha
    obtain ⟨u, hu, ru⟩ := KV.at' rel (j := i) (k := kvs[i].1) (x := kvs[i].2) (by rw [List.getElem?_eq_getElem hi])
    refine wpAny_pyNext_items_item he hat' hu fun key h1 his ho1 hT hsz hk => ⟨_, rfl, wpAny_letOwnedTupleGo_items ho1 fun h2 he2 hs2 => ?_⟩
    have hTs : s.heap.objs.size ≠ it := Nat.ne_of_gt (Heap.lt_size he)
    have hk2 : ∀ b u, b ∉ [it] → s.heap.get? b = some u → h2.get? b = some u := fun b u hb q => by
      have hb' : b ≠ it := by simpa using hb
      exact (hs2.2 b hb').trans (hk b u hb' q)
    have hT2 : h2.get? s.heap.objs.size = some { cls := .type "tuple", data := .seq #[key, u] } := (hs2.2 _ hTs).trans hT
    refine ⟨.ref s.heap.objs.size, _, I.turnLaid (t' := s.toks) (T := s.heap.objs.size) (o := .tup [kV kvs[i].1, kvs[i].2]) hf hk2 (Nat.le_refl _) ?_, rfl, ⟨_, kvs[i].1, kvs[i].2, I.fresh, rfl, rfl, by rw [List.getElem?_eq_getElem hi]⟩, ⟨key, u, he2⟩, fun b hb => ?_⟩
    · exact ⟨(by show 2 ≤ sizeLine; decide), [key, u], .cons (kV_of his) (.cons ru .nil), _, hT2, rfl, _, rfl⟩
    · refine (hf b hb).upd ?_
      rw [List.mem_singleton.mp hb]
      exact Nat.ne_of_lt (Heap.lt_size he)
  done := by
    intro X hP hw hK hc i pins s σ H E I hf st hg
    subst hP hw hK
    obtain ⟨ok, ov, he⟩ := st
    obtain ⟨hH, hi⟩ := hg
    have ha : s.heap.get? a = some o := (show s.heap.get? a = some o ∧ _ from I.hok a _ hH).1
    have hat' : s.heap.DictAt (mixKind X.prog X.w) a vs ep := (PySem.W.kdl_dict (knd := mixKind X.prog X.w) hd).keep h0 s.heap hat fun b hb o' e => by
      have : b = a := hb.elim id id
      subst this
      rw [ho] at e
      cases e
      exact ha
    obtain ⟨f0, f1, f2, f3, f4, f5⟩ := hf it (by simp)
    have hl := rel.length
    exact wpAny_pyNext_items_end (I.ok.hd hc) he hat' (List.getElem?_eq_none (by omega)) fun h' eb => ⟨rfl, I.turned (t' := s.toks) (fun b o hb q => eb b o hb q) f0 f1 f3 f4 f5⟩
  self := fun _ _ s _ _ st h => by
    obtain ⟨ok, ov, he⟩ := st
    have ty : s.TypeIs (.ref it) "dict_itemiterator" := ⟨_, he, rfl⟩
    exact wpAny_pyIter_slot ty PySem.F.slot_dict_itemiterator_iter (wpAny_call_entry PySem.F.slot_dict_itemiterator_iter ty entry_itemIter (wpAny_pure ⟨.ref it, rfl, "dict_itemiterator", .builtin "dict_itemiterator.__next__", ty, Slot.lookup PySem.F.slot_dict_itemiterator_next, h⟩) (PySem.F.args_dict_itemiterator_iter_1 (.ref it)))
def iItems (td : TE) : TI := fun σ H R => td σ H fun x H1 => ∃ (a : Addr) (kvs : List (Key × V)), x = .ref a ∧ H1 a = some (.dK kvs) ∧ ∀ o, R (Iti a o kvs) (upd H1 a (.frz o (.dK kvs)))
theorem pi_items {elts : List Expr} {x1} {tp : Pos} {o : Expr} {td : TE} {apos cpos : Pos} (hc : X.calm = true) (ho : PE X o td)
    (hbase : attributeBase o "items" X.env (eval o X.env) = eval o X.env := by rfl) (hline : (apos.endLine == cpos.line) = true := by rfl) :
    PI X (.Tuple elts x1 tp) (.Call (.Attribute o "items" apos) [] [] cpos) (iItems td) := by
  intro pins s σ H R I h
  refine wpAny_Call_method0_late hbase hline (thn (ho pins s σ H _ I h) fun v s1 ⟨x, H1, I1, r1, a, kvs, ex, hH, q⟩ => ?_)
  subst ex
  cases r1
  obtain ⟨vs, ep, hd, rel, hat, dd⟩ := dictAt_of I1.hok hH
  obtain ⟨t1, t2⟩ := tyV_is (T := "dict") I1 (show RelV (.ref a) (.ref a) from rfl) (.inr (.inr (.inl ⟨rfl, .inl ⟨kvs, hH⟩⟩)))
  refine ⟨"dict", "dict.items", PySem.F.plainAttrs_dict, PySem.F.slot_dict_items, PySem.F.type_dict_items, t1, t2, Calls.callWith_builtin rfl (PySem.evalArgs_none ?_)⟩
  refine call_meetsIn PySem.F.slot_dict_items dd.typeIs PySem.F.entry_dict_items (PySem.F.args_dict_items_1 _) (meets_dict_items (mixKind X.prog X.w) a hd) ⟨⟨vs, dd⟩, ?_⟩
  have hat1 := (PySem.W.kdl_dict (knd := mixKind X.prog X.w) (kvs := vs) (ep := ep) hd).keep s1.heap (s1.heap.push { cls := .type "dict_items", data := .fields #[.ref a] }) hat fun b _ o e => Heap.get?_push_of_some _ e
  refine wpAny_pyIter_items (v := s1.heap.objs.size) (d := a) ⟨_, Heap.get?_push_size s1.heap rfl, rfl, rfl⟩ hat1 ?_
  have I2 : Inv X pins σ H1 { s1 with heap := (s1.heap.push { cls := .type "dict_items", data := .fields #[.ref a] }).push { cls := .type "dict_itemiterator", data := .fields #[.none, .bool false, .ref a, .int 0 0, .int (vs.length : Int) 0, .int (ep : Int) 0, .none, .none] } } := I1.kept (t' := s1.toks) fun b o e => Heap.get?_push_of_some _ (Heap.get?_push_of_some _ e)
  obtain ⟨o, ho, I3⟩ := I2.freeze hH
  have hsz : s1.heap.objs.size ≤ (s1.heap.push { cls := .type "dict_items", data := .fields #[.ref a] }).objs.size := by
    rw [size_push']
    exact Nat.le_succ _
  have hat2 := (PySem.W.kdl_dict (knd := mixKind X.prog X.w) (kvs := vs) (ep := ep) hd).keep _ ((s1.heap.push { cls := .type "dict_items", data := .fields #[.ref a] }).push { cls := .type "dict_itemiterator", data := .fields #[.none, .bool false, .ref a, .int 0 0, .int (vs.length : Int) 0, .int (ep : Int) 0, .none, .none] }) hat1 fun b _ o e => Heap.get?_push_of_some _ e
  refine ⟨(s1.heap.push { cls := .type "dict_items", data := .fields #[.ref a] }).objs.size, [(s1.heap.push { cls := .type "dict_items", data := .fields #[.ref a] }).objs.size], _, _, _, rfl, I3, turn_items a _ _ o kvs vs ep hd hat2 ho rel, ⟨.none, .none, Heap.get?_push_size _ rfl⟩, fun b hb => ?_, q o⟩
  rw [List.mem_singleton.mp hb]
  refine I1.fpOk hsz ?_
  have hlt : a < s1.heap.objs.size := let ⟨q, _, _, hq, _⟩ := dd; Heap.lt_size hq
  rw [upd_ne (Ne.symm (Nat.ne_of_lt (Nat.lt_of_lt_of_le hlt hsz)))]
  exact I1.hok.fresh hsz
end
end L2


set_option Elab.async false
set_option linter.all false
set_option maxRecDepth 100000
/-! loops over enumerate(l) and d.items() -/
namespace L2
open PySem PySem.Spec
theorem for_enum {K : PySem.W.Frag} {a : Addr} {xs : List V} {g : TG} {tb : TS} {D : Ends} {σ : St} {H : Hp} (Pv : Nat → St → Hp → Prop) (h0 : Pv 0 σ H) (hx : ∀ i σ H, Pv i σ H → SqL K H a xs)
    (hs : ∀ i x σ H t, xs[i]? = some x → Pv i σ H → H t = none → g (.ref t) σ (upd H t (.tup [.int i, x])) fun σ2 H2 => tb { D with nx := Pv (i + 1), ct := Pv (i + 1), bk := D.nx } σ2 H2) (hd : ∀ σ H, Pv xs.length σ H → D.nx σ H) :
    ∃ W : Nat → Nat → St → Hp → Prop, (∃ m, W 0 m σ H) ∧ ∀ i m σ H, W i m σ H →
      ((Ite K a).stop i H ∧ D.nx σ H) ∨ ((Ite K a).go i H ∧ ∃ N : St → Hp → Prop, (∀ σ' H', N σ' H' → ∃ m', m' < m ∧ W (i + 1) m' σ' H') ∧ ∀ x H', (Ite K a).yld i H x H' → g x σ H' fun σ2 H2 => tb { D with nx := N, ct := N, bk := D.nx } σ2 H2) := by
  refine ⟨fun i m σ H => m = xs.length - i ∧ i ≤ xs.length ∧ Pv i σ H, ⟨xs.length, by simp, Nat.zero_le _, h0⟩, ?_⟩
  rintro i m σ H ⟨rfl, hi, p⟩
  have q1 := hx i σ H p
  by_cases hlt : i < xs.length
  · refine .inr ⟨⟨xs, xs[i], q1, by simp [hlt]⟩, Pv (i + 1), fun σ' H' p' => ⟨xs.length - (i + 1), by omega, rfl, hlt, p'⟩, fun x H' y => ?_⟩
    obtain ⟨t, x1, hn, rfl, rfl, e1⟩ := y
    exact hs i x1 σ H t (e1 xs q1) p hn
  · have e : i = xs.length := by omega
    subst e
    exact .inl ⟨⟨xs, q1, Nat.le_refl _⟩, hd σ H p⟩
theorem for_items {a : Addr} {o : Obj} {kvs : List (Key × V)} {g : TG} {tb : TS} {D : Ends} {σ : St} {H : Hp} (Pv : Nat → St → Hp → Prop) (h0 : Pv 0 σ H) (hx : ∀ i σ H, Pv i σ H → H a = some (.frz o (.dK kvs)))
    (hs : ∀ i k x σ H t, kvs[i]? = some (k, x) → Pv i σ H → H t = none → g (.ref t) σ (upd H t (.tup [kV k, x])) fun σ2 H2 => tb { D with nx := Pv (i + 1), ct := Pv (i + 1), bk := D.nx } σ2 H2) (hd : ∀ σ H, Pv kvs.length σ H → D.nx σ H) :
    ∃ W : Nat → Nat → St → Hp → Prop, (∃ m, W 0 m σ H) ∧ ∀ i m σ H, W i m σ H →
      ((Iti a o kvs).stop i H ∧ D.nx σ H) ∨ ((Iti a o kvs).go i H ∧ ∃ N : St → Hp → Prop, (∀ σ' H', N σ' H' → ∃ m', m' < m ∧ W (i + 1) m' σ' H') ∧ ∀ x H', (Iti a o kvs).yld i H x H' → g x σ H' fun σ2 H2 => tb { D with nx := N, ct := N, bk := D.nx } σ2 H2) := by
  refine ⟨fun i m σ H => m = kvs.length - i ∧ i ≤ kvs.length ∧ Pv i σ H, ⟨kvs.length, by simp, Nat.zero_le _, h0⟩, ?_⟩
  rintro i m σ H ⟨rfl, hi, p⟩
  have q1 := hx i σ H p
  by_cases hlt : i < kvs.length
  · refine .inr ⟨⟨q1, hlt⟩, Pv (i + 1), fun σ' H' p' => ⟨kvs.length - (i + 1), by omega, rfl, hlt, p'⟩, fun x H' y => ?_⟩
    obtain ⟨t, k, x1, hn, rfl, rfl, e1⟩ := y
    exact hs i k x1 σ H t e1 p hn
  · have e : i = kvs.length := by omega
    subst e
    exact .inl ⟨⟨q1, Nat.le_refl _⟩, hd σ H p⟩
end L2


set_option Elab.async false
set_option linter.all false
set_option maxRecDepth 100000
/-! zip(t, m) of a tuple and a list -/
namespace L2
open PySem PySem.Spec PyProof PyProof.Rows
section
variable {prog : Program} {w : World} {A : Around} {E : Value → Shared → Prop} {s : Shared}
theorem nextOf_tup {j t : Addr} {i : Nat} {xs : Array Value} {x : Value} {Q : Value → Shared → Prop} (g : IsTupIter s.heap j t i) (ht : IsTup s.heap t xs) (hx : xs[i]? = some x)
    (q : ∀ h', IsTupIter h' j t (i + 1) → Heap.SameBut j s.heap h' → Q x { s with heap := h' }) : wpAny (model prog w) A (Builtin.SmallTypes.nextOf (.ref j)) Q E s := by
  obtain ⟨o, ho, oc, od⟩ := id g
  obtain ⟨o2, ho2, _, n2, od2⟩ := ht
  unfold Builtin.SmallTypes.nextOf
  refine wpAny_bind (wpAny_callSpecial?_slot (name := Str.ofString "__next__") g.typeIs slot_tupleiter_next (wpAny_call_entry slot_tupleiter_next g.typeIs entry_tupleiter_next ?_ (args_tupleiter_next _)))
  show wpAny _ _ (field (.ref j) 0 >>= _) _ _ s
  refine wpAny_bind (wpAny_field ho od (x := .ref t) rfl ?_)
  show wpAny _ _ (if (Value.ref t == Value.none) = true then _ else _) _ _ s
  rw [if_neg (show ¬ ((Value.ref t == Value.none) = true) from Bool.false_ne_true)]
  show wpAny _ _ (field (.ref j) 1 >>= _) _ _ s
  refine wpAny_bind (wpAny_field ho od (x := .int i 0) rfl ?_)
  show wpAny _ _ (seqItems? (.ref t) >>= _) _ _ s
  refine wpAny_bind (wpAny_seqItems ho2 od2 ?_)
  simp only [Int.toNat_natCast, hx]
  refine wpAny_bind (wpAny_setField ho od (by simp) (wpAny_pure ⟨x, rfl, wpAny_pure (q _ ?_ (Heap.SameBut.update ..))⟩))
  exact ⟨_, Heap.get?_update_self _ ho (Obj.isFreed_of_fields (Obj.data_mapFields od _)), (Obj.cls_mapFields ..).trans oc, by rw [Obj.data_mapFields od]; simp [rawInt]⟩
theorem nextOf_tup_end {j t : Addr} {i : Nat} {xs : Array Value} {Q : Value → Shared → Prop} (hh : A.handled = none) (g : IsTupIter s.heap j t i) (ht : IsTup s.heap t xs) (hx : xs[i]? = none)
    (q : ∀ h' e, Heap.ExtBut j s.heap h' → (∃ o, h'.get? e = some o ∧ o.cls = .type "StopIteration") → E (.ref e) { s with heap := h' }) : wpAny (model prog w) A (Builtin.SmallTypes.nextOf (.ref j)) Q E s := by
  obtain ⟨o, ho, oc, od⟩ := id g
  obtain ⟨o2, ho2, _, n2, od2⟩ := ht
  unfold Builtin.SmallTypes.nextOf
  refine wpAny_bind (wpAny_callSpecial?_slot (name := Str.ofString "__next__") g.typeIs slot_tupleiter_next (wpAny_call_entry slot_tupleiter_next g.typeIs entry_tupleiter_next ?_ (args_tupleiter_next _)))
  show wpAny _ _ (field (.ref j) 0 >>= _) _ _ s
  refine wpAny_bind (wpAny_field ho od (x := .ref t) rfl ?_)
  show wpAny _ _ (if (Value.ref t == Value.none) = true then _ else _) _ _ s
  rw [if_neg (show ¬ ((Value.ref t == Value.none) = true) from Bool.false_ne_true)]
  show wpAny _ _ (field (.ref j) 1 >>= _) _ _ s
  refine wpAny_bind (wpAny_field ho od (x := .int i 0) rfl ?_)
  show wpAny _ _ (seqItems? (.ref t) >>= _) _ _ s
  refine wpAny_bind (wpAny_seqItems ho2 od2 ?_)
  simp only [Int.toNat_natCast, hx]
  refine wpAny_bind (wpAny_rule (wpAny_bind (wpAny_setField ho od (by simp) ?_)))
  show wpAny _ _ (newExc (.type "StopIteration") [] >>= _) _ _ _
  refine wpAny_bind ?_
  simp only [newExc, newTuple]
  refine wpAny_bind (wpAny_newObj_type ?_ (by size_fits))
  refine wpAny_bind (m := firstArgMember _ _) (wpAny_of_eq (a := Value.none) (by first | rfl | (simp only [firstArgMember]; rfl)) ?_)
  refine wpAny_newObj_type ?_ (by size_fits)
  simp only [raiseNew]
  refine wpAny_bind (wpAny_handled ?_)
  first | rw [show A.in1.handled = none from hh] | rw [hh]
  exact wpAny_bind (wpAny_pure (wpAny_throw (q _ _ (((Heap.SameBut.update ..).extBut.push _).push _) ⟨_, Heap.get?_push_size _ rfl, rfl⟩)))
theorem zipT_item {z TI TO i1 i2 l1 l2 : Addr} {k1 k2 : Nat} {xs ys : Array Value} {x y a b : Value} {Q : Value → Shared → Prop} (D : ZipApart z TI TO i1 i2 l1 l2)
    (hz : IsZip s.heap z TI TO .none) (pI : IsPair s.heap TI (.ref i1) (.ref i2)) (pO : IsPair s.heap TO a b) (g1 : IsTupIter s.heap i1 l1 k1) (g2 : s.heap.IsListIter i2 l2 k2) (t1 : IsTup s.heap l1 xs) (t2 : s.heap.IsList l2 ys)
    (hx : xs[k1]? = some x) (hy : ys[k2]? = some y)
    (q : ∀ h', IsZip h' z TI TO (rawInt s.heap.objs.size) → IsPair h' TO x y → IsTupIter h' i1 l1 (k1 + 1) → h'.IsListIter i2 l2 (k2 + 1) → IsPair h' s.heap.objs.size x y → h'.objs.size = s.heap.objs.size + 1 →
      (∀ c o, c ≠ z → c ≠ TO → c ≠ i1 → c ≠ i2 → s.heap.get? c = some o → h'.get? c = some o) → Q (.ref s.heap.objs.size) { s with heap := h' }) :
    wpAny (model prog w) A (Builtin.«zip.__next__» ⟨[.ref z], []⟩) (fun fin s' => ∃ v, fin = .done (.ret v) ∧ Q v s') E s := by
  show wpAny _ _ (field (.ref z) 2 >>= _) _ _ _
  refine wpAny_bind (wpAny_field hz rfl (x := .bool false) rfl ?_)
  show wpAny _ _ (field (.ref z) 3 >>= _) _ _ _
  refine wpAny_bind (wpAny_field hz rfl (x := .ref TI) rfl ?_)
  refine wpAny_bind (wpAny_seqItems pI rfl ?_)
  show wpAny _ _ (Builtin.SmallTypes.ownedTupleIsFree (.ref z) >>= _) _ _ _
  refine wpAny_bind ?_
  unfold Builtin.SmallTypes.ownedTupleIsFree
  refine wpAny_bind (wpAny_field hz rfl (x := .none) rfl (wpAny_pure ?_))
  simp only [if_true]
  refine wpAny_bind (wpAny_rule (wpAny_bind (wpAny_field hz rfl (x := .ref TO) rfl ?_)))
  refine wpAny_bind (wpAny_setField_rec hz (by simp) fun ha hza sa => ?_)
  replace hza : IsZip ha z TI TO .ellipsis := hza
  refine wpAny_bind ?_
  simp only [List.zipIdx_cons, List.zipIdx_nil, List.forIn_cons, List.forIn_nil]
  refine wpAny_bind (wpAny_bind (wpAny_onRaise ?_))
  show wpAny _ _ (Builtin.SmallTypes.nextOf (.ref i1) >>= _) _ _ _
  refine wpAny_bind (nextOf_tup (g1.extBut sa.extBut D.i1z) (t1.extBut sa.extBut D.l1z) hx fun hb gb sb => wpAny_pure ?_)
  have pb : IsPair hb TO a b := sb.extBut _ _ D.TOi1 (sa.extBut _ _ D.TOz pO)
  refine wpAny_bind (wpAny_seqItems pb rfl (wpAny_bind (wpAny_updateSeq_pair pb fun hc pc sc => ?_)))
  replace pc : IsPair hc TO x b := pc
  refine wpAny_bind (wpAny_letGo (wpAny_pure (wpAny_bind (wpAny_bind (wpAny_onRaise ?_)))))
  show wpAny _ _ (Builtin.SmallTypes.nextOf (.ref i2) >>= _) _ _ _
  refine wpAny_bind (wpAny_nextOf_list_item (((g2.extBut sa.extBut D.i2z).extBut sb.extBut D.i12.symm).extBut sc.extBut D.TOi2.symm) (((t2.extBut sa.extBut D.l2z).extBut sb.extBut D.l2i1).extBut sc.extBut D.l2TO) hy fun hd gd sd => wpAny_pure ?_)
  have pd : IsPair hd TO x b := sd.extBut _ _ D.TOi2 pc
  refine wpAny_bind (wpAny_seqItems pd rfl (wpAny_bind (wpAny_updateSeq_pair pd fun he pe se => ?_)))
  replace pe : IsPair he TO x y := pe
  refine wpAny_bind (wpAny_letGo (wpAny_pure (wpAny_pure (wpAny_bind (wpAny_seqItems pe rfl (wpAny_bind (wpAny_newTuple ?_)))))))
  have zs : he.objs.size = s.heap.objs.size := by rw [se.1, sd.1, sc.1, sb.1, sa.1]
  have ze : IsZip he z TI TO .ellipsis := se.extBut _ _ D.TOz.symm (sd.extBut _ _ D.i2z.symm (sc.extBut _ _ D.TOz.symm (sb.extBut _ _ D.i1z.symm hza)))
  have ke : ∀ c o, c ≠ z → c ≠ TO → c ≠ i1 → c ≠ i2 → s.heap.get? c = some o → he.get? c = some o := fun c o c1 c2 c3 c4 e => se.extBut _ _ c2 (sd.extBut _ _ c4 (sc.extBut _ _ c2 (sb.extBut _ _ c3 (sa.extBut _ _ c1 e))))
  have e1 : IsTupIter he i1 l1 (k1 + 1) := ((gb.extBut sc.extBut D.TOi1.symm).extBut sd.extBut D.i12).extBut se.extBut D.TOi1.symm
  have e2 : he.IsListIter i2 l2 (k2 + 1) := gd.extBut se.extBut D.TOi2.symm
  have lz : z < he.objs.size := Heap.lt_size ze
  show wpAny _ _ (Builtin.SmallTypes.ownedTupleHandOut (.ref z) (.ref he.objs.size) >>= _) _ _ _
  refine wpAny_bind ?_
  unfold Builtin.SmallTypes.ownedTupleHandOut
  have zf : IsZip (he.push { cls := .type "tuple", data := .seq #[x, y] }) z TI TO .ellipsis := Heap.get?_push_of_some _ ze
  refine wpAny_bind (wpAny_setField_rec zf (by simp) fun hg zg sg => ?_)
  replace zg : IsZip hg z TI TO (rawInt he.objs.size) := zg
  refine wpAny_setField_rec zg (by simp) fun hk zk sk => ?_
  replace zk : IsZip hk z TI TO (rawInt he.objs.size) := zk
  have up : ∀ c o, c ≠ z → he.get? c = some o → hk.get? c = some o := fun c o c1 e => sk.extBut _ _ c1 (sg.extBut _ _ c1 (Heap.get?_push_of_some _ e))
  have tk : IsPair hk he.objs.size x y := sk.extBut _ _ (Nat.ne_of_gt lz) (sg.extBut _ _ (Nat.ne_of_gt lz) (Heap.get?_push_size _ rfl))
  have zk8 : hk.objs.size = he.objs.size + 1 := by rw [sk.1, sg.1, Heap.size_push]
  rw [zs] at zk tk zk8
  refine wpAny_pure ⟨_, rfl, ?_⟩
  show Q (.ref he.objs.size) _
  rw [zs]
  refine q hk zk (up _ _ D.TOz pe) ?_ (e2.at fun o e => up _ o D.i2z e) tk zk8 fun c o c1 c2 c3 c4 e => up c o c1 (ke c o c1 c2 c3 c4 e)
  obtain ⟨o, ho, r⟩ := e1
  exact ⟨o, up _ o D.i1z ho, r⟩
theorem zipT_end {z TI TO i1 i2 l1 l2 : Addr} {k1 : Nat} {xs : Array Value} {a b : Value} {Q : Fin → Shared → Prop} (hh : A.handled = none) (D : ZipApart z TI TO i1 i2 l1 l2)
    (hz : IsZip s.heap z TI TO .none) (pI : IsPair s.heap TI (.ref i1) (.ref i2)) (pO : IsPair s.heap TO a b) (g1 : IsTupIter s.heap i1 l1 k1) (t1 : IsTup s.heap l1 xs) (hx : xs[k1]? = none)
    (q : ∀ h' e, (∀ c o, c ≠ z → c ≠ TO → c ≠ i1 → c ≠ i2 → s.heap.get? c = some o → h'.get? c = some o) → (∃ o, h'.get? e = some o ∧ o.cls = .type "StopIteration") → E (.ref e) { s with heap := h' }) :
    wpAny (model prog w) A (Builtin.«zip.__next__» ⟨[.ref z], []⟩) Q E s := by
  show wpAny _ _ (field (.ref z) 2 >>= _) _ _ _
  refine wpAny_bind (wpAny_field hz rfl (x := .bool false) rfl ?_)
  show wpAny _ _ (field (.ref z) 3 >>= _) _ _ _
  refine wpAny_bind (wpAny_field hz rfl (x := .ref TI) rfl ?_)
  refine wpAny_bind (wpAny_seqItems pI rfl ?_)
  show wpAny _ _ (Builtin.SmallTypes.ownedTupleIsFree (.ref z) >>= _) _ _ _
  refine wpAny_bind ?_
  unfold Builtin.SmallTypes.ownedTupleIsFree
  refine wpAny_bind (wpAny_field hz rfl (x := .none) rfl (wpAny_pure ?_))
  simp only [if_true]
  refine wpAny_bind (wpAny_rule (wpAny_bind (wpAny_field hz rfl (x := .ref TO) rfl ?_)))
  refine wpAny_bind (wpAny_setField_rec hz (by simp) fun ha hza sa => ?_)
  replace hza : IsZip ha z TI TO .ellipsis := hza
  refine wpAny_bind ?_
  simp only [List.zipIdx_cons, List.zipIdx_nil, List.forIn_cons, List.forIn_nil]
  refine wpAny_bind (wpAny_bind (wpAny_onRaise ?_))
  show wpAny _ _ (Builtin.SmallTypes.nextOf (.ref i1) >>= _) _ _ _
  refine wpAny_bind (nextOf_tup_end hh (g1.extBut sa.extBut D.i1z) (t1.extBut sa.extBut D.l1z) hx fun hb e sb he => ?_)
  obtain ⟨oe, hoe, hce⟩ := he
  have zb : IsZip hb z TI TO .ellipsis := sb _ _ D.i1z.symm hza
  have ez : e ≠ z := fun n => by subst n; rw [zb] at hoe; cases hoe; simp at hce
  exact wpAny_setField_rec zb (by simp) fun hc _ sc => q hc e (fun c o c1 _ c3 _ n => sc.extBut _ _ c1 (sb _ _ c3 (sa.extBut _ _ c1 n))) ⟨oe, sc.extBut _ _ ez hoe, hce⟩
theorem next_zipT_item {z TI TO i1 i2 l1 l2 : Addr} {k1 k2 : Nat} {xs ys : Array Value} {x y a b : Value} {Q : Option Value → Shared → Prop} (D : ZipApart z TI TO i1 i2 l1 l2)
    (hz : IsZip s.heap z TI TO .none) (pI : IsPair s.heap TI (.ref i1) (.ref i2)) (pO : IsPair s.heap TO a b) (g1 : IsTupIter s.heap i1 l1 k1) (g2 : s.heap.IsListIter i2 l2 k2) (t1 : IsTup s.heap l1 xs) (t2 : s.heap.IsList l2 ys)
    (hx : xs[k1]? = some x) (hy : ys[k2]? = some y)
    (q : ∀ h', IsZip h' z TI TO (rawInt s.heap.objs.size) → IsPair h' TO x y → IsTupIter h' i1 l1 (k1 + 1) → h'.IsListIter i2 l2 (k2 + 1) → IsPair h' s.heap.objs.size x y → h'.objs.size = s.heap.objs.size + 1 →
      (∀ c o, c ≠ z → c ≠ TO → c ≠ i1 → c ≠ i2 → s.heap.get? c = some o → h'.get? c = some o) → Q (some (.ref s.heap.objs.size)) { s with heap := h' }) :
    wpAny (model prog w) A (pyNext (.ref z)) Q E s := by
  have ty : s.TypeIs (.ref z) "zip" := ⟨_, hz, rfl⟩
  unfold pyNext
  exact wpAny_bind (wpAny_attempt (wpAny_callSpecial?_slot (name := Str.ofString "__next__") ty PySem.F.slot_zip_next (wpAny_call_entry PySem.F.slot_zip_next ty PySem.F.entry_zip_next
      (zipT_item D hz pI pO g1 g2 t1 t2 hx hy fun h' a1 a2 a3 a4 a5 a6 a7 => wpAny_pure (q h' a1 a2 a3 a4 a5 a6 a7)) (PySem.F.args_zip_next_1 _))))
theorem next_zipT_end {z TI TO i1 i2 l1 l2 : Addr} {k1 : Nat} {xs : Array Value} {a b : Value} {Q : Option Value → Shared → Prop} (hh : A.handled = none) (D : ZipApart z TI TO i1 i2 l1 l2)
    (hz : IsZip s.heap z TI TO .none) (pI : IsPair s.heap TI (.ref i1) (.ref i2)) (pO : IsPair s.heap TO a b) (g1 : IsTupIter s.heap i1 l1 k1) (t1 : IsTup s.heap l1 xs) (hx : xs[k1]? = none)
    (q : ∀ h', (∀ c o, c ≠ z → c ≠ TO → c ≠ i1 → c ≠ i2 → s.heap.get? c = some o → h'.get? c = some o) → Q none { s with heap := h' }) : wpAny (model prog w) A (pyNext (.ref z)) Q E s := by
  have ty : s.TypeIs (.ref z) "zip" := ⟨_, hz, rfl⟩
  unfold pyNext
  refine wpAny_bind (wpAny_attempt (wpAny_callSpecial?_slot (name := Str.ofString "__next__") ty PySem.F.slot_zip_next (wpAny_call_entry PySem.F.slot_zip_next ty PySem.F.entry_zip_next
      (zipT_end hh D hz pI pO g1 t1 hx fun h' e hk he => ?_) (PySem.F.args_zip_next_1 _))))
  obtain ⟨o, ho, hc⟩ := he
  exact wpAny_bind (wpAny_isInstance (T := "StopIteration") (b := true) ⟨o, ho, hc⟩ isSubtype_stop (wpAny_pure (q _ hk)))
end
abbrev zTa (h : Heap) (l : Addr) : Heap := h.push { cls := .type "tuple_iterator", data := .fields #[.ref l, .int 0 0] }
abbrev zTb (h : Heap) (l m : Addr) : Heap := (zTa h l).push { cls := .type "list_iterator", data := .fields #[.ref m, .int 0 0] }
abbrev zTc (h : Heap) (l m : Addr) : Heap := (zTb h l m).push { cls := .type "tuple", data := .seq #[.ref h.objs.size, .ref (zTa h l).objs.size] }
abbrev zTd (h : Heap) (l m : Addr) : Heap := (zTc h l m).push { cls := .type "tuple", data := .seq #[.none, .none] }
abbrev zTe (h : Heap) (l m : Addr) : Heap := (zTd h l m).push { cls := .type "zip", data := .fields #[.none, .bool false, .bool false, .ref (zTb h l m).objs.size, .ref (zTc h l m).objs.size] }
theorem meets_zipT (l m : Addr) (xs ys : Array Value) : Meets (Builtin.«zip.__new__» ⟨[.type "zip", .ref l, .ref m], []⟩) (fun _ R s => IsTup s.heap l xs ∧ s.heap.IsList m ys ∧ R (.ok (.ret (.ref (zTd s.heap l m).objs.size))) { s with heap := zTe s.heap l m }) :=
  .of_wp fun prog w A R s h => by
    obtain ⟨hp, g, d, tk, os⟩ := s
    obtain ⟨h1, h2, h⟩ := h
    have hsub := sub_zip
    have L1 : IsTup (Shared.heap ⟨hp, g, d, tk, os⟩) l xs := h1
    have L2 : Heap.IsList (Shared.heap ⟨hp.push { cls := .type "tuple_iterator", data := .fields #[.ref l, .int 0 0] }, g, d, tk, os⟩) m ys := Heap.IsList.push h2 _
    wp_walk using iter_tuple L1, wpAny_pyIter_list L2
    exact ⟨_, rfl, h⟩
theorem call_zipT {prog : Program} {w : World} {A : Around} {E : Value → Shared → Prop} {s : Shared} {l m : Addr} {xs ys : Array Value} {Q : Value → Shared → Prop} (h1 : IsTup s.heap l xs) (h2 : s.heap.IsList m ys)
    (q : ∀ h', IsZip h' (s.heap.objs.size + 4) (s.heap.objs.size + 2) (s.heap.objs.size + 3) .none → IsPair h' (s.heap.objs.size + 2) (.ref s.heap.objs.size) (.ref (s.heap.objs.size + 1)) →
      IsPair h' (s.heap.objs.size + 3) .none .none → IsTupIter h' s.heap.objs.size l 0 → h'.IsListIter (s.heap.objs.size + 1) m 0 → (∀ c o, s.heap.get? c = some o → h'.get? c = some o) → Q (.ref (s.heap.objs.size + 4)) { s with heap := h' }) :
    wpAny (model prog w) A (call (.type "zip") [.ref l, .ref m]) Q E s := by
  refine callType_new PySem.F.called_zip (by decide) (PySem.F.typeCall_zip_2 _ _) (PySem.F.newCall_zip_2 _ _) (fun obj => PySem.F.args_object_init_3 obj _ _) PySem.F.entry_zip_new (meets_zipT l m xs ys) ⟨h1, h2, ?_⟩
  have z1 : (zTa s.heap l).objs.size = s.heap.objs.size + 1 := Heap.size_push ..
  have z2 : (zTb s.heap l m).objs.size = s.heap.objs.size + 2 := by rw [Heap.size_push, z1]
  have z3 : (zTc s.heap l m).objs.size = s.heap.objs.size + 3 := by rw [Heap.size_push, z2]
  have z4 : (zTd s.heap l m).objs.size = s.heap.objs.size + 4 := by rw [Heap.size_push, z3]
  have w5 : (zTe s.heap l m).get? (zTd s.heap l m).objs.size = some _ := Heap.get?_push_size _ rfl
  have w4 : (zTe s.heap l m).get? (zTc s.heap l m).objs.size = some _ := Heap.get?_push_of_some _ (Heap.get?_push_size _ rfl)
  have w3 : (zTe s.heap l m).get? (zTb s.heap l m).objs.size = some _ := Heap.get?_push_of_some _ (Heap.get?_push_of_some _ (Heap.get?_push_size _ rfl))
  have w2 : (zTe s.heap l m).get? (zTa s.heap l).objs.size = some _ := Heap.get?_push_of_some _ (Heap.get?_push_of_some _ (Heap.get?_push_of_some _ (Heap.get?_push_size _ rfl)))
  have w1 : (zTe s.heap l m).get? s.heap.objs.size = some _ := Heap.get?_push_of_some _ (Heap.get?_push_of_some _ (Heap.get?_push_of_some _ (Heap.get?_push_of_some _ (Heap.get?_push_size _ rfl))))
  show _ ∧ _
  rw [z2, z3, z4] at w5
  rw [z1, z2] at w3
  rw [z3] at w4
  rw [z1] at w2
  rw [z4]
  exact ⟨⟨_, w5, rfl⟩, q _ w5 w3 w4 ⟨_, w1, rfl, rfl⟩ ⟨_, w2, rfl, rfl⟩ fun c o n => Heap.get?_push_of_some _ (Heap.get?_push_of_some _ (Heap.get?_push_of_some _ (Heap.get?_push_of_some _ (Heap.get?_push_of_some _ n))))⟩
def ItzT (K : PySem.W.Frag) (a b : Addr) : It :=
  ⟨fun i H => ∃ xs x ys y, SqT K H a xs ∧ xs[i]? = some x ∧ SqL K H b ys ∧ ys[i]? = some y, fun i H v H' => ∃ t x y, H t = none ∧ v = .ref t ∧ H' = upd H t (.tup [x, y]) ∧ (∀ xs, SqT K H a xs → xs[i]? = some x) ∧ ∀ ys, SqL K H b ys → ys[i]? = some y,
    fun i H => ∃ xs, SqT K H a xs ∧ xs.length ≤ i⟩
theorem turn_zipT {P : Program} {w : World} {K : PySem.W.Frag} {elts : List Expr} {x1} {tp : Pos} {z TI TO i1 i2 l1 l2 : Addr} (D : ZipApart z TI TO i1 i2 l1 l2) :
    Turn P w K (.Tuple elts x1 tp) (ItzT K l1 l2) [z, TI, TO, i1, i2] z (fun i h => IsZip h z TI TO .none ∧ IsPair h TI (.ref i1) (.ref i2) ∧ (∃ a b, IsPair h TO a b) ∧ IsTupIter h i1 l1 i ∧ h.IsListIter i2 l2 i) where
  mem := by simp
  obj := fun i h st b hb => by
    obtain ⟨hz, hTI, ⟨a, b', hTO⟩, ⟨o1, ho1, _, d1⟩, ⟨o2, ho2, _, d2⟩⟩ := st
    simp only [List.mem_cons, List.not_mem_nil, or_false] at hb
    rcases hb with rfl | rfl | rfl | rfl | rfl
    · exact ⟨_, hz, fun v q => by have q' : Data.fields _ = Data.cell v := q; cases q'⟩
    · exact ⟨_, hTI, fun v q => by have q' : Data.seq _ _ = Data.cell v := q; cases q'⟩
    · exact ⟨_, hTO, fun v q => by have q' : Data.seq _ _ = Data.cell v := q; cases q'⟩
    · exact ⟨o1, ho1, fun v q => by rw [d1] at q; cases q⟩
    · exact ⟨o2, ho2, fun v q => by rw [d2] at q; cases q⟩
  keep := fun i h h' st k => by
    obtain ⟨hz, hTI, ⟨a, b', hTO⟩, ⟨o1, ho1, r1⟩, h2⟩ := st
    exact ⟨k z (by simp) _ hz, k TI (by simp) _ hTI, ⟨a, b', k TO (by simp) _ hTO⟩, ⟨o1, k i1 (by simp) _ ho1, r1⟩, h2.at fun o q => k i2 (by simp) o q⟩
  item := by
    intro X hP hw hK hc i pins s σ H E I hf st hg
    subst hP hw hK
    obtain ⟨hz, hTI, ⟨a, b', hTO⟩, h1, h2⟩ := st
    obtain ⟨xs, x, ys, y, hq, hx, hr, hy⟩ := hg
    obtain ⟨its, rv, p, hz1⟩ := I.tuple hq
    obtain ⟨u, hu, ru⟩ := rv.get hx
    obtain ⟨jts, rw', p', hz2⟩ := I.list hr
    obtain ⟨v, hv, rv'⟩ := rw'.get hy
    refine next_zipT_item D hz hTI hTO h1 h2 p p'.isList (x := u) (y := v) (by simpa using hu) (by simpa using hv) fun h3 hz3 hTO3 h13 h23 hT hsz hk => ⟨_, rfl, wpAny_letOwnedTupleGo_zip hz3 fun h4 hz4 hs4 => ?_⟩
    have hTs : s.heap.objs.size ≠ z := Nat.ne_of_gt (Heap.lt_size hz)
    have hk2 : ∀ b u, b ∉ [z, TI, TO, i1, i2] → s.heap.get? b = some u → h4.get? b = some u := fun b u hb q => by
      simp only [List.mem_cons, List.not_mem_nil, or_false, not_or] at hb
      exact (hs4.2 b hb.1).trans (hk b u hb.1 hb.2.2.1 hb.2.2.2.1 hb.2.2.2.2 q)
    refine ⟨.ref s.heap.objs.size, _, I.turnLaid (t' := s.toks) (T := s.heap.objs.size) (o := .tup [x, y]) hf hk2 (Nat.le_refl _) ?_, rfl, ⟨_, x, y, I.fresh, rfl, rfl, fun zs hy' => by rw [I.tuple_inj hy' hq]; exact hx, fun zs hy' => by rw [I.list_inj hy' hr]; exact hy⟩, ⟨hz4, ?_, ⟨_, _, (hs4.2 _ D.TOz).trans hTO3⟩, ?_, h23.at fun o q => (hs4.2 i2 D.i2z).trans q⟩, fun b hb => ?_⟩
    · exact ⟨(by show 2 ≤ sizeLine; decide), [u, v], .cons ru (.cons rv' .nil), _, (hs4.2 _ hTs).trans hT, rfl, _, rfl⟩
    · exact (hs4.2 TI D.TIz).trans (hk TI _ D.TIz D.TITO D.TIi1 D.TIi2 hTI)
    · obtain ⟨o, ho, r⟩ := h13
      exact ⟨o, (hs4.2 i1 D.i1z).trans ho, r⟩
    · refine (hf b hb).upd ?_
      have hlt : b < s.heap.objs.size := by
        simp only [List.mem_cons, List.not_mem_nil, or_false] at hb
        rcases hb with rfl | rfl | rfl | rfl | rfl
        · exact Heap.lt_size hz
        · exact Heap.lt_size hTI
        · exact Heap.lt_size hTO
        · obtain ⟨o, ho, _⟩ := h1; exact Heap.lt_size ho
        · obtain ⟨o, ho, _⟩ := h2; exact Heap.lt_size ho
      exact Nat.ne_of_lt hlt
  done := by
    intro X hP hw hK hc i pins s σ H E I hf st hg
    subst hP hw hK
    obtain ⟨hz, hTI, ⟨a, b', hTO⟩, h1, h2⟩ := st
    obtain ⟨xs, hq, hx⟩ := hg
    obtain ⟨its, rv, p, hz1⟩ := I.tuple hq
    have hl := rv.length
    refine next_zipT_end (I.ok.hd hc) D hz hTI hTO h1 p (by simp; omega) fun h' k => ⟨rfl, I.turnedL (t' := s.toks) hf fun b o hb q => ?_⟩
    simp only [List.mem_cons, List.not_mem_nil, or_false, not_or] at hb
    exact k b o hb.1 hb.2.2.1 hb.2.2.2.1 hb.2.2.2.2 q
  self := fun _ _ _ _ _ st h => wpAny_pyIter_zip st.1 h
section
variable {X : Cx}
def iZipT (K : PySem.W.Frag) (ta : TA) : TI := fun σ H R => ta σ H fun vs H1 => ∃ a b xs ys, vs = [.ref a, .ref b] ∧ SqT K H1 a xs ∧ SqL K H1 b ys ∧ R (ItzT K a b) H1
theorem pi_zipT {elts : List Expr} {x1} {tp : Pos} {l m : Expr} {ta : TA} {p pos : Pos} (hm : X.mg "zip" = none) (ha : PA X [l, m] ta) (hp : plainE l = true := by rfl) (hp2 : plainE m = true := by rfl) (hg : Gl X "zip" := by rfl) : PI X (.Tuple elts x1 tp) (.Call (.Name "zip" p) [l, m] [] pos) (iZipT X.K ta) := by
  intro pins s σ H R I h
  refine Call_ (ld_blt I hg hm boot_zip (PyProof.Rows.callWith_type1 (thn (ha pos pins s σ H _ I h) fun us s1 ⟨vs, H1, I1, r1, q1⟩ => ?_) (starEach_plain hp _ _) (by rw [starEach_plain hp2]; rfl)))
  obtain ⟨a, b, xs, ys, rfl, hH, hH2, q⟩ := q1
  obtain ⟨u, w', rfl, ru, rw'⟩ := vals2 r1
  cases ru
  cases rw'
  obtain ⟨its, rv, p1, hz1⟩ := I1.tuple hH
  obtain ⟨jts, rv2, p2, hz2⟩ := I1.list hH2
  have l1 : a < s1.heap.objs.size := p1.lt
  have l2 : b < s1.heap.objs.size := by obtain ⟨_, e, _⟩ := p2.isList; exact Heap.lt_size e
  refine call_zipT p1 p2.isList fun h1 hz hTI hTO i1 i2 hk => ?_
  refine wpAny_pyIter_zip hz ?_
  have I2 : Inv X pins σ H1 { s1 with heap := h1 } := I1.kept (t' := s1.toks) hk
  refine ⟨_, [s1.heap.objs.size + 4, s1.heap.objs.size + 2, s1.heap.objs.size + 3, s1.heap.objs.size, s1.heap.objs.size + 1], _, _, H1, rfl, I2, turn_zipT (zipApart_new l1 l2), ⟨hz, hTI, ⟨_, _, hTO⟩, i1, i2⟩, fun b hb => ?_, q⟩
  have hb' : s1.heap.objs.size ≤ b := by
    simp only [List.mem_cons, List.not_mem_nil, or_false] at hb
    rcases hb with rfl | rfl | rfl | rfl | rfl <;> omega
  exact I1.fpOk hb' (I1.hok.fresh hb')
end
theorem for_zipT {K : PySem.W.Frag} {a b : Addr} {xs ys : List V} {g : TG} {tb : TS} {D : Ends} {σ : St} {H : Hp} (hl : xs.length = ys.length) (Pv : Nat → St → Hp → Prop) (h0 : Pv 0 σ H) (hx : ∀ i σ H, Pv i σ H → SqT K H a xs ∧ SqL K H b ys)
    (hs : ∀ i x y σ H t, xs[i]? = some x → ys[i]? = some y → Pv i σ H → H t = none → g (.ref t) σ (upd H t (.tup [x, y])) fun σ2 H2 => tb { D with nx := Pv (i + 1), ct := Pv (i + 1), bk := D.nx } σ2 H2) (hd : ∀ σ H, Pv xs.length σ H → D.nx σ H) :
    ∃ W : Nat → Nat → St → Hp → Prop, (∃ m, W 0 m σ H) ∧ ∀ i m σ H, W i m σ H →
      ((ItzT K a b).stop i H ∧ D.nx σ H) ∨ ((ItzT K a b).go i H ∧ ∃ N : St → Hp → Prop, (∀ σ' H', N σ' H' → ∃ m', m' < m ∧ W (i + 1) m' σ' H') ∧ ∀ x H', (ItzT K a b).yld i H x H' → g x σ H' fun σ2 H2 => tb { D with nx := N, ct := N, bk := D.nx } σ2 H2) := by
  refine ⟨fun i m σ H => m = xs.length - i ∧ i ≤ xs.length ∧ Pv i σ H, ⟨xs.length, by simp, Nat.zero_le _, h0⟩, ?_⟩
  rintro i m σ H ⟨rfl, hi, p⟩
  obtain ⟨q1, q2⟩ := hx i σ H p
  by_cases hlt : i < xs.length
  · have hlt2 : i < ys.length := hl ▸ hlt
    refine .inr ⟨⟨xs, xs[i], ys, ys[i], q1, by simp [hlt], q2, by simp [hlt2]⟩, Pv (i + 1), fun σ' H' p' => ⟨xs.length - (i + 1), by omega, rfl, hlt, p'⟩, fun x H' y => ?_⟩
    obtain ⟨t, x1, y1, hn, rfl, rfl, e1, e2⟩ := y
    exact hs i x1 y1 σ H t (e1 xs q1) (e2 ys q2) p hn
  · have e : i = xs.length := by omega
    subst e
    exact .inl ⟨⟨xs, q1, Nat.le_refl _⟩, hd σ H p⟩
theorem rd_iZipT {K : PySem.W.Frag} {ta : TA} {σ : St} {H : Hp} {R : It → Hp → Prop} (q : ta σ H fun vs H1 => ∃ a b xs ys, vs = [.ref a, .ref b] ∧ SqT K H1 a xs ∧ SqL K H1 b ys ∧ R (ItzT K a b) H1) : iZipT K ta σ H R := q
end L2


set_option linter.all false
set_option maxRecDepth 100000
namespace L2
open PySem
theorem rd_dget1 {td ty : TE} {σ : St} {H : Hp} {Q : VK} (q : td σ H fun x H1 => ∃ a, x = .ref a ∧ IsD H1 a ∧ ty σ H1 fun y H2 => ∃ o, DGet H2 a y o ∧ Q (o.getD .non) H2) : tDGet1 td ty σ H Q := q
theorem rd_iItems {td : TE} {σ : St} {H : Hp} {R : It → Hp → Prop} (q : td σ H fun x H1 => ∃ (a : Addr) (kvs : List (Key × V)), x = .ref a ∧ H1 a = some (.dK kvs) ∧ ∀ o, R (Iti a o kvs) (upd H1 a (.frz o (.dK kvs)))) : iItems td σ H R := q
theorem rd_sortV {td : TE} {σ : St} {H : Hp} {Q : VK} (q : td σ H fun x H1 => ∃ (a : Addr) (kvs : List (Key × V)) (ns : List Int), x = .ref a ∧ H1 a = some (.dK kvs) ∧ kvs.map (·.2) = ns.map V.int ∧ ns.length < 64 ∧ ∀ (l : Addr) (ns' : List Int), H1 l = none → ns'.Perm ns → ns'.Pairwise (· ≤ ·) → Q (.ref l) (upd H1 l (.lst (ns'.map V.int)))) : tSortV td σ H Q := q
end L2

local macro_rules | `(tactic| tm_at "rd1") => `(tactic| first
  | ((with_reducible refine L2.rd_dget1 ?_))
  | ((with_reducible refine L2.rd_iItems ?_))
  | ((with_reducible refine L2.rd_sortV ?_))
  | ((with_reducible refine L2.rd_iZipT ?_)))

set_option linter.all false
set_option maxRecDepth 100000
/-! Law k09: as they come, beside the settled seating. -/
namespace Law
open PySem L2 Ring
def fcl (n : Nat) (ds : List Int) : Seats := ds.foldl (fcome n (hm n)) (List.replicate n none)
def acl (n : Nat) (ds : List Int) : Seats := ds.foldl (comes n (hm n)) (List.replicate n none)
theorem fcl_snoc (n : Nat) (ds : List Int) (g : Int) : fcl n (ds ++ [g]) = fcome n (hm n) (fcl n ds) g := by
  unfold fcl
  rw [List.foldl_append]
  rfl
theorem acl_snoc (n : Nat) (ds : List Int) (g : Int) : acl n (ds ++ [g]) = comes n (hm n) (acl n ds) g := by
  unfold acl
  rw [List.foldl_append]
  rfl
theorem snoc_ind {P : List Int → Prop} (h0 : P []) (h1 : ∀ l g, P l → P (l ++ [g])) (l : List Int) : P l := by
  rw [← List.reverse_reverse l]
  induction l.reverse with
  | nil => exact h0
  | cons g r ih =>
    rw [List.reverse_cons]
    exact h1 _ _ ih
theorem acl_ok {n : Nat} (n2 : 2 ≤ n) : ∀ ds : List Int, ds.Nodup → ds.length < n → Settled n (hm n) (acl n ds) ∧ (who (acl n ds)).Perm ds := by
  have n0 : 0 < n := by omega
  have hh : ∀ g, hm n g < n := fun g => hm_lt n0 g
  refine snoc_ind ?_ ?_
  · intro _ _
    exact ⟨⟨by simp [acl], loc_rep, by show (who (List.replicate n none)).length < n; rw [who_rep]; exact n0⟩, by show (who (List.replicate n none)).Perm []; rw [who_rep]⟩
  · intro l g ih hnd hl
    have hnd' := List.nodup_append.mp hnd
    rw [List.length_append] at hl
    have hl' : l.length + 1 < n := hl
    obtain ⟨S, p⟩ := ih hnd'.1 (by omega)
    have hg : g ∉ who (acl n l) := fun z => hnd'.2.2 g (p.mem_iff.mp z) g (List.mem_singleton.mpr rfl) rfl
    rw [acl_snoc]
    refine ⟨comes_settled n2 hh S hg (by rw [p.length_eq]; exact hl'), ?_⟩
    exact (comes_ok n2 hh S hg).2.2.trans ((List.Perm.cons g p).trans (List.perm_append_comm (l₁ := [g])))
theorem pair_ok {n : Nat} (n2 : 2 ≤ n) : ∀ ds : List Int, ds.Nodup → ds.length < n → Pair n (hm n) (acl n ds) (fcl n ds) := by
  have hh : ∀ g, hm n g < n := fun g => hm_lt (by omega) g
  refine snoc_ind ?_ ?_
  · intro _ _
    exact Pair.start
  · intro l g ih hnd hl
    rw [List.length_append] at hl
    have hl' : l.length + 1 < n := hl
    have hnd' := (List.nodup_append.mp hnd).1
    rw [acl_snoc, fcl_snoc]
    exact (ih hnd' (by omega)).more hh (acl_ok n2 l hnd' (by omega)).1.empty g
theorem fcl_len {n : Nat} : ∀ ds : List Int, (fcl n ds).length = n := by
  refine snoc_ind ?_ ?_
  · simp [fcl]
  · intro l g ih
    rw [fcl_snoc]
    unfold fcome
    rw [List.length_set, ih]
theorem fcl_who {n : Nat} (n2 : 2 ≤ n) : ∀ ds : List Int, ds.length < n → (who (fcl n ds)).Perm ds := by
  have hh : ∀ g, hm n g < n := fun g => hm_lt (by omega) g
  refine snoc_ind ?_ ?_
  · intro _
    show (who (List.replicate n none)).Perm []
    rw [who_rep]
  · intro l g ih hl
    rw [List.length_append] at hl
    have hl' : l.length + 1 < n := hl
    have p := ih (by omega)
    obtain ⟨e, he, hn⟩ := empty_of (s := fcl n l) (by rw [p.length_eq, fcl_len]; omega)
    rw [fcl_len] at he
    obtain ⟨f1, f2, _⟩ := firstE_ok (s := fcl n l) n (hm n g) e (hh g) he hn (dist_lt (hh g) he)
    rw [fcl_snoc]
    exact (who_none (by rw [fcl_len]; exact f1) f2).trans ((List.Perm.cons g p).trans (List.perm_append_comm (l₁ := [g])))
def spFirst (K : PySem.W.Frag) (NG TW FU : Addr) : Sp := fun vs H Q E => (∃ (a : Addr) (xs : List V) (n : Int), vs = [.ref a, .int n] ∧ SqL K H a xs ∧ BadL K H xs ∧ E (.ref NG) none H) ∨
  (∃ (a : Addr) (ds : List Int) (n : Nat), vs = [.ref a, .int (n : Int)] ∧ SqL K H a (ds.map V.int) ∧ Gs ds ∧ ds.length ≤ 1024 ∧ 2 ≤ n ∧ n ≤ 1024 ∧ ∀ H', Same H H' → (¬ ds.Nodup → E (.ref TW) none H') ∧ (ds.Nodup → n ≤ ds.length → E (.ref FU) none H') ∧
    (ds.Nodup → ds.length < n → ∀ (l : Addr), H l = none → H' l = some (.lst (svs (fcl n ds))) → Q (.ref l) H'))
end Law


set_option Elab.async false
set_option linter.all false
set_option maxRecDepth 100000
set_option maxHeartbeats 1000000
namespace Law
open PySem L2 Ring
def top (i : Nat) : Stmt := PySem.Challenge.pw_ringseat_k09_whole_first_come.main.body.getD i (.Pass ⟨0, 0, 0, 0⟩)
abbrev s_is_whole : Stmt := top 10
abbrev s_is_guest : Stmt := top 11
abbrev s_home : Stmt := top 12
abbrev s_carried : Stmt := top 13
abbrev s_ahead : Stmt := top 14
abbrev s_check_guest : Stmt := top 16
abbrev s_strain : Stmt := top 17
abbrev s_put : Stmt := top 19
abbrev s_check_list : Stmt := top 20
abbrev s_seated : Stmt := top 21
abbrev s_first_come : Stmt := top 22
abbrev s_l_cell_at : Stmt := top 24
abbrev s_l_whole : Stmt := top 25
abbrev s_l_home : Stmt := top 26
abbrev s_l_base : Stmt := top 27
abbrev s_l_guest : Stmt := top 28
abbrev s_l_drawn : Stmt := top 29
abbrev s_l_places : Stmt := top 30
abbrev s_l_in_turn : Stmt := top 31
abbrev s_l_sums : Stmt := top 32
abbrev s_l_told : Stmt := top 33
abbrev s_l_odd : Stmt := top 34
abbrev s_l_refused : Stmt := top 35
abbrev s_l_spoiled : Stmt := top 36
abbrev s_law : Stmt := top 37
theorem sc_is_whole : FnScope ["thing"] ["thing"] (defScope s_is_whole) := ⟨rfl, rfl, rfl, by decide +kernel, rfl, by decide +kernel, by decide +kernel⟩
theorem sc_is_guest : FnScope ["thing"] ["thing"] (defScope s_is_guest) := ⟨rfl, rfl, rfl, by decide +kernel, rfl, by decide +kernel, by decide +kernel⟩
theorem sc_home : FnScope ["guest", "many"] ["guest", "many"] (defScope s_home) := ⟨rfl, rfl, rfl, by decide +kernel, rfl, by decide +kernel, by decide +kernel⟩
theorem sc_carried : FnScope ["guest", "at", "many"] ["guest", "at", "many"] (defScope s_carried) := ⟨rfl, rfl, rfl, by decide +kernel, rfl, by decide +kernel, by decide +kernel⟩
theorem sc_ahead : FnScope ["one", "other", "at", "many", "way_of_one", "way_of_other"] ["one", "other", "at", "many"] (defScope s_ahead) := ⟨rfl, rfl, rfl, by decide +kernel, rfl, by decide +kernel, by decide +kernel⟩
theorem sc_check_guest : FnScope ["thing"] ["thing"] (defScope s_check_guest) := ⟨rfl, rfl, rfl, by decide +kernel, rfl, by decide +kernel, by decide +kernel⟩
theorem sc_strain : FnScope ["seats", "many", "ways"] ["seats"] (defScope s_strain) := ⟨rfl, rfl, rfl, by decide +kernel, rfl, by decide +kernel, by decide +kernel⟩
theorem sc_put : FnScope ["seats", "guest", "many", "moving", "at", "sitting"] ["seats", "guest"] (defScope s_put) := ⟨rfl, rfl, rfl, by decide +kernel, rfl, by decide +kernel, by decide +kernel⟩
theorem sc_check_list : FnScope ["guests", "many", "thing"] ["guests", "many"] (defScope s_check_list) := ⟨rfl, rfl, rfl, by decide +kernel, rfl, by decide +kernel, by decide +kernel⟩
theorem sc_seated : FnScope ["guests", "many", "seats", "guest"] ["guests", "many"] (defScope s_seated) := ⟨rfl, rfl, rfl, by decide +kernel, rfl, by decide +kernel, by decide +kernel⟩
theorem sc_first_come : FnScope ["guests", "many", "seats", "guest", "at"] ["guests", "many"] (defScope s_first_come) := ⟨rfl, rfl, rfl, by decide +kernel, rfl, by decide +kernel, by decide +kernel⟩
theorem sc_l_cell_at : FnScope ["_law_script", "_law_k"] ["_law_script", "_law_k"] (defScope s_l_cell_at) := ⟨rfl, rfl, rfl, by decide +kernel, rfl, by decide +kernel, by decide +kernel⟩
theorem sc_l_whole : FnScope ["_law_found"] ["_law_found"] (defScope s_l_whole) := ⟨rfl, rfl, rfl, by decide +kernel, rfl, by decide +kernel, by decide +kernel⟩
theorem sc_l_home : FnScope ["_law_guest_here", "_law_many"] ["_law_guest_here", "_law_many"] (defScope s_l_home) := ⟨rfl, rfl, rfl, by decide +kernel, rfl, by decide +kernel, by decide +kernel⟩
theorem sc_l_base : FnScope ["_law_cell"] ["_law_cell"] (defScope s_l_base) := ⟨rfl, rfl, rfl, by decide +kernel, rfl, by decide +kernel, by decide +kernel⟩
theorem sc_l_guest : FnScope ["_law_cell", "_law_base_here", "_law_number"] ["_law_cell", "_law_base_here"] (defScope s_l_guest) := ⟨rfl, rfl, rfl, by decide +kernel, rfl, by decide +kernel, by decide +kernel⟩
theorem sc_l_drawn : FnScope ["_law_cells", "_law_base_here", "_law_seen", "_law_cell"] ["_law_cells", "_law_base_here"] (defScope s_l_drawn) := ⟨rfl, rfl, rfl, by decide +kernel, rfl, by decide +kernel, by decide +kernel⟩
theorem sc_l_places : FnScope ["_law_seats", "_law_many", "_law_places_here", "_law_at", "_law_guest_here"] ["_law_seats", "_law_many"] (defScope s_l_places) := ⟨rfl, rfl, rfl, by decide +kernel, rfl, by decide +kernel, by decide +kernel⟩
theorem sc_l_in_turn : FnScope ["_law_guests", "_law_places_here", "_law_many", "_law_taken", "_law_guest_here", "_law_at"] ["_law_guests", "_law_places_here", "_law_many"] (defScope s_l_in_turn) := ⟨rfl, rfl, rfl, by decide +kernel, rfl, by decide +kernel, by decide +kernel⟩
theorem sc_l_sums : FnScope ["_law_places_here", "_law_many", "_law_total", "_law_most", "_law_squares", "_law_guest_here", "_law_at", "_law_far"] ["_law_places_here", "_law_many"] (defScope s_l_sums) := ⟨rfl, rfl, rfl, by decide +kernel, rfl, by decide +kernel, by decide +kernel⟩
theorem sc_l_told : FnScope ["_law_found", "_law_due", "_law_one", "_law_other"] ["_law_found", "_law_due"] (defScope s_l_told) := ⟨rfl, rfl, rfl, by decide +kernel, rfl, by decide +kernel, by decide +kernel⟩
theorem sc_l_odd : FnScope ["_law_cell", "_law_number", "_law_some"] ["_law_cell"] (defScope s_l_odd) := ⟨rfl, rfl, rfl, by decide +kernel, rfl, by decide +kernel, by decide +kernel⟩
theorem sc_l_refused : FnScope ["_law_guests", "_law_many", "e", "_law_own", "_law_others"] ["_law_guests", "_law_many"] (defScope s_l_refused) := ⟨rfl, rfl, rfl, by decide +kernel, rfl, by decide +kernel, by decide +kernel⟩
theorem sc_l_spoiled : FnScope ["_law_script", "_law_guests", "_law_way", "_law_spoiled_here", "_law_twice", "_law_many", "_law_full", "_law_due"] ["_law_script", "_law_guests"] (defScope s_l_spoiled) := ⟨rfl, rfl, rfl, by decide +kernel, rfl, by decide +kernel, by decide +kernel⟩
theorem sc_law : FnScope ["_law_script", "_law_guests", "_law_kept", "_law_many", "_law_handed", "_law_one", "_law_places_here", "_law_held", "_law_other", "_law_others", "_law_first", "_law_second", "_law_spoiled_here", "_law_due"] ["_law_script"] (defScope s_law) := ⟨rfl, rfl, rfl, by decide +kernel, rfl, by decide +kernel, by decide +kernel⟩
structure Cs where
  RingError : Addr
  NoGuest : Addr
  NoSize : Addr
  Twice : Addr
  Away : Addr
  Full : Addr
structure Txt (K : PySem.W.Frag) (mg : Str → Option Value) (cs : Cs) : Prop where
  m_RingError : mg "RingError" = some (.ref cs.RingError)
  m_NoGuest : mg "NoGuest" = some (.ref cs.NoGuest)
  K_NoGuest : ExcC K mg "NoGuest" cs.NoGuest
  x_NoGuest : PySem.W.exmOne K (.ref cs.NoGuest) (.ref cs.RingError) = some true
  v_NoGuest : PySem.W.kitOne K (.ref cs.NoGuest) (.type "ValueError") = some true
  i_NoGuest_RingError : PySem.W.kitOne K (.ref cs.NoGuest) (.ref cs.RingError) = some true
  i_NoGuest_NoGuest : PySem.W.kitOne K (.ref cs.NoGuest) (.ref cs.NoGuest) = some true
  i_NoGuest_NoSize : PySem.W.kitOne K (.ref cs.NoGuest) (.ref cs.NoSize) = some false
  i_NoGuest_Twice : PySem.W.kitOne K (.ref cs.NoGuest) (.ref cs.Twice) = some false
  i_NoGuest_Away : PySem.W.kitOne K (.ref cs.NoGuest) (.ref cs.Away) = some false
  i_NoGuest_Full : PySem.W.kitOne K (.ref cs.NoGuest) (.ref cs.Full) = some false
  m_NoSize : mg "NoSize" = some (.ref cs.NoSize)
  K_NoSize : ExcC K mg "NoSize" cs.NoSize
  x_NoSize : PySem.W.exmOne K (.ref cs.NoSize) (.ref cs.RingError) = some true
  v_NoSize : PySem.W.kitOne K (.ref cs.NoSize) (.type "ValueError") = some true
  i_NoSize_RingError : PySem.W.kitOne K (.ref cs.NoSize) (.ref cs.RingError) = some true
  i_NoSize_NoGuest : PySem.W.kitOne K (.ref cs.NoSize) (.ref cs.NoGuest) = some false
  i_NoSize_NoSize : PySem.W.kitOne K (.ref cs.NoSize) (.ref cs.NoSize) = some true
  i_NoSize_Twice : PySem.W.kitOne K (.ref cs.NoSize) (.ref cs.Twice) = some false
  i_NoSize_Away : PySem.W.kitOne K (.ref cs.NoSize) (.ref cs.Away) = some false
  i_NoSize_Full : PySem.W.kitOne K (.ref cs.NoSize) (.ref cs.Full) = some false
  m_Twice : mg "Twice" = some (.ref cs.Twice)
  K_Twice : ExcC K mg "Twice" cs.Twice
  x_Twice : PySem.W.exmOne K (.ref cs.Twice) (.ref cs.RingError) = some true
  v_Twice : PySem.W.kitOne K (.ref cs.Twice) (.type "ValueError") = some true
  i_Twice_RingError : PySem.W.kitOne K (.ref cs.Twice) (.ref cs.RingError) = some true
  i_Twice_NoGuest : PySem.W.kitOne K (.ref cs.Twice) (.ref cs.NoGuest) = some false
  i_Twice_NoSize : PySem.W.kitOne K (.ref cs.Twice) (.ref cs.NoSize) = some false
  i_Twice_Twice : PySem.W.kitOne K (.ref cs.Twice) (.ref cs.Twice) = some true
  i_Twice_Away : PySem.W.kitOne K (.ref cs.Twice) (.ref cs.Away) = some false
  i_Twice_Full : PySem.W.kitOne K (.ref cs.Twice) (.ref cs.Full) = some false
  m_Away : mg "Away" = some (.ref cs.Away)
  K_Away : ExcC K mg "Away" cs.Away
  x_Away : PySem.W.exmOne K (.ref cs.Away) (.ref cs.RingError) = some true
  v_Away : PySem.W.kitOne K (.ref cs.Away) (.type "ValueError") = some true
  i_Away_RingError : PySem.W.kitOne K (.ref cs.Away) (.ref cs.RingError) = some true
  i_Away_NoGuest : PySem.W.kitOne K (.ref cs.Away) (.ref cs.NoGuest) = some false
  i_Away_NoSize : PySem.W.kitOne K (.ref cs.Away) (.ref cs.NoSize) = some false
  i_Away_Twice : PySem.W.kitOne K (.ref cs.Away) (.ref cs.Twice) = some false
  i_Away_Away : PySem.W.kitOne K (.ref cs.Away) (.ref cs.Away) = some true
  i_Away_Full : PySem.W.kitOne K (.ref cs.Away) (.ref cs.Full) = some false
  m_Full : mg "Full" = some (.ref cs.Full)
  K_Full : ExcC K mg "Full" cs.Full
  x_Full : PySem.W.exmOne K (.ref cs.Full) (.ref cs.RingError) = some true
  v_Full : PySem.W.kitOne K (.ref cs.Full) (.type "ValueError") = some true
  i_Full_RingError : PySem.W.kitOne K (.ref cs.Full) (.ref cs.RingError) = some true
  i_Full_NoGuest : PySem.W.kitOne K (.ref cs.Full) (.ref cs.NoGuest) = some false
  i_Full_NoSize : PySem.W.kitOne K (.ref cs.Full) (.ref cs.NoSize) = some false
  i_Full_Twice : PySem.W.kitOne K (.ref cs.Full) (.ref cs.Twice) = some false
  i_Full_Away : PySem.W.kitOne K (.ref cs.Full) (.ref cs.Away) = some false
  i_Full_Full : PySem.W.kitOne K (.ref cs.Full) (.ref cs.Full) = some true
  n_ValueError : mg "ValueError" = none
  n_len : mg "len" = none
  n_list : mg "list" = none
  n_enumerate : mg "enumerate" = none
  n_zip : mg "zip" = none
  n_max : mg "max" = none
  n_isinstance : mg "isinstance" = none
  n_int : mg "int" = none
  n_sum : mg "sum" = none
  n_bool : mg "bool" = none
  n_set : mg "set" = none
  n_tuple : mg "tuple" = none
  n_sorted : mg "sorted" = none
  k_int_int : PySem.W.kitOne K (.type "int") (.type "int") = some true
  k_int_bool : PySem.W.kitOne K (.type "int") (.type "bool") = some false
  k_bool_int : PySem.W.kitOne K (.type "bool") (.type "int") = some true
  k_bool_bool : PySem.W.kitOne K (.type "bool") (.type "bool") = some true
  k_NoneType_bool : PySem.W.kitOne K (.type "NoneType") (.type "bool") = some false
  k_NoneType_int : PySem.W.kitOne K (.type "NoneType") (.type "int") = some false
  k_str_bool : PySem.W.kitOne K (.type "str") (.type "bool") = some false
  k_str_int : PySem.W.kitOne K (.type "str") (.type "int") = some false
  k_tuple_bool : PySem.W.kitOne K (.type "tuple") (.type "bool") = some false
  k_tuple_int : PySem.W.kitOne K (.type "tuple") (.type "int") = some false
  k_list_bool : PySem.W.kitOne K (.type "list") (.type "bool") = some false
  k_list_int : PySem.W.kitOne K (.type "list") (.type "int") = some false
  k_dict_bool : PySem.W.kitOne K (.type "dict") (.type "bool") = some false
  k_dict_int : PySem.W.kitOne K (.type "dict") (.type "int") = some false
  k_list_list : PySem.W.kitOne K (.type "list") (.type "list") = some true
  k_tuple_tuple : PySem.W.kitOne K (.type "tuple") (.type "tuple") = some true
  g_FACTOR : ∃ t, mg "FACTOR" = some (.int 40503 t)
  g_SPREAD : ∃ t, mg "SPREAD" = some (.int 65536 t)
  d_is_whole : ∃ f fd, Def K mg "is_whole" s_is_whole ["thing"] f fd
  d_is_guest : ∃ f fd, Def K mg "is_guest" s_is_guest ["thing"] f fd
  d_home : ∃ f fd, Def K mg "home" s_home ["guest", "many"] f fd
  d_carried : ∃ f fd, Def K mg "carried" s_carried ["guest", "at", "many"] f fd
  d_ahead : ∃ f fd, Def K mg "ahead" s_ahead ["one", "other", "at", "many"] f fd
  d_check_guest : ∃ f fd, Def K mg "check_guest" s_check_guest ["thing"] f fd
  d_strain : ∃ f fd, Def K mg "strain" s_strain ["seats"] f fd
  d_put : ∃ f fd, Def K mg "put" s_put ["seats", "guest"] f fd
  d_check_list : ∃ f fd, Def K mg "check_list" s_check_list ["guests", "many"] f fd
  d_seated : ∃ f fd, Def K mg "seated" s_seated ["guests", "many"] f fd
  d_first_come : ∃ f fd, Def K mg "first_come" s_first_come ["guests", "many"] f fd
  d_l_cell_at : ∃ f fd, Def K mg "_law_cell_at" s_l_cell_at ["_law_script", "_law_k"] f fd
  d_l_whole : ∃ f fd, Def K mg "_law_whole" s_l_whole ["_law_found"] f fd
  d_l_home : ∃ f fd, Def K mg "_law_home" s_l_home ["_law_guest_here", "_law_many"] f fd
  d_l_base : ∃ f fd, Def K mg "_law_base" s_l_base ["_law_cell"] f fd
  d_l_guest : ∃ f fd, Def K mg "_law_guest" s_l_guest ["_law_cell", "_law_base_here"] f fd
  d_l_drawn : ∃ f fd, Def K mg "_law_drawn" s_l_drawn ["_law_cells", "_law_base_here"] f fd
  d_l_places : ∃ f fd, Def K mg "_law_places" s_l_places ["_law_seats", "_law_many"] f fd
  d_l_in_turn : ∃ f fd, Def K mg "_law_in_turn" s_l_in_turn ["_law_guests", "_law_places_here", "_law_many"] f fd
  d_l_sums : ∃ f fd, Def K mg "_law_sums" s_l_sums ["_law_places_here", "_law_many"] f fd
  d_l_told : ∃ f fd, Def K mg "_law_told" s_l_told ["_law_found", "_law_due"] f fd
  d_l_odd : ∃ f fd, Def K mg "_law_odd" s_l_odd ["_law_cell"] f fd
  d_l_refused : ∃ f fd, Def K mg "_law_refused" s_l_refused ["_law_guests", "_law_many"] f fd
  d_l_spoiled : ∃ f fd, Def K mg "_law_spoiled" s_l_spoiled ["_law_script", "_law_guests"] f fd
seal L2.PE L2.PT L2.PW L2.PA L2.PS L2.PSs L2.PG L2.PGs L2.PI L2.PC L2.PK L2.PO L2.PIfs L2.PSX L2.PSsX L2.PEX L2.PTX
abbrev CXL : CXT := CX0
abbrev lawK : Nat := 14
abbrev LHP : List Str := ["_law_guest_here", "_law_many"]
section
variable {P : Program} {w : World} {K : PySem.W.Frag} {mg : Str → Option Value} {base : Heap} {f : Addr} {fd : FuncData} {cs : Cs}

theorem ok_home (D : Def K mg "home" s_home ["guest", "many"] f fd) (T : Txt K mg cs) : FnOk P w K mg base CX0 1 f fd ["guest", "many"] spHome := by
  refine D.F.ok sc_home (fun vs H Q E h => ?_) (fun cdv A outer s H vs Q E hr h => ?_)
  · obtain ⟨g, m, rfl, _⟩ := h
    rfl
  · obtain ⟨g, m, rfl, hm, q⟩ := h
    obtain ⟨t1, g_FACTOR⟩ := T.g_FACTOR
    obtain ⟨t2, g_SPREAD⟩ := T.g_SPREAD
    refine ⟨_, (pss_one (ps_ret (pe_op op_mod (pe_op op_mod (pe_op op_add (pe_op op_mul (pv 0) (pe_gint g_FACTOR)) (pe_op op_fdiv (pv 0) (pe_gint g_SPREAD))) (pe_gint g_SPREAD)) (pv 1)))), ?_⟩
    tm_at "rd"
    exact q
theorem ok_carried (D : Def K mg "carried" s_carried ["guest", "at", "many"] f fd) (T : Txt K mg cs) : FnOk P w K mg base CX0 2 f fd ["guest", "at", "many"] spCarried := by
  obtain ⟨f1, fd1, D_home⟩ := T.d_home
  have G_home : FnOk P w K mg base CX0 1 f1 fd1 _ _ := ok_home D_home T
  refine D.F.ok sc_carried (fun vs H Q E h => ?_) (fun cdv A outer s H vs Q E hr1 h => ?_)
  · obtain ⟨g, p, m, rfl, _⟩ := h
    rfl
  · obtain ⟨g, p, m, rfl, hm, q⟩ := h
    refine ⟨_, (pss_one (ps_ret (pe_op op_mod (pe_op op_sub (pv 1) (pe_def D_home G_home hr1 (pa_c (pv 0) (pa_c (pv 2) pa_nil)))) (pv 2)))), ?_⟩
    tm_at "rd"
    refine rd_home hm ?_
    tm_at "rd"
    exact q
theorem ok_ahead (D : Def K mg "ahead" s_ahead ["one", "other", "at", "many"] f fd) (T : Txt K mg cs) : FnOk P w K mg base CX0 3 f fd ["one", "other", "at", "many"] spAhead := by
  obtain ⟨f1, fd1, D_carried⟩ := T.d_carried
  have G_carried : FnOk P w K mg base CX0 2 f1 fd1 _ _ := ok_carried D_carried T
  refine D.F.ok sc_ahead (fun vs H Q E h => ?_) (fun cdv A outer s H vs Q E hr1 h => ?_)
  · obtain ⟨x, y, p, m, rfl, _⟩ := h
    rfl
  · obtain ⟨x, y, p, m, rfl, hm, q⟩ := h
    have nd := sc_ahead.nd
    refine ⟨_, (pss_cons (ps_set (i := 4) nd rfl (Or.inl rfl) (pe_def D_carried G_carried hr1 (pa_c (pv 0) (pa_c (pv 2) (pa_c (pv 3) pa_nil)))))
      (pss_cons (ps_set (i := 5) nd rfl (Or.inl rfl) (pe_def D_carried G_carried hr1 (pa_c (pv 1) (pa_c (pv 2) (pa_c (pv 3) pa_nil)))))
      (pss_cons (ps_if (pt_cmpR op_eq (pv 4) (pv 5) (nomark _)) (pss_one (ps_ret (pe_cmpR op_lt (pv 0) (pv 1) (nomark _)))) pss_nil)
      (pss_one (ps_ret (pe_cmpR op_gt (pv 4) (pv 5) (nomark _))))))), ?_⟩
    tm_at "rd"
    refine rd_carried hm ?_
    tm_at "rd"
    refine rd_carried hm ?_
    tm_at "rd"
    refine iteD (fun e => ?_) (fun e => ?_)
    · tm_at "rd"
      have : aheadF x y p m = decide (x < y) := by
        unfold aheadF
        rw [e, decide_eq_false (Int.lt_irrefl _), decide_eq_true rfl]
        rfl
      rw [this] at q
      exact q
    · tm_at "rd"
      have : aheadF x y p m = decide (far y p m < far x p m) := by
        unfold aheadF
        rw [decide_eq_false e, Bool.false_and, Bool.or_false]
      rw [this] at q
      exact q

theorem ok_l_home (D : Def K mg "_law_home" s_l_home LHP f fd) (T : Txt K mg cs) : FnOk P w K mg base CX0 1 f fd LHP spHome := by
  refine D.F.ok sc_l_home (fun vs H Q E h => ?_) (fun cdv A outer s H vs Q E hr h => ?_)
  · obtain ⟨g, m, rfl, _⟩ := h
    rfl
  · obtain ⟨g, m, rfl, hm, q⟩ := h
    refine ⟨_, (pss_one (ps_ret (pe_op op_mod (pe_op op_mod (pe_op op_add (pe_op op_mul (pv 0) pe_int) (pe_op op_fdiv (pv 0) pe_int)) pe_int) (pv 1)))), ?_⟩
    tm_at "rd"
    exact q
theorem ok_cell (D : Def K mg "_law_cell_at" s_l_cell_at ["_law_script", "_law_k"] f fd) (T : Txt K mg cs) : FnOk P w K mg base CX0 1 f fd ["_law_script", "_law_k"] (spCell K) := by
  refine D.F.ok sc_l_cell_at (fun vs H Q E h => ?_) (fun cdv A outer s H vs Q E hr h => ?_)
  · obtain ⟨a, ns, k, rfl, _⟩ := h
    rfl
  · obtain ⟨a, ns, k, rfl, hS, h0, q⟩ := h
    obtain ⟨j, rfl⟩ := Int.eq_ofNat_of_zero_le h0
    refine ⟨_, (pss_cons (ps_if (pt_cmpR op_lt (pv 1) (pe_b call_len_seq T.n_len PySem.boot_len (pa_c (pv 0) pa_nil)) (nomark _)) (pss_one (ps_ret (pe_ix ix_list (pv 0) (pv 1) (fun _ _ => rfl)))) pss_nil)
      (pss_one (ps_ret pe_int))), ?_⟩
    tm_at "rd"
    refine ⟨_, _, rfl, .inl hS, ?_⟩
    tm_at "rd"
    refine iteD (fun hc => ?_) (fun hc => ?_)
    · rw [List.length_map] at hc
      have hj : j < ns.length := by omega
      tm_at "rd"
      refine rd_ixL hS (atI_ints hj) ?_
      have : cellF ns (j : Int) = ns[j] := by simp [cellF, hj]
      rw [← this]
      exact q
    · rw [List.length_map] at hc
      have : cellF ns (j : Int) = 0 := by
        unfold cellF
        rw [Int.toNat_natCast]
        simp [List.getD, List.getElem?_eq_none (by omega : ns.length ≤ j)]
      rw [this] at q
      exact q
theorem ok_whole (D : Def K mg "_law_whole" s_l_whole ["_law_found"] f fd) (T : Txt K mg cs) : FnOk P w K mg base CX0 1 f fd ["_law_found"] spWhole := by
  refine D.F.ok sc_l_whole (fun vs H Q E h => ?_) (fun cdv A outer s H vs Q E hr h => ?_)
  · obtain ⟨i, rfl, _⟩ := h
    rfl
  · obtain ⟨i, rfl, q⟩ := h
    refine ⟨_, (pss_one (ps_ret (pe_and (pe_b call_isinst T.n_isinstance PyProof.Rows.boot_isinstance (pa_c (pv 0) (pa_c (pe_ty T.n_int PyProof.Rows.boot_int) pa_nil))) (pe_one (pe_not (pe_b call_isinst T.n_isinstance PyProof.Rows.boot_isinstance (pa_c (pv 0) (pa_c (pe_ty T.n_bool PyProof.Rows.boot_bool) pa_nil)))))))), ?_⟩
    tm_at "rd"
    refine ⟨_, _, _, _, rfl, .int i, T.k_int_int, ?_⟩
    tm_at "rd"
    refine iteT ?_
    tm_at "rd"
    refine ⟨_, _, _, _, rfl, .int i, T.k_int_bool, ?_⟩
    tm_at "rd"
    exact q

theorem ok_iw (D : Def K mg "is_whole" s_is_whole ["thing"] f fd) (T : Txt K mg cs) : FnOk P w K mg base CX0 1 f fd ["thing"] (spIW K) := by
  refine D.F.ok sc_is_whole (fun vs H Q E h => ?_) (fun cdv A outer s H vs Q E hr h => ?_)
  · rcases h with ⟨i, rfl, _⟩ | ⟨x, rfl, _⟩ <;> rfl
  · rcases h with ⟨i, rfl, q⟩ | ⟨x, rfl, od, q⟩
    all_goals refine ⟨_, (pss_one (ps_ret (pe_and (pe_b call_isinst T.n_isinstance PyProof.Rows.boot_isinstance (pa_c (pv 0) (pa_c (pe_ty T.n_int PyProof.Rows.boot_int) pa_nil))) (pe_one (pe_not (pe_b call_isinst T.n_isinstance PyProof.Rows.boot_isinstance (pa_c (pv 0) (pa_c (pe_ty T.n_bool PyProof.Rows.boot_bool) pa_nil)))))))), ?_⟩
    · tm_at "rd"
      refine ⟨_, _, _, _, rfl, .int i, T.k_int_int, ?_⟩
      tm_at "rd"
      refine iteT ?_
      tm_at "rd"
      refine ⟨_, _, _, _, rfl, .int i, T.k_int_bool, ?_⟩
      tm_at "rd"
      exact q
    · rcases od with ⟨b, rfl⟩ | ⟨t, ty, k1, k2⟩
      · tm_at "rd"
        refine ⟨_, _, _, _, rfl, .bl b, T.k_bool_int, ?_⟩
        tm_at "rd"
        refine iteT ?_
        tm_at "rd"
        refine ⟨_, _, _, _, rfl, .bl b, T.k_bool_bool, ?_⟩
        tm_at "rd"
        exact q
      · tm_at "rd"
        refine ⟨_, _, _, _, rfl, ty, k2, ?_⟩
        tm_at "rd"
        exact iteF q
theorem ok_is (D : Def K mg "is_guest" s_is_guest ["thing"] f fd) (T : Txt K mg cs) : FnOk P w K mg base CX0 2 f fd ["thing"] (spIs K) := by
  obtain ⟨f1, fd1, D_is_whole⟩ := T.d_is_whole
  have G_is_whole : FnOk P w K mg base CX0 1 f1 fd1 _ _ := ok_iw D_is_whole T
  refine D.F.ok sc_is_guest (fun vs H Q E h => ?_) (fun cdv A outer s H vs Q E hr1 h => ?_)
  · rcases h with ⟨i, rfl, _⟩ | ⟨x, rfl, _⟩ <;> rfl
  · rcases h with ⟨i, rfl, q⟩ | ⟨x, rfl, od, q⟩
    all_goals refine ⟨_, (pss_one (ps_ret (pe_and (pe_def D_is_whole G_is_whole hr1 (pa_c (pv 0) pa_nil)) (pe_one (pe_chain op_le op_lt pe_int (pv 0) (pe_op op_pow pe_int pe_int)))))), ?_⟩
    · tm_at "rd"
      refine .inl ⟨i, rfl, ?_⟩
      tm_at "rd"
      refine iteT ?_
      tm_at "rd"
      refine iteD (fun h0 => ?_) (fun h0 => ?_)
      · tm_at "rd"
        rw [p60]
        rw [show decide (0 ≤ i ∧ i < P60) = decide (i < P60) by simp [h0]] at q
        exact q
      · rw [show decide (0 ≤ i ∧ i < P60) = false by simp [h0]] at q
        exact q
    · tm_at "rd"
      refine .inr ⟨x, rfl, od, ?_⟩
      tm_at "rd"
      exact iteF q
theorem ok_check (D : Def K mg "check_guest" s_check_guest ["thing"] f fd) (T : Txt K mg cs) : FnOk P w K mg base (CXr P w) 3 f fd ["thing"] (spCheck K cs.NoGuest) := by
  obtain ⟨f1, fd1, D_is_guest⟩ := T.d_is_guest
  have G_is_guest : FnOk P w K mg base CX0 2 f1 fd1 _ _ := ok_is D_is_guest T
  refine D.F.okX sc_check_guest (fun vs H Q E h => ?_) (fun cdv A outer s H vs Q E hr1 h => ?_)
  · rcases h with ⟨i, rfl, _⟩ | ⟨x, rfl, _⟩ <;> rfl
  · rcases h with ⟨i, rfl, h0, h1, q⟩ | ⟨x, rfl, od, q⟩
    all_goals refine ⟨_, (ssx_one (sx_if (pt_not (pt_val (pe_def D_is_guest G_is_guest hr1 (pa_c (pv 0) pa_nil)))) (ssx_one (sx_raise ownFr_cx rfl T.K_NoGuest (pa_c pe_str pa_nil))) ssx_nil)), ?_⟩
    · tm_at "rd"
      refine .inl ⟨i, rfl, ?_⟩
      rw [decide_eq_true (show 0 ≤ i ∧ i < P60 from ⟨h0, h1⟩)]
      tm_at "rd"
      exact iteF q
    · rcases od with ⟨i, rfl, hn⟩ | od
      · tm_at "rd"
        refine .inl ⟨i, rfl, ?_⟩
        rw [decide_eq_false hn]
        tm_at "rd"
        refine iteT ?_
        tm_at "rd"
        exact ⟨(by show 1 ≤ sizeLine; decide), q⟩
      · tm_at "rd"
        refine .inr ⟨x, rfl, od, ?_⟩
        tm_at "rd"
        refine iteT ?_
        tm_at "rd"
        exact ⟨(by show 1 ≤ sizeLine; decide), q⟩

theorem ok_put (D : Def K mg "put" s_put ["seats", "guest"] f fd) (T : Txt K mg cs) : FnOk P w K mg base CX0 4 f fd ["seats", "guest"] spPut := by
  obtain ⟨f1, fd1, D_home⟩ := T.d_home
  have G_home : FnOk P w K mg base CX0 3 f1 fd1 _ _ := (ok_home D_home T).mono (by decide)
  obtain ⟨f2, fd2, D_ahead⟩ := T.d_ahead
  have G_ahead : FnOk P w K mg base CX0 3 f2 fd2 _ _ := ok_ahead D_ahead T
  refine D.F.ok sc_put (fun vs H Q E h => ?_) (fun cdv A outer s H vs Q E hr1 h => ?_)
  · obtain ⟨a, s, x, rfl, _⟩ := h
    rfl
  · obtain ⟨a, t, x, rfl, hH, ⟨e, he, hn⟩, q⟩ := h
    have nd := sc_put.nd
    refine ⟨_, (pss_cons (ps_set (i := 2) nd rfl (Or.inl rfl) (pe_b call_len_seq T.n_len PySem.boot_len (pa_c (pv 0) pa_nil)))
      (pss_cons (ps_set (i := 3) nd rfl (Or.inl rfl) (pv 1))
      (pss_cons (ps_set (i := 4) nd rfl (Or.inl rfl) (pe_def D_home G_home hr1 (pa_c (pv 3) (pa_c (pv 2) pa_nil))))
      (pss_cons (ps_while PassesOwn.never (pt_cmpR op_notN (pe_ix ix_list (pv 0) (pv 4) (fun _ _ => rfl)) pe_non (nomark _)) (pss_cons (ps_set (i := 5) nd rfl (Or.inl rfl) (pe_ix ix_list (pv 0) (pv 4) (fun _ _ => rfl)))
      (pss_cons (ps_join (ps_if (pt_val (pe_def D_ahead G_ahead hr1 (pa_c (pv 3) (pa_c (pv 5) (pa_c (pv 4) (pa_c (pv 2) pa_nil)))))) (pss_cons (ps_asg (pv 3) (pg_sub (pv 0) (pv 4) set_list))
      (pss_one (ps_set (i := 3) nd rfl (Or.inl rfl) (pv 5)))) pss_nil))
      (pss_one (ps_set (i := 4) nd rfl (Or.inl rfl) (pe_op op_mod (pe_op op_add (pv 4) pe_int) (pv 2)))))))
      (pss_one (ps_asg (pv 3) (pg_sub (pv 0) (pv 4) set_list))))))), ?_⟩
    have n0 : 0 < t.length := by omega
    tm_at "rd"
    refine ⟨_, _, rfl, .inl (SqL.of hH), ?_⟩
    rw [svs_len]
    tm_at "rd"
    refine ⟨fun m σ H' => ∃ (s' : Seats) (x' : Int) (p' k : Nat) (v : Option V), σ = [some (.ref a), some (.int x), some (.int (t.length : Int)), some (.int x'), some (.int (p' : Int)), v] ∧ H' a = some (.lst (svs s')) ∧ (∀ o, upd H' a o = upd H a o) ∧ s'.length = t.length ∧ p' < t.length ∧ sat s' e = none ∧ dist t.length p' e = m ∧ m < k ∧
      put t.length (hm t.length) k s' x' p' = comes t.length (hm t.length) t x, ⟨_, t, x, hm t.length x, t.length, _, rfl, hH, fun _ => rfl, rfl, hm_lt n0 x, hn, rfl, dist_lt (hm_lt n0 x) he, rfl⟩, ?_⟩
    rintro m σ H' ⟨s', x', p', k, v, rfl, hH', up, hl, hp, hn', hd, hk, hR⟩
    obtain ⟨k, rfl⟩ : ∃ k', k = k' + 1 := ⟨k - 1, by omega⟩
    tm_at "rd"
    refine rd_ixL (SqL.of hH') (svs_at (by omega)) ?_
    tm_at "rd"
    cases hs : sat s' p' with
    | none =>
      refine iteN (fun z => absurd rfl z) (fun _ => ?_)
      tm_at "rd"
      refine rd_setL hH' (ixN_nat (by rw [svs_len]; omega)) ?_
      rw [up, svs_setI, ← put_none (n := t.length) (h := hm t.length) (k := k) hs, hR]
      exact q
    | some y =>
      have hpe : p' ≠ e := fun z => by rw [z, hn'] at hs; cases hs
      have hstep := dist_to_nxt hp he hpe
      refine iteN (fun _ => ?_) (fun z => nomatch z)
      refine ⟨_, fun _ _ h => h, ?_⟩
      tm_at "rd"
      refine rd_ixL (SqL.of hH') (svs_at (by omega)) ?_
      rw [hs, sv_some]
      tm_at "rd"
      refine rd_join (fun σ H2 => ∃ (s2 : Seats) (x2 : Int) (v : Option V), σ = [some (.ref a), some (.int x), some (.int (t.length : Int)), some (.int x2), some (.int (p' : Int)), v] ∧ H2 a = some (.lst (svs s2)) ∧ (∀ o, upd H2 a o = upd H a o) ∧ s2.length = t.length ∧ sat s2 e = none ∧ put t.length (hm t.length) k s2 x2 (nxt t.length p') = comes t.length (hm t.length) t x) ?_ ?_
      · tm_at "rd"
        refine iteD (fun ha => ?_) (fun ha => ?_)
        · tm_at "rd"
          refine rd_setL hH' (ixN_nat (by rw [svs_len]; omega)) ?_
          rw [svs_setI]
          tm_at "rd"
          refine ⟨_, _, _, rfl, upd_same, fun o => by rw [upd_upd, up], by rw [List.length_set]; exact hl, ?_, ?_⟩
          · rw [sat_ne (by omega) (Ne.symm hpe)]
            exact hn'
          · rw [← put_yes hs ha]
            exact hR
        · tm_at "rd"
          exact ⟨_, _, _, rfl, hH', up, hl, hn', by rw [← put_no hs ha]; exact hR⟩
      · rintro σ2 H2 ⟨s2, x2, v2, rfl, hH2, up2, hl2, hn2, hR2⟩
        tm_at "rd"
        rw [on_eq hp]
        exact ⟨dist t.length (nxt t.length p') e, by omega, s2, x2, nxt t.length p', k, _, rfl, hH2, up2, hl2, nxt_lt hp, hn2, rfl, by omega, hR2⟩

theorem ok_base7 (D : Def K mg "_law_base" s_l_base ["_law_cell"] f fd) (T : Txt K mg cs) : FnOk P w K mg base CX0 1 f fd ["_law_cell"] spBase7 := by
  refine D.F.ok sc_l_base (fun vs H Q E h => ?_) (fun cdv A outer s H vs Q E hr h => ?_)
  · obtain ⟨c, rfl, _⟩ := h
    rfl
  · obtain ⟨c, rfl, q⟩ := h
    have hP : P58 = 10000000000000000000000000000000000000000000000000000000000 := rfl
    refine ⟨_, (pss_cons (ps_if (pt_cmpR op_eq (pe_op op_mod (pv 0) pe_int) pe_int (nomark _)) (pss_one (ps_ret (pe_op op_mod (pe_op op_fdiv (pv 0) pe_int) (pe_op op_pow pe_int pe_int)))) pss_nil)
      (pss_one (ps_ret (pe_op op_mod (pe_op op_fdiv (pv 0) pe_int) pe_int)))), ?_⟩
    tm_at "rd"
    refine iteD (fun _ => ?_) (fun _ => ?_)
    · tm_at "rd"
      show Q (.int (c / 2 % 10 ^ (58 : Int).toNat)) H
      rw [p58]
      exact q _ (Int.emod_nonneg _ (by decide)) (Int.emod_lt_of_pos _ (by decide))
    · tm_at "rd"
      have h1 := Int.emod_nonneg (c / 2) (show (70001 : Int) ≠ 0 by decide)
      have h2 := Int.emod_lt_of_pos (c / 2) (show (0 : Int) < 70001 by decide)
      exact q _ (by omega) (by omega)
theorem ok_guest7 (D : Def K mg "_law_guest" s_l_guest ["_law_cell", "_law_base_here"] f fd) (T : Txt K mg cs) : FnOk P w K mg base CX0 1 f fd ["_law_cell", "_law_base_here"] spGuest7 := by
  refine D.F.ok sc_l_guest (fun vs H Q E h => ?_) (fun cdv A outer s H vs Q E hr h => ?_)
  · obtain ⟨c, b, rfl, _⟩ := h
    rfl
  · obtain ⟨c, b, rfl, b0, b1, q⟩ := h
    have nd := sc_l_guest.nd
    have hP : P58 = 10000000000000000000000000000000000000000000000000000000000 := rfl
    have hP6 : P60 = 1000000000000000000000000000000000000000000000000000000000000 := rfl
    have hP4 : P40 = 10000000000000000000000000000000000000000 := rfl
    refine ⟨_, (pss_cons (ps_set (i := 2) nd rfl (Or.inl rfl) (pe_op op_fdiv (pv 0) pe_int))
      (pss_cons (ps_if (pt_cmpR op_eq (pe_op op_mod (pv 0) pe_int) pe_int (nomark _)) (pss_one (ps_ret (pe_op op_mod (pv 2) (pe_op op_pow pe_int pe_int)))) pss_nil)
      (pss_cons (ps_if (pt_cmpR op_eq (pe_op op_mod (pv 0) pe_int) pe_int (nomark _)) (pss_one (ps_ret (pe_op op_mod (pv 2) pe_int))) pss_nil)
      (pss_cons (ps_if (pt_cmpR op_eq (pe_op op_mod (pv 0) pe_int) pe_int (nomark _)) (pss_one (ps_ret (pe_op op_add (pv 1) (pe_op op_mul (pe_op op_pow pe_int pe_int) (pe_op op_mod (pv 2) (pe_op op_pow pe_int pe_int)))))) pss_nil)
      (pss_cons (ps_if (pt_cmpR op_eq (pe_op op_mod (pv 0) pe_int) pe_int (nomark _)) (pss_one (ps_ret (pe_op op_add (pv 1) (pe_op op_mul pe_int (pe_op op_mod (pv 2) pe_int))))) pss_nil)
      (pss_one (ps_ret (pe_op op_add (pe_op op_add (pv 1) (pe_op op_mul pe_int (pe_op op_mod (pv 2) pe_int))) (pe_op op_mul (pe_op op_pow pe_int pe_int) (pe_op op_mod (pe_op op_fdiv (pv 2) pe_int) pe_int)))))))))), ?_⟩
    tm_at "rd"
    refine iteD (fun _ => ?_) (fun _ => ?_)
    · tm_at "rd"
      show Q (.int (c / 5 % 10 ^ (60 : Int).toNat)) H
      rw [p60]
      exact q _ (Int.emod_nonneg _ (by decide)) (Int.emod_lt_of_pos _ (by decide))
    tm_at "rd"
    refine iteD (fun _ => ?_) (fun _ => ?_)
    · tm_at "rd"
      have h1 := Int.emod_nonneg (c / 5) (show (400 : Int) ≠ 0 by decide)
      have h2 := Int.emod_lt_of_pos (c / 5) (show (0 : Int) < 400 by decide)
      exact q _ (by omega) (by omega)
    tm_at "rd"
    refine iteD (fun _ => ?_) (fun _ => ?_)
    · tm_at "rd"
      show Q (.int (b + 2 ^ (32 : Int).toNat * (c / 5 % 10 ^ (40 : Int).toNat))) H
      rw [p40, p32]
      have h1 := Int.emod_nonneg (c / 5) (show P40 ≠ 0 by decide)
      have h2 := Int.emod_lt_of_pos (c / 5) (show 0 < P40 by decide)
      exact q _ (by omega) (by omega)
    tm_at "rd"
    refine iteD (fun _ => ?_) (fun _ => ?_)
    · tm_at "rd"
      have h1 := Int.emod_nonneg (c / 5) (show (12 : Int) ≠ 0 by decide)
      have h2 := Int.emod_lt_of_pos (c / 5) (show (0 : Int) < 12 by decide)
      exact q _ (by omega) (by omega)
    · tm_at "rd"
      show Q (.int (b + 65536 * (c / 5 % 3) + 2 ^ (32 : Int).toNat * (c / 5 / 3 % 7))) H
      rw [p32]
      have h1 := Int.emod_nonneg (c / 5) (show (3 : Int) ≠ 0 by decide)
      have h2 := Int.emod_lt_of_pos (c / 5) (show (0 : Int) < 3 by decide)
      have h3 := Int.emod_nonneg (c / 5 / 3) (show (7 : Int) ≠ 0 by decide)
      have h4 := Int.emod_lt_of_pos (c / 5 / 3) (show (0 : Int) < 7 by decide)
      exact q _ (by omega) (by omega)
theorem ok_drawn (D : Def K mg "_law_drawn" s_l_drawn ["_law_cells", "_law_base_here"] f fd) (T : Txt K mg cs) : FnOk P w K mg base CX0 2 f fd ["_law_cells", "_law_base_here"] (spDrawn K) := by
  obtain ⟨f1, fd1, D_l_guest⟩ := T.d_l_guest
  have G_l_guest : FnOk P w K mg base CX0 1 f1 fd1 _ _ := ok_guest7 D_l_guest T
  refine D.F.ok sc_l_drawn (fun vs H Q E h => ?_) (fun cdv A outer s H vs Q E hr1 h => ?_)
  · obtain ⟨a, cs, b, rfl, _⟩ := h
    rfl
  · obtain ⟨a, cl, b, rfl, hS, hl, b0, b1, q⟩ := h
    have nd := sc_l_drawn.nd
    have hu := hu_of hr1
    refine ⟨_, (pss_cons (ps_set (i := 2) nd rfl (Or.inl rfl) pe_dnewK)
      (pss_cons (ps_for PassesOwn.never rfl (pi_list (pv 0)) (pg_name (i := 3) nd rfl (Or.inl rfl)) (pss_one (ps_dput hu (pv 2) (pe_def D_l_guest G_l_guest hr1 (pa_c (pv 3) (pa_c (pv 1) pa_nil))) pe_bl rfl)))
      (pss_one (ps_ret (pe_t (call_listD rfl) T.n_list PyProof.Rows.boot_list (pa_c (pv 2) pa_nil)))))), ?_⟩
    tm_at "rd"
    intro d hd
    tm_at "rd"
    have sm0 : Same H (upd H d (.dK [])) := Same.new (Same.refl H) hd
    refine ⟨a, rfl, ⟨_, sm0.seq hS⟩, for_list (xs := cl.map V.int) (fun i σ H' => ∃ (ds : List Int) (kvs : List (Key × V)) (v3 : Option V), σ = [some (.ref a), some (.int b), some (.ref d), v3] ∧ Same H H' ∧ H' d = some (.dK kvs) ∧ kvs.map (·.1) = ds.map Sum.inl ∧ ds.Nodup ∧ (∀ g ∈ ds, 0 ≤ g ∧ g < P60) ∧ ds.length ≤ i) ⟨[], [], _, rfl, sm0, upd_same, rfl, List.nodup_nil, fun g hg => (nomatch hg), Nat.le_refl _⟩ (fun i σ H' _ h => by obtain ⟨_, _, _, _, sm, _⟩ := h; exact sm.seq hS) ?_ ?_⟩
    · rintro i x σ H' hx ⟨ds, kvs, v3, rfl, sm, hk, hkk, hnd, hb, hdl⟩
      obtain ⟨c, _, rfl⟩ := List.mem_map.mp (List.mem_of_getElem? hx)
      have hi : i < 63 := by
        have := (List.getElem?_eq_some_iff.mp hx).1
        rw [List.length_map] at this
        omega
      have hkl : kvs.length = ds.length := by
        have := congrArg List.length hkk
        rwa [List.length_map, List.length_map] at this
      tm_at "rd"
      refine ⟨c, b, rfl, b0, b1, fun g g0 g1 => ?_⟩
      tm_at "rd"
      refine ⟨d, _, rfl, DPut.k (k := Sum.inl g) hk (small1000 (by omega)), ?_⟩
      tm_at "rd"
      have sm' : Same H (upd H' d (.dK (putK kvs (Sum.inl g) (.bl true)))) := fun bb u e => by
        have ne : bb ≠ d := fun z => by rw [z, hd] at e; cases e
        rw [upd_ne ne]
        exact sm _ _ e
      by_cases hg : g ∈ ds
      · refine ⟨ds, putK kvs (Sum.inl g) (.bl true), _, rfl, sm', upd_same, ?_, hnd, hb, by omega⟩
        have hany : (kvs.any fun kv => decide (kv.1 = Sum.inl g)) = true := by
          have : (Sum.inl g : Key) ∈ kvs.map (·.1) := by rw [hkk]; exact List.mem_map.mpr ⟨g, hg, rfl⟩
          obtain ⟨p, hp, e⟩ := List.mem_map.mp this
          exact List.any_eq_true.mpr ⟨p, hp, decide_eq_true e⟩
        unfold putK
        rw [if_pos hany, List.map_map, ← hkk]
        refine List.map_congr_left fun p _ => ?_
        show (if p.1 = Sum.inl g then (p.1, V.bl true) else p).1 = p.1
        split <;> rfl
      · have hnone : valV kvs (Sum.inl g) = none := by
          cases z : valV kvs (Sum.inl g) with
          | none => rfl
          | some v =>
            have := valV_in z
            rw [hkk] at this
            obtain ⟨g', hg', e⟩ := List.mem_map.mp this
            exact absurd (Sum.inl.inj e ▸ hg') hg
        refine ⟨ds ++ [g], putK kvs (Sum.inl g) (.bl true), _, rfl, sm', upd_same, ?_, nd_snoc hnd hg, fun g' hg' => ?_, ?_⟩
        · rw [putK_new _ hnone, List.map_append, List.map_append, hkk]
          rfl
        · rcases List.mem_append.mp hg' with z | z
          · exact hb g' z
          · rw [List.mem_singleton.mp z]; exact ⟨g0, g1⟩
        · rw [List.length_append]
          show ds.length + 1 ≤ i + 1
          omega
    · rintro σ H' ⟨ds, kvs, v3, rfl, sm, hk, hkk, hnd, hb, hdl⟩
      rw [List.length_map] at hdl
      tm_at "rd"
      refine ⟨d, kvs, rfl, hk, fun l hl0 => ?_⟩
      have e : (kvs.map fun kv => kV kv.1) = ds.map V.int := by
        have h1 : (kvs.map fun kv => kV kv.1) = (kvs.map (·.1)).map kV := by rw [List.map_map]; rfl
        rw [h1, hkk, List.map_map]
        rfl
      rw [e]
      exact q l ds _ hnd hb hdl (Same.new sm hl0) upd_same (sm.free hl0)

theorem ok_odd13 (D : Def K mg "_law_odd" s_l_odd ["_law_cell"] f fd) (T : Txt K mg cs) : FnOk P w K mg base CX0 1 f fd ["_law_cell"] (spOdd2 K) := by
  refine D.F.ok sc_l_odd (fun vs H Q E h => ?_) (fun cdv A outer s H vs Q E hr1 h => ?_)
  · obtain ⟨c, rfl, _⟩ := h
    rfl
  · obtain ⟨c, rfl, q⟩ := h
    have nd := sc_l_odd.nd
    refine ⟨_, (pss_cons (ps_set (i := 1) nd rfl (Or.inl rfl) (pe_op op_mod (pe_op op_fdiv (pv 0) pe_int) (pe_op op_pow pe_int pe_int)))
      (pss_cons (ps_set (i := 2) nd rfl (Or.inl rfl) (pe_lst (pa_c pe_bl (pa_c pe_bl (pa_c pe_non (pa_c pe_str (pa_c pe_str (pa_c (pe_lst (pa_c pe_int pa_nil)) (pa_c (pe_tup (pa_c pe_int pa_nil)) (pa_c pe_dnewK (pa_c (pe_un un_neg pe_int) (pa_c (pe_op op_pow pe_int pe_int) (pa_c (pe_op op_sub (pe_un un_neg pe_int) (pv 1)) (pa_c (pe_op op_add (pe_op op_add (pe_op op_pow pe_int pe_int) pe_int) (pv 1)) (pa_c (pe_lst pa_nil) pa_nil)))))))))))))))
      (pss_one (ps_ret (pe_ix ix_list (pv 2) (pe_op op_mod (pv 0) pe_int) (fun _ _ => rfl)))))), ?_⟩
    tm_at "rd"
    rw [p40]
    have g0 := Int.emod_nonneg (c / 13) (show P40 ≠ 0 by decide)
    generalize c / 13 % P40 = g at g0
    refine ⟨(by show 1 ≤ sizeLine; decide), fun p1 h1 => ?_⟩
    tm_at "rd"
    refine ⟨(by show 1 ≤ sizeLine; decide), fun p2 h2 => ?_⟩
    tm_at "rd"
    intro p3 h3
    tm_at "rd"
    rw [p60]
    refine ⟨(by show 0 ≤ sizeLine; decide), fun p4 h4 => ?_⟩
    tm_at "rd"
    refine ⟨(by show 13 ≤ sizeLine; decide), fun p5 h5 => ?_⟩
    tm_at "rd"
    have e1' := upd_old (u := .lst []) (upd_old (u := .dK []) (upd_old (u := .tup [.int 7]) (show upd H p1 (.lst [.int 7]) p1 = some (.lst [.int 7]) from upd_same) h2) h3) h4
    have e2' := upd_old (u := .lst []) (upd_old (u := .dK []) (show upd (upd H p1 (.lst [.int 7])) p2 (.tup [.int 7]) p2 = some (.tup [.int 7]) from upd_same) h3) h4
    have e3' := upd_old (u := .lst []) (show upd (upd (upd H p1 (.lst [.int 7])) p2 (.tup [.int 7])) p3 (.dK []) p3 = some (.dK []) from upd_same) h4
    have e4' : upd (upd (upd (upd H p1 (.lst [.int 7])) p2 (.tup [.int 7])) p3 (.dK [])) p4 (.lst []) p4 = some (.lst []) := upd_same
    have sm : Same H (upd (upd (upd (upd H p1 (.lst [.int 7])) p2 (.tup [.int 7])) p3 (.dK [])) p4 (.lst [])) := Same.new (Same.new (Same.new (Same.new (Same.refl H) h1) h2) h3) h4
    generalize upd (upd (upd (upd H p1 (.lst [.int 7])) p2 (.tup [.int 7])) p3 (.dK [])) p4 (.lst []) = H3 at h5 e1' e2' e3' e4' sm
    have m0 := Int.emod_nonneg c (show (13 : Int) ≠ 0 by decide)
    have m1 := Int.emod_lt_of_pos c (show (0 : Int) < 13 by decide)
    have hm : c % 13 = 0 ∨ c % 13 = 1 ∨ c % 13 = 2 ∨ c % 13 = 3 ∨ c % 13 = 4 ∨ c % 13 = 5 ∨ c % 13 = 6 ∨ c % 13 = 7 ∨ c % 13 = 8 ∨ c % 13 = 9 ∨ c % 13 = 10 ∨ c % 13 = 11 ∨ c % 13 = 12 := by omega
    have smx : ∀ o, Same H (upd H3 p5 o) := fun o => Same.new sm h5
    rcases hm with z | z | z | z | z | z | z | z | z | z | z | z | z <;> rw [z]
    · exact rd_ixL (SqL.of upd_same) rfl (q _ _ (.inr (.inl ⟨_, rfl⟩)) (smx _) (by first | exact .inl rfl | exact .inr ⟨_, rfl⟩))
    · exact rd_ixL (SqL.of upd_same) rfl (q _ _ (.inr (.inl ⟨_, rfl⟩)) (smx _) (by first | exact .inl rfl | exact .inr ⟨_, rfl⟩))
    · exact rd_ixL (SqL.of upd_same) rfl (q _ _ (.inr (.inr ⟨_, .non, T.k_NoneType_bool, T.k_NoneType_int⟩)) (smx _) (by first | exact .inl rfl | exact .inr ⟨_, rfl⟩))
    · exact rd_ixL (SqL.of upd_same) rfl (q _ _ (.inr (.inr ⟨_, .str _, T.k_str_bool, T.k_str_int⟩)) (smx _) (by first | exact .inl rfl | exact .inr ⟨_, rfl⟩))
    · exact rd_ixL (SqL.of upd_same) rfl (q _ _ (.inr (.inr ⟨_, .str _, T.k_str_bool, T.k_str_int⟩)) (smx _) (by first | exact .inl rfl | exact .inr ⟨_, rfl⟩))
    · exact rd_ixL (SqL.of upd_same) rfl (q _ _ (.inr (.inr ⟨_, .lst (upd_old e1' h5), T.k_list_bool, T.k_list_int⟩)) (smx _) (by first | exact .inl rfl | exact .inr ⟨_, rfl⟩))
    · exact rd_ixL (SqL.of upd_same) rfl (q _ _ (.inr (.inr ⟨_, .tup (upd_old e2' h5), T.k_tuple_bool, T.k_tuple_int⟩)) (smx _) (by first | exact .inl rfl | exact .inr ⟨_, rfl⟩))
    · exact rd_ixL (SqL.of upd_same) rfl (q _ _ (.inr (.inr ⟨_, .dK (upd_old e3' h5), T.k_dict_bool, T.k_dict_int⟩)) (smx _) (by first | exact .inl rfl | exact .inr ⟨_, rfl⟩))
    · exact rd_ixL (SqL.of upd_same) rfl (q _ _ (.inl ⟨_, rfl, by omega⟩) (smx _) (by first | exact .inl rfl | exact .inr ⟨_, rfl⟩))
    · exact rd_ixL (SqL.of upd_same) rfl (q _ _ (.inl ⟨_, rfl, by unfold P60; omega⟩) (smx _) (by first | exact .inl rfl | exact .inr ⟨_, rfl⟩))
    · exact rd_ixL (SqL.of upd_same) rfl (q _ _ (.inl ⟨_, rfl, by omega⟩) (smx _) (by first | exact .inl rfl | exact .inr ⟨_, rfl⟩))
    · exact rd_ixL (SqL.of upd_same) rfl (q _ _ (.inl ⟨_, rfl, by omega⟩) (smx _) (by first | exact .inl rfl | exact .inr ⟨_, rfl⟩))
    · exact rd_ixL (SqL.of upd_same) rfl (q _ _ (.inr (.inr ⟨_, .lst (upd_old e4' h5), T.k_list_bool, T.k_list_int⟩)) (smx _) (by first | exact .inl rfl | exact .inr ⟨_, rfl⟩))

theorem sv_get {t : Seats} {i : Nat} (hi : i < t.length) : (svs t)[i]? = some (sv (sat t i)) := by
  rw [List.getElem?_map, sat_get hi]
  rfl
theorem ok_strain (D : Def K mg "strain" s_strain ["seats"] f fd) (T : Txt K mg cs) : FnOk P w K mg base CX0 3 f fd ["seats"] spStrain := by
  obtain ⟨f1, fd1, D_carried⟩ := T.d_carried
  have G_carried : FnOk P w K mg base CX0 2 f1 fd1 _ _ := ok_carried D_carried T
  refine D.F.ok sc_strain (fun vs H Q E h => ?_) (fun cdv A outer s H vs Q E hr1 h => ?_)
  · obtain ⟨a, s, rfl, _⟩ := h
    rfl
  · obtain ⟨a, t, rfl, hH, hl, q⟩ := h
    have nd := sc_strain.nd
    refine ⟨_, (pss_cons (ps_set (i := 1) nd rfl (Or.inr rfl) (pe_b call_len_seq T.n_len PySem.boot_len (pa_c (pv 0) pa_nil)))
      (pss_cons (ps_setC (i := 2) nd rfl rfl rfl (N' := ["at", "guest", "many"]) (own := 2) (fr := [1]) (show BlkScope ["seats", "many", "ways"] (defScope s_strain) _ _ _ _ from by tm_at "blk_is") (pi_enum T.n_enumerate (pa_c (pv 0) pa_nil)) (fun _ _ _ _ _ => (pg_pairB (i := 0) (j := 1) rfl (show (["at", "guest", "many"] : List Str).Nodup from by decide) rfl rfl rfl rfl)) (fun _ _ _ _ _ => (pifs_one (pt_cmpR op_notN (pv 1) pe_non (nomark _)))) (fun _ _ _ _ _ => (pe_def D_carried G_carried hr1 (pa_c (pv 1) (pa_c (pv 0) (pa_c (pv 2) pa_nil))))))
      (pss_one (ps_ret (pe_tup (pa_c (pe_b (call_sumI rfl) T.n_sum PyProof.Rows.boot_sum (pa_c (pv 2) pa_nil)) (pa_c (pe_maxD rfl T.n_max (pv 2) pe_int) (pa_c (pe_b (call_sumI rfl) T.n_sum PyProof.Rows.boot_sum (pa_c (pe_comp rfl (N' := ["way"]) (own := 1) (fr := []) (show BlkScope ["seats", "many", "ways"] (defScope s_strain) _ _ _ _ from by tm_at "blk_is") (pi_list (pv 2)) (fun _ _ _ _ _ => (pg_name (i := 0) (show (["way"] : List Str).Nodup from by decide) rfl (Or.inl rfl) (Or.inr rfl))) (fun _ _ _ _ _ => pifs_nil) (fun _ _ _ _ _ => (pe_op op_mul (pv 0) (pv 0)))) pa_nil)) pa_nil)))))))), ?_⟩
    tm_at "rd"
    refine ⟨_, _, rfl, .inl (SqL.of hH), ?_⟩
    rw [svs_len]
    tm_at "rd"
    refine ⟨a, _, rfl, hH, ?_⟩
    refine comp_gen (own := 2) (fr := [1]) (n := t.length) (p := fun i => (sat t i).isSome) (f := fun i => .int ((costAt t.length (hm t.length) id (sat t i) i : Nat) : Int)) (S := fun σ => ∃ v1 v2, σ = [v1, v2, some (.int (t.length : Int))]) ⟨_, _, rfl⟩ (Nat.le_trans hl (by decide)) (fun i H' x H'' _ _ y => ?_) (fun i σ H' hi hσ sm => ?_) (fun H' sm => ?_) (fun l H1 hl0 sm hH1 => ?_)
    · obtain ⟨u, y, hn, rfl, rfl, _⟩ := y
      exact Same.new (Same.refl _) hn
    · obtain ⟨v1, v2, rfl⟩ := hσ
      refine ⟨⟨_, _, SqL.of (sm _ _ hH), sv_get hi⟩, ?_⟩
      rintro x H'' ⟨u, y, hn, rfl, rfl, hy⟩ R R0 h1 h0
      have hy' := hy _ (SqL.of (sm _ _ hH))
      rw [sv_get hi] at hy'
      cases hy'
      refine rd_gtup (SqT.of upd_same) rfl ?_
      tm_at "rd"
      cases hg : sat t i with
      | none =>
        refine iteN (fun z => absurd rfl z) (fun _ => ?_)
        exact h0 (by rw [hg]; rfl) _ _ ⟨_, _, rfl⟩ (by rw [hg]; exact Same.refl _)
      | some g =>
        rw [sv_some]
        refine iteN (fun _ => ?_) (fun z => nomatch z)
        tm_at "rd"
        have := h1 (by rw [hg]; rfl) [some (.int (i : Int)), some (.int g), some (.int (t.length : Int))] (upd H' u (.tup [.int (i : Int), sv (sat t i)])) ⟨_, _, rfl⟩ (Same.refl _)
        simp only [hg] at this
        exact this
    · exact ⟨_, SqL.of (sm _ _ hH), by rw [svs_len]; exact Nat.le_refl _⟩
    · have hW : ((List.range t.length).filter fun i => (sat t i).isSome).map (fun i => V.int ((costAt t.length (hm t.length) id (sat t i) i : Nat) : Int)) = (ways t.length t t.length).map V.int := by
        unfold ways
        rw [List.map_map]
        rfl
      rw [hW] at hH1
      tm_at "rd"
      refine ⟨l, _, rfl, SqL.of hH1, ?_⟩
      tm_at "rd"
      refine ⟨l, _, _, rfl, rfl, SqL.of hH1, fun M hM => ?_⟩
      tm_at "rd"
      refine ⟨l, rfl, ⟨_, SqL.of hH1⟩, ?_⟩
      have hn0 : ∀ w ∈ ways t.length t t.length, 0 ≤ w ∧ w < 1025 := fun w hw => by
        have h0 : 0 < t.length := by
          rcases Nat.eq_zero_or_pos t.length with z | z
          · rw [z] at hw
            cases hw
          · exact z
        have := ways_lt h0 (Nat.le_refl _) hw
        omega
      have hlW : (ways t.length t t.length).length ≤ t.length := by
        unfold ways
        rw [List.length_map]
        have := List.length_filter_le (fun i => (sat t i).isSome) (List.range t.length)
        rw [List.length_range] at this
        exact this
      refine comp_gen (own := 1) (fr := []) (n := (ways t.length t t.length).length) (p := fun _ => true) (f := fun i => .int ((ways t.length t t.length).getD i 0 * (ways t.length t t.length).getD i 0)) (S := fun σ => ∃ v, σ = [v]) ⟨_, rfl⟩ (Nat.le_trans hlW (Nat.le_trans hl (by decide))) (fun i H' x H'' _ _ y => ?_) (fun i σ H' hi hσ sm2 => ?_) (fun H' sm2 => ?_) (fun l2 H2 hl2 sm2 hH2 => ?_)
      · obtain ⟨rfl, _⟩ := y
        exact Same.refl _
      · obtain ⟨v, rfl⟩ := hσ
        have hg : ((ways t.length t t.length).map V.int)[i]? = some (.int ((ways t.length t t.length).getD i 0)) := by
          rw [List.getElem?_map, List.getElem?_eq_getElem hi]
          simp [List.getD, hi]
        refine ⟨⟨_, _, SqL.of (sm2 _ _ hH1), hg⟩, ?_⟩
        rintro x H'' ⟨rfl, hx⟩ R R0 h1 h0
        have hx' := hx _ (SqL.of (sm2 _ _ hH1))
        rw [hg] at hx'
        cases hx'
        tm_at "rd"
        refine iteT ?_
        tm_at "rd"
        have hw : (ways t.length t t.length).getD i 0 ∈ ways t.length t t.length := by
          have : (ways t.length t t.length).getD i 0 = (ways t.length t t.length)[i] := by simp [List.getD, hi]
          rw [this]
          exact List.getElem_mem hi
        have hb := hn0 _ hw
        refine rd_i (.inl ⟨by omega, by omega⟩) ?_
        exact h1 rfl _ _ ⟨_, rfl⟩ (Same.refl _)
      · exact ⟨_, SqL.of (sm2 _ _ hH1), by rw [List.length_map]; exact Nat.le_refl _⟩
      · have hW2 : ((List.range (ways t.length t t.length).length).filter fun _ => true).map (fun i => V.int ((ways t.length t t.length).getD i 0 * (ways t.length t t.length).getD i 0)) = ((ways t.length t t.length).map fun w => w * w).map V.int := by
          rw [List.filter_eq_self.mpr (fun _ _ => rfl), List.map_map]
          refine List.ext_getElem (by simp) fun i h1 h2 => ?_
          have hi : i < (ways t.length t t.length).length := by simpa using h2
          simp [List.getD, hi]
        rw [hW2] at hH2
        tm_at "rd"
        refine ⟨l2, _, rfl, SqL.of hH2, ?_⟩
        tm_at "rd"
        refine ⟨(by show 3 ≤ sizeLine; decide), fun tp htp => ?_⟩
        refine q tp _ (Same.new (fun b u e => sm2 _ _ (sm _ _ e)) htp) ?_
        rw [upd_same, ways_sum, ways_sq, ways_max hM]
        rfl

theorem ok_check_list (D : Def K mg "check_list" s_check_list ["guests", "many"] f fd) (T : Txt K mg cs) : FnOk P w K mg base (CXr P w) 5 f fd ["guests", "many"] (spCheckL K cs.NoGuest cs.Twice cs.Full) := by
  obtain ⟨f1, fd1, D_check_guest⟩ := T.d_check_guest
  have G_check_guest : FnOk P w K mg base (CXr P w) 4 f1 fd1 _ _ := (ok_check D_check_guest T).mono (by decide)
  refine D.F.okX sc_check_list (fun vs H Q E h => ?_) (fun cdv A outer s H vs Q E hr1 h => ?_)
  · rcases h with ⟨a, t, g, rfl, _⟩ | ⟨a, t, g, rfl, _⟩ <;> rfl
  · have nd := sc_check_list.nd
    rcases h with ⟨a, xs, n, rfl, hS, ⟨⟨x0, hx0, bad⟩, hall⟩, q⟩ | ⟨a, ds, n, rfl, hS, hg, hl, q⟩
    all_goals refine ⟨_, (ssx_cons (sx_for rfl (pi_list (pv 0)) (pg_name (i := 2) nd rfl (Or.inl rfl)) (ssx_one (sx_expr (pex_def ownFr_cx D_check_guest G_check_guest hr1 (pa_c (pv 2) pa_nil)))))
      (ssx_cons (sx_if (pt_cmpR op_lt (pe_b call_lenS T.n_len PySem.boot_len (pa_c (pe_t (call_setI rfl) T.n_set PyProof.Rows.boot_set (pa_c (pv 0) pa_nil)) pa_nil)) (pe_b call_len_seq T.n_len PySem.boot_len (pa_c (pv 0) pa_nil)) (nomark _)) (ssx_one (sx_raise ownFr_cx rfl T.K_Twice (pa_c pe_str pa_nil))) ssx_nil)
      (ssx_one (sx_if (pt_cmpR op_ge (pe_b call_len_seq T.n_len PySem.boot_len (pa_c (pv 0) pa_nil)) (pv 1) (nomark _)) (ssx_one (sx_raise ownFr_cx rfl T.K_Full (pa_c pe_str pa_nil))) ssx_nil)))), ?_⟩
    · tm_at "rd"
      obtain ⟨j, hj⟩ := List.mem_iff_getElem?.mp hx0
      refine ⟨a, rfl, ⟨_, hS⟩, for_listX (xs := xs) (fun i σ H' => H = H' ∧ i ≤ j ∧ ∃ v2, σ = [some (.ref a), some (.int n), v2]) ⟨rfl, Nat.zero_le _, _, rfl⟩ (fun i σ H' _ h => by obtain ⟨rfl, _⟩ := h; exact hS) ?_ ?_⟩
      · rintro i x σ H' hx ⟨rfl, hij, v2, rfl⟩
        tm_at "rd"
        by_cases e : i = j
        · rw [e, hj] at hx
          cases hx
          exact .inr ⟨x0, rfl, bad, q⟩
        · rcases hall x (List.mem_of_getElem? hx) with ⟨g, rfl, g0, g1⟩ | hb
          · refine .inl ⟨g, rfl, g0, g1, ?_⟩
            tm_at "rd"
            exact ⟨rfl, by omega, _, rfl⟩
          · exact .inr ⟨x, rfl, hb, q⟩
      · rintro σ H' ⟨rfl, hij, v2, rfl⟩
        have := (List.getElem?_eq_some_iff.mp hj).1
        omega
    · tm_at "rd"
      refine ⟨a, rfl, ⟨_, hS⟩, for_listX (xs := ds.map V.int) (fun i σ H' => H = H' ∧ ∃ v2, σ = [some (.ref a), some (.int n), v2]) ⟨rfl, _, rfl⟩ (fun i σ H' _ h => by obtain ⟨rfl, _⟩ := h; exact hS) ?_ ?_⟩
      · rintro i x σ H' hx ⟨rfl, v2, rfl⟩
        obtain ⟨g, hgm, rfl⟩ := List.mem_map.mp (List.mem_of_getElem? hx)
        tm_at "rd"
        refine .inl ⟨g, rfl, (hg g hgm).1, (hg g hgm).2, ?_⟩
        tm_at "rd"
        exact ⟨rfl, _, rfl⟩
      · rintro σ H' ⟨rfl, v2, rfl⟩
        tm_at "rd"
        refine ⟨a, ds, rfl, hS, hl, fun l S m hl0 hm hle => ?_⟩
        have sm : Same H (upd H l (.set S m)) := Same.new (Same.refl H) hl0
        tm_at "rd"
        refine ⟨l, S, m, rfl, upd_same, ?_⟩
        tm_at "rd"
        refine ⟨_, _, rfl, .inl (sm.seq hS), ?_⟩
        rw [List.length_map]
        tm_at "rd"
        obtain ⟨q1, q2, q3⟩ := q _ sm
        refine iteD (fun hlt => ?_) (fun hge => ?_)
        · tm_at "rd"
          exact ⟨(by show 1 ≤ sizeLine; decide), q1 fun z => by have := hm.mpr z; omega⟩
        · have hnd : ds.Nodup := hm.mp (by omega)
          tm_at "rd"
          refine ⟨_, _, rfl, .inl (sm.seq hS), ?_⟩
          rw [List.length_map]
          tm_at "rd"
          refine iteD (fun hlt => ?_) (fun hge => ?_)
          · tm_at "rd"
            exact ⟨(by show 1 ≤ sizeLine; decide), q2 hnd (by omega)⟩
          · tm_at "rd"
            exact q3 hnd (by omega)
theorem rep_svs (n : Nat) : (List.replicate n [V.non]).flatten = svs (List.replicate n none) := by
  induction n with
  | zero => rfl
  | succ n ih =>
    rw [List.replicate_succ, List.flatten_cons, ih]
    rfl
theorem ok_seated (D : Def K mg "seated" s_seated ["guests", "many"] f fd) (T : Txt K mg cs) : FnOk P w K mg base (CXr P w) 6 f fd ["guests", "many"] (spSeatedF K cs.NoGuest cs.Twice cs.Full) := by
  obtain ⟨f1, fd1, D_check_list⟩ := T.d_check_list
  have G_check_list : FnOk P w K mg base (CXr P w) 5 f1 fd1 _ _ := ok_check_list D_check_list T
  obtain ⟨f2, fd2, D_put⟩ := T.d_put
  have G_put : FnOk P w K mg base CX0 5 f2 fd2 _ _ := (ok_put D_put T).mono (by decide)
  refine D.F.okX sc_seated (fun vs H Q E h => ?_) (fun cdv A outer s H vs Q E hr1 h => ?_)
  · rcases h with ⟨a, t, g, rfl, _⟩ | ⟨a, t, g, rfl, _⟩ <;> rfl
  · have nd := sc_seated.nd
    rcases h with ⟨a, xs, n, rfl, hS, hB, q⟩ | ⟨a, ds, n, rfl, hS, hg, hl, n2, n3, q⟩
    all_goals refine ⟨_, (ssx_cons (sx_expr (pex_def ownFr_cx D_check_list G_check_list hr1 (pa_c (pv 0) (pa_c (pv 1) pa_nil))))
      (ssx_cons (sx (ps_set (i := 2) nd rfl (Or.inl rfl) (pe_op op_rep (pe_lst (pa_c pe_non pa_nil)) (pv 1))))
      (ssx_cons (sx (ps_for PassesOwn.never rfl (pi_list (pv 0)) (pg_name (i := 3) nd rfl (Or.inl rfl)) (pss_one (ps_expr (pe_def D_put G_put hr1 (pa_c (pv 2) (pa_c (pv 3) pa_nil)))))))
      (ssx_one (sx (ps_ret (pv 2))))))), ?_⟩
    · tm_at "rd"
      exact .inl ⟨a, xs, n, rfl, hS, hB, q⟩
    · tm_at "rd"
      refine .inr ⟨a, ds, n, rfl, hS, hg, hl, fun H1 s1 => ⟨fun z => (q H1 s1).1 z, fun z1 z2 => (q H1 s1).2.1 z1 (by omega), fun hnd hlt => ?_⟩⟩
      have n0 : 0 < n := by omega
      have hh : ∀ g, hm n g < n := fun g => hm_lt n0 g
      tm_at "rd"
      refine ⟨(by show 1 ≤ sizeLine; decide), fun l0 hl0 => ?_⟩
      tm_at "rd"
      have s3 : Same H1 (upd H1 l0 (.lst [.non])) := Same.new (Same.refl H1) hl0
      refine rd_rep upd_same (by omega) (by omega) (Nat.le_trans (show 1 * (n : Int).toNat ≤ 1024 by rw [Int.toNat_natCast]; omega) (by decide)) fun ls hls => ?_
      rw [Int.toNat_natCast, rep_svs]
      generalize upd H1 l0 (.lst [.non]) = H3 at s3 hls
      have emptyS : Settled n (hm n) (List.replicate n none) := ⟨by simp, loc_rep, by rw [who_rep]; exact n0⟩
      have s4 : Same H3 (upd H3 ls (.lst (svs (List.replicate n none)))) := Same.new (Same.refl H3) hls
      have hs4 : upd H3 ls (.lst (svs (List.replicate n none))) ls = some (.lst (svs (List.replicate n none))) := upd_same
      generalize upd H3 ls (.lst (svs (List.replicate n none))) = H4 at s4 hs4
      tm_at "rd"
      have s03 : Same H H3 := s1.trans s3
      refine ⟨a, rfl, ⟨_, s4.seq (s03.seq hS)⟩, for_list (xs := ds.map V.int) (fun i σ H' => ∃ (t : Seats) (v3 : Option V), σ = [some (.ref a), some (.int (n : Int)), some (.ref ls), v3] ∧ Same H3 H' ∧ H' ls = some (.lst (svs t)) ∧ Settled n (hm n) t ∧ (who t).Perm (ds.take i))
        ⟨List.replicate n none, _, rfl, s4, hs4, emptyS, by rw [who_rep, List.take_zero]⟩ (fun i σ H' _ h => by obtain ⟨_, _, _, sm, _⟩ := h; exact sm.seq (s03.seq hS)) ?_ ?_⟩
      · rintro i x σ H' hx ⟨t, v5, rfl, sm, hsl, St, hperm⟩
        rw [List.getElem?_map] at hx
        obtain ⟨g, hgi, rfl⟩ := Option.map_eq_some_iff.mp hx
        have hil := (List.getElem?_eq_some_iff.mp hgi).1
        have tl : t.length = n := St.len
        have hng : g ∉ who t := fun z => not_in_take hnd hgi (hperm.mem_iff.mp z)
        have hroom : (who t).length + 1 < n := by
          rw [hperm.length_eq, List.length_take]
          omega
        have hc := comes_ok n2 hh St hng
        tm_at "rd"
        refine ⟨ls, t, g, rfl, hsl, by rw [tl]; exact St.empty, ?_⟩
        tm_at "rd"
        rw [tl]
        refine ⟨comes n (hm n) t g, _, rfl, fun bb u e => ?_, upd_same, comes_settled n2 hh St hng hroom, ?_⟩
        · have ne : bb ≠ ls := fun z => by rw [z, hls] at e; cases e
          rw [upd_ne ne]
          exact sm _ _ e
        · rw [take_succ_get hgi]
          exact hc.2.2.trans ((List.Perm.cons g hperm).trans (List.perm_append_comm (l₁ := [g])))
      · rintro σ H5 ⟨t, v5, rfl, sm5, hs5, St, hperm⟩
        rw [List.length_map, List.take_length] at hperm
        tm_at "rd"
        exact (q H5 (s03.trans sm5)).2.2 hnd (by omega) ls t (s03.free hls) hs5 St hperm

theorem ok_first (D : Def K mg "first_come" s_first_come ["guests", "many"] f fd) (T : Txt K mg cs) : FnOk P w K mg base (CXr P w) 6 f fd ["guests", "many"] (spFirst K cs.NoGuest cs.Twice cs.Full) := by
  obtain ⟨f1, fd1, D_check_list⟩ := T.d_check_list
  have G_check_list : FnOk P w K mg base (CXr P w) 5 f1 fd1 _ _ := ok_check_list D_check_list T
  obtain ⟨f2, fd2, D_home⟩ := T.d_home
  have G_home : FnOk P w K mg base CX0 5 f2 fd2 _ _ := (ok_home D_home T).mono (by decide)
  refine D.F.okX sc_first_come (fun vs H Q E h => ?_) (fun cdv A outer s H vs Q E hr1 h => ?_)
  · rcases h with ⟨a, t, g, rfl, _⟩ | ⟨a, t, g, rfl, _⟩ <;> rfl
  · have nd := sc_first_come.nd
    rcases h with ⟨a, xs, n, rfl, hS, hB, q⟩ | ⟨a, ds, n, rfl, hS, hg, hl, n2, n3, q⟩
    all_goals refine ⟨_, (ssx_cons (sx_expr (pex_def ownFr_cx D_check_list G_check_list hr1 (pa_c (pv 0) (pa_c (pv 1) pa_nil))))
      (ssx_cons (sx (ps_set (i := 2) nd rfl (Or.inl rfl) (pe_op op_rep (pe_lst (pa_c pe_non pa_nil)) (pv 1))))
      (ssx_cons (sx (ps_for PassesOwn.never rfl (pi_list (pv 0)) (pg_name (i := 3) nd rfl (Or.inl rfl)) (pss_cons (ps_set (i := 4) nd rfl (Or.inl rfl) (pe_def D_home G_home hr1 (pa_c (pv 3) (pa_c (pv 1) pa_nil))))
      (pss_cons (ps_while PassesOwn.never (pt_cmpR op_notN (pe_ix ix_list (pv 2) (pv 4) (fun _ _ => rfl)) pe_non (nomark _)) (pss_one (ps_set (i := 4) nd rfl (Or.inl rfl) (pe_op op_mod (pe_op op_add (pv 4) pe_int) (pv 1)))))
      (pss_one (ps_asg (pv 3) (pg_sub (pv 2) (pv 4) set_list)))))))
      (ssx_one (sx (ps_ret (pv 2))))))), ?_⟩
    · tm_at "rd"
      exact .inl ⟨a, xs, n, rfl, hS, hB, q⟩
    · tm_at "rd"
      refine .inr ⟨a, ds, n, rfl, hS, hg, hl, fun H1 s1 => ⟨fun z => (q H1 s1).1 z, fun z1 z2 => (q H1 s1).2.1 z1 (by omega), fun hnd hlt => ?_⟩⟩
      have n0 : 0 < n := by omega
      have hh : ∀ g, hm n g < n := fun g => hm_lt n0 g
      tm_at "rd"
      refine ⟨(by show 1 ≤ sizeLine; decide), fun l0 hl0 => ?_⟩
      tm_at "rd"
      have s3 : Same H1 (upd H1 l0 (.lst [.non])) := Same.new (Same.refl H1) hl0
      refine rd_rep upd_same (by omega) (by omega) (Nat.le_trans (show 1 * (n : Int).toNat ≤ 1024 by rw [Int.toNat_natCast]; omega) (by decide)) fun ls hls => ?_
      rw [Int.toNat_natCast, rep_svs]
      generalize upd H1 l0 (.lst [.non]) = H3 at s3 hls
      have s4 : Same H3 (upd H3 ls (.lst (svs (List.replicate n none)))) := Same.new (Same.refl H3) hls
      have hs4 : upd H3 ls (.lst (svs (List.replicate n none))) ls = some (.lst (svs (List.replicate n none))) := upd_same
      generalize upd H3 ls (.lst (svs (List.replicate n none))) = H4 at s4 hs4
      tm_at "rd"
      have s03 : Same H H3 := s1.trans s3
      refine ⟨a, rfl, ⟨_, s4.seq (s03.seq hS)⟩, for_list (xs := ds.map V.int) (fun i σ H' => ∃ v3 v4 : Option V, σ = [some (.ref a), some (.int (n : Int)), some (.ref ls), v3, v4] ∧ Same H3 H' ∧ H' ls = some (.lst (svs (fcl n (ds.take i)))))
        ⟨_, _, rfl, s4, by rw [List.take_zero]; exact hs4⟩ (fun i σ H' _ h => by obtain ⟨_, _, _, sm, _⟩ := h; exact sm.seq (s03.seq hS)) ?_ ?_⟩
      · rintro i x σ H' hx ⟨v3, v4, rfl, sm, hsl⟩
        rw [List.getElem?_map] at hx
        obtain ⟨g, hgi, rfl⟩ := Option.map_eq_some_iff.mp hx
        have hil := (List.getElem?_eq_some_iff.mp hgi).1
        have hp := fcl_who n2 (ds.take i) (by rw [List.length_take]; omega)
        have tl := fcl_len (n := n) (ds.take i)
        obtain ⟨e, he, hn⟩ := empty_of (s := fcl n (ds.take i)) (by rw [hp.length_eq, List.length_take, tl]; omega)
        rw [take_succ_get hgi, fcl_snoc]
        generalize fcl n (ds.take i) = t at hsl tl he hn
        rw [tl] at he
        tm_at "rd"
        refine ⟨fun m σ H2 => H' = H2 ∧ ∃ p k : Nat, σ = [some (.ref a), some (.int (n : Int)), some (.ref ls), some (.int g), some (.int (p : Int))] ∧ p < n ∧ dist n p e = m ∧ m < k ∧ firstE n k t p = firstE n n t (hm n g), ⟨_, rfl, hm n g, n, rfl, hh g, rfl, dist_lt (hh g) he, rfl⟩, ?_⟩
        rintro m σ H2 ⟨rfl, p, k, rfl, hpn, hd, hk, hR⟩
        obtain ⟨k, rfl⟩ : ∃ k', k = k' + 1 := ⟨k - 1, by omega⟩
        tm_at "rd"
        refine rd_ixL (SqL.of hsl) (svs_at (by omega)) ?_
        tm_at "rd"
        have hR1 : firstE n (k + 1) t p = if sat t p = none then p else firstE n k t (nxt n p) := rfl
        rw [hR1] at hR
        cases hs : sat t p with
        | none =>
          rw [if_pos hs] at hR
          refine iteN (fun z => absurd rfl z) (fun _ => ?_)
          tm_at "rd"
          refine rd_setL hsl (ixN_nat (by rw [svs_len]; omega)) ?_
          rw [svs_setI]
          refine ⟨_, _, rfl, fun bb u e => ?_, ?_⟩
          · have ne : bb ≠ ls := fun z => by rw [z, hls] at e; cases e
            rw [upd_ne ne]
            exact sm _ _ e
          · unfold fcome
            rw [← hR]
            exact upd_same
        | some y =>
          rw [if_neg (by rw [hs]; exact fun z => nomatch z)] at hR
          have hpe : p ≠ e := fun z => by rw [z, hn] at hs; cases hs
          have hstep := dist_to_nxt hpn he hpe
          refine iteN (fun _ => ?_) (fun z => nomatch z)
          refine ⟨_, fun _ _ h => h, ?_⟩
          tm_at "rd"
          rw [on_eq hpn]
          exact ⟨dist n (nxt n p) e, by omega, rfl, nxt n p, k, rfl, nxt_lt hpn, rfl, by omega, hR⟩
      · rintro σ H5 ⟨v3, v4, rfl, sm5, hs5⟩
        rw [List.length_map, List.take_length] at hs5
        tm_at "rd"
        exact (q H5 (s03.trans sm5)).2.2 hnd (by omega) ls (s03.free hls) hs5

theorem ok_ref08 (D : Def K mg "_law_refused" s_l_refused ["_law_guests", "_law_many"] f fd) (T : Txt K mg cs) : FnOk P w K mg base (CXr P w) 7 f fd ["_law_guests", "_law_many"] (spRef08 K) := by
  obtain ⟨f1, fd1, D_first_come⟩ := T.d_first_come
  have G_first_come : FnOk P w K mg base (CXr P w) 6 f1 fd1 _ _ := ok_first D_first_come T
  refine D.F.okX sc_l_refused (fun vs H Q E h => ?_) (fun cdv A outer s H vs Q E hr1 h => ?_)
  · obtain ⟨a, xs, n, d1, d2, d3, rfl, _⟩ := h
    rfl
  · have nd := sc_l_refused.nd
    obtain ⟨a, xs, n, d1, d2, d3, rfl, hS, n2, n3, due, some1, q⟩ := h
    refine ⟨_, (ssx_cons (sx_try (i := 2) ownFr_cx nd (ssx_one (sx_expr (pex_def ownFr_cx D_first_come G_first_come hr1 (pa_c (pv 0) (pa_c (pv 1) pa_nil))))) (fun _ => (pss_cons (ps_set (i := 3) nd rfl (Or.inl rfl) (pe_lst (pa_c (pe_b call_isinstH T.n_isinstance PyProof.Rows.boot_isinstance (pa_c (pv 2) (pa_c (pe_gref T.m_NoGuest) pa_nil))) (pa_c (pe_b call_isinstH T.n_isinstance PyProof.Rows.boot_isinstance (pa_c (pv 2) (pa_c (pe_gref T.m_Twice) pa_nil))) (pa_c (pe_b call_isinstH T.n_isinstance PyProof.Rows.boot_isinstance (pa_c (pv 2) (pa_c (pe_gref T.m_Full) pa_nil))) pa_nil)))))
      (pss_cons (ps_set (i := 4) nd rfl (Or.inl rfl) (pe_or (pe_b call_isinstH T.n_isinstance PyProof.Rows.boot_isinstance (pa_c (pv 2) (pa_c (pe_gref T.m_Away) pa_nil))) (pe_one (pe_b call_isinstH T.n_isinstance PyProof.Rows.boot_isinstance (pa_c (pv 2) (pa_c (pe_gref T.m_NoSize) pa_nil))))))
      (pss_one (ps_ret (pe_op op_cat (pv 3) (pe_lst (pa_c (pe_and (pe_b call_isinstH T.n_isinstance PyProof.Rows.boot_isinstance (pa_c (pv 2) (pa_c (pe_ty T.n_ValueError PyProof.Rows.boot_ValueError) pa_nil))) (pe_one (pe_not (pv 4)))) pa_nil)))))))) T.m_RingError rfl)
      (ssx_one (sx (ps_ret (pe_lst pa_nil))))), ?_⟩
    tm_at "rd"
    rcases due with ⟨rfl, rfl, rfl, hB⟩ | ⟨rfl, es, rfl, hg, hl, hd⟩
    · refine .inl ⟨a, xs, n, rfl, hS, hB, T.x_NoGuest, fun e he => ?_⟩
      tm_at "rd"
      refine ⟨e, cs.NoGuest, _, .ref cs.NoGuest, true, rfl, upd_same, rfl, T.K_NoGuest.k, T.K_NoGuest.c, T.i_NoGuest_NoGuest, ?_⟩
      tm_at "rd"
      refine ⟨e, cs.NoGuest, _, .ref cs.Twice, false, rfl, upd_same, rfl, T.K_NoGuest.k, T.K_NoGuest.c, T.i_NoGuest_Twice, ?_⟩
      tm_at "rd"
      refine ⟨e, cs.NoGuest, _, .ref cs.Full, false, rfl, upd_same, rfl, T.K_NoGuest.k, T.K_NoGuest.c, T.i_NoGuest_Full, ?_⟩
      tm_at "rd"
      refine ⟨(by show 3 ≤ sizeLine; decide), fun l1 hl1 => ?_⟩
      tm_at "rd"
      refine ⟨e, cs.NoGuest, _, .ref cs.Away, false, rfl, upd_old upd_same hl1, rfl, T.K_NoGuest.k, T.K_NoGuest.c, T.i_NoGuest_Away, ?_⟩
      tm_at "rd"
      refine iteF ?_
      tm_at "rd"
      refine ⟨e, cs.NoGuest, _, .ref cs.NoSize, false, rfl, upd_old upd_same hl1, rfl, T.K_NoGuest.k, T.K_NoGuest.c, T.i_NoGuest_NoSize, ?_⟩
      tm_at "rd"
      refine ⟨e, cs.NoGuest, _, .type "ValueError", true, rfl, upd_old upd_same hl1, rfl, T.K_NoGuest.k, T.K_NoGuest.c, T.v_NoGuest, ?_⟩
      tm_at "rd"
      refine iteT ?_
      tm_at "rd"
      refine ⟨(by show 1 ≤ sizeLine; decide), fun l2 hl2 => ?_⟩
      tm_at "rd"
      refine rd_cat (upd_old upd_same hl2) upd_same (by show 4 ≤ sizeLine; decide) fun l3 hl3 => ?_
      exact q l3 _ (Same.new (Same.new (Same.new (Same.new (Same.refl H) he) hl1) hl2) hl3) upd_same
    · refine .inr ⟨a, es, n, rfl, hS, hg, hl, n2, n3, fun H1 s1 => ⟨fun hnn => ⟨T.x_Twice, fun e he => ?_⟩, fun hnd hle => ⟨T.x_Full, fun e he => ?_⟩, fun hnd hlt => ?_⟩⟩
      · have hd' : d2 = true ∧ d3 = false := by
          rcases hd with ⟨a, b, _⟩ | ⟨_, _, c, _⟩ | ⟨a, b⟩
          · exact ⟨a, b⟩
          · exact absurd c hnn
          · rw [a, b] at some1; simp at some1
        obtain ⟨rfl, rfl⟩ := hd'
        tm_at "rd"
        refine ⟨e, cs.Twice, _, .ref cs.NoGuest, false, rfl, upd_same, rfl, T.K_Twice.k, T.K_Twice.c, T.i_Twice_NoGuest, ?_⟩
        tm_at "rd"
        refine ⟨e, cs.Twice, _, .ref cs.Twice, true, rfl, upd_same, rfl, T.K_Twice.k, T.K_Twice.c, T.i_Twice_Twice, ?_⟩
        tm_at "rd"
        refine ⟨e, cs.Twice, _, .ref cs.Full, false, rfl, upd_same, rfl, T.K_Twice.k, T.K_Twice.c, T.i_Twice_Full, ?_⟩
        tm_at "rd"
        refine ⟨(by show 3 ≤ sizeLine; decide), fun l1 hl1 => ?_⟩
        tm_at "rd"
        refine ⟨e, cs.Twice, _, .ref cs.Away, false, rfl, upd_old upd_same hl1, rfl, T.K_Twice.k, T.K_Twice.c, T.i_Twice_Away, ?_⟩
        tm_at "rd"
        refine iteF ?_
        tm_at "rd"
        refine ⟨e, cs.Twice, _, .ref cs.NoSize, false, rfl, upd_old upd_same hl1, rfl, T.K_Twice.k, T.K_Twice.c, T.i_Twice_NoSize, ?_⟩
        tm_at "rd"
        refine ⟨e, cs.Twice, _, .type "ValueError", true, rfl, upd_old upd_same hl1, rfl, T.K_Twice.k, T.K_Twice.c, T.v_Twice, ?_⟩
        tm_at "rd"
        refine iteT ?_
        tm_at "rd"
        refine ⟨(by show 1 ≤ sizeLine; decide), fun l2 hl2 => ?_⟩
        tm_at "rd"
        refine rd_cat (upd_old upd_same hl2) upd_same (by show 4 ≤ sizeLine; decide) fun l3 hl3 => ?_
        exact q l3 _ (Same.new (Same.new (Same.new (Same.new s1 he) hl1) hl2) hl3) upd_same
      · have hd' : d2 = false ∧ d3 = true := by
          rcases hd with ⟨_, _, c⟩ | ⟨a, b, _⟩ | ⟨a, b⟩
          · exact absurd hnd c
          · exact ⟨a, b⟩
          · rw [a, b] at some1; simp at some1
        obtain ⟨rfl, rfl⟩ := hd'
        tm_at "rd"
        refine ⟨e, cs.Full, _, .ref cs.NoGuest, false, rfl, upd_same, rfl, T.K_Full.k, T.K_Full.c, T.i_Full_NoGuest, ?_⟩
        tm_at "rd"
        refine ⟨e, cs.Full, _, .ref cs.Twice, false, rfl, upd_same, rfl, T.K_Full.k, T.K_Full.c, T.i_Full_Twice, ?_⟩
        tm_at "rd"
        refine ⟨e, cs.Full, _, .ref cs.Full, true, rfl, upd_same, rfl, T.K_Full.k, T.K_Full.c, T.i_Full_Full, ?_⟩
        tm_at "rd"
        refine ⟨(by show 3 ≤ sizeLine; decide), fun l1 hl1 => ?_⟩
        tm_at "rd"
        refine ⟨e, cs.Full, _, .ref cs.Away, false, rfl, upd_old upd_same hl1, rfl, T.K_Full.k, T.K_Full.c, T.i_Full_Away, ?_⟩
        tm_at "rd"
        refine iteF ?_
        tm_at "rd"
        refine ⟨e, cs.Full, _, .ref cs.NoSize, false, rfl, upd_old upd_same hl1, rfl, T.K_Full.k, T.K_Full.c, T.i_Full_NoSize, ?_⟩
        tm_at "rd"
        refine ⟨e, cs.Full, _, .type "ValueError", true, rfl, upd_old upd_same hl1, rfl, T.K_Full.k, T.K_Full.c, T.v_Full, ?_⟩
        tm_at "rd"
        refine iteT ?_
        tm_at "rd"
        refine ⟨(by show 1 ≤ sizeLine; decide), fun l2 hl2 => ?_⟩
        tm_at "rd"
        refine rd_cat (upd_old upd_same hl2) upd_same (by show 4 ≤ sizeLine; decide) fun l3 hl3 => ?_
        exact q l3 _ (Same.new (Same.new (Same.new (Same.new s1 he) hl1) hl2) hl3) upd_same
      · exfalso
        rcases hd with ⟨_, _, c⟩ | ⟨_, _, _, d⟩ | ⟨a, b⟩
        · exact c hnd
        · omega
        · rw [a, b] at some1; simp at some1

/-- where the guests sit, seat by seat -/
def plc (s : Seats) (k : Nat) : List (Key × V) := ((List.range k).filter fun i => (sat s i).isSome).map fun i => (Sum.inl ((sat s i).getD 0), .int (i : Int))
theorem plc_succ (s : Seats) (k : Nat) : plc s (k + 1) = plc s k ++ (if (sat s k).isSome = true then [(Sum.inl ((sat s k).getD 0), .int (k : Int))] else []) := by
  unfold plc
  rw [List.range_succ, List.filter_append, List.map_append]
  by_cases h : (sat s k).isSome = true
  · rw [if_pos h]
    simp [List.filter, h]
  · rw [if_neg h]
    have h' : (sat s k).isSome = false := by simpa using h
    simp [List.filter, h']
theorem plc_keys (s : Seats) : (plc s s.length).map (·.1) = (who s).map Sum.inl := by
  unfold plc
  rw [← who_range s, List.map_map, List.map_map]
  rfl
theorem plc_in {s : Seats} {k : Nat} {g : Int} {v : V} (h : valV (plc s k) (Sum.inl g) = some v) : ∃ j, j < k ∧ sat s j = some g := by
  have := valV_in h
  unfold plc at this
  rw [List.map_map] at this
  obtain ⟨j, hj, e⟩ := List.mem_map.mp this
  obtain ⟨h1, h2⟩ := List.mem_filter.mp hj
  refine ⟨j, List.mem_range.mp h1, ?_⟩
  cases hs : sat s j with
  | none => rw [hs] at h2; cases h2
  | some y =>
    have e' : (sat s j).getD 0 = g := Sum.inl.inj e
    rw [hs] at e'
    exact congrArg some e'
theorem plc_len (s : Seats) (k : Nat) : (plc s k).length ≤ k := by
  unfold plc
  rw [List.length_map]
  exact Nat.le_trans (List.length_filter_le _ _) (by rw [List.length_range]; exact Nat.le_refl _)
theorem sat_once {s : Seats} (hnd : (who s).Nodup) : ∀ {p q : Nat} {g : Int}, p < q → q < s.length → sat s p = some g → sat s q = some g → False := by
  induction s with
  | nil => intro p q g _ h; exact absurd h (Nat.not_lt_zero _)
  | cons o r ih =>
    intro p q g hpq hq h1 h2
    obtain ⟨q, rfl⟩ : ∃ q', q = q' + 1 := ⟨q - 1, by omega⟩
    have h2' : sat r q = some g := h2
    have hq' : q < r.length := by simpa using hq
    cases p with
    | zero =>
      have h1' : o = some g := h1
      subst h1'
      have : who (some g :: r) = g :: who r := rfl
      rw [this] at hnd
      exact (List.nodup_cons.mp hnd).1 (mem_who.mpr ⟨q, hq', h2'⟩)
    | succ p =>
      have hnd' : (who r).Nodup := by
        cases o with
        | none => exact hnd
        | some y => exact (List.nodup_cons.mp (show (y :: who r).Nodup from hnd)).2
      exact ih hnd' (p := p) (q := q) (by omega) hq' h1 h2'
def spPlaces (K : PySem.W.Frag) : Sp := fun vs H Q _ => ∃ (a : Addr) (s : Seats), vs = [.ref a, .int (s.length : Int)] ∧ H a = some (.lst (svs s)) ∧ (who s).Nodup ∧ s.length ≤ 1024 ∧ ∀ (d : Addr) (H' : Hp), Same H H' → H d = none → H' d = some (.dK (plc s s.length)) → Q (.ref d) H'
theorem ok_places (D : Def K mg "_law_places" s_l_places ["_law_seats", "_law_many"] f fd) (T : Txt K mg cs) : FnOk P w K mg base CX0 2 f fd ["_law_seats", "_law_many"] (spPlaces K) := by
  obtain ⟨f3, fd3, D_l_whole⟩ := T.d_l_whole
  have G_l_whole : FnOk P w K mg base CX0 1 f3 fd3 _ _ := ok_whole D_l_whole T
  refine D.F.ok sc_l_places (fun vs H Q E h => ?_) (fun cdv A outer s H vs Q E hr1 h => ?_)
  · obtain ⟨a, t, rfl, _⟩ := h
    rfl
  · obtain ⟨a, t, rfl, hH, hnd, hl, q⟩ := h
    have nd := sc_l_places.nd
    have hu := hu_of hr1
    refine ⟨_, (pss_cons (ps_if ((pw_or (pt_not (pt_val (pe_b call_isinst T.n_isinstance PyProof.Rows.boot_isinstance (pa_c (pv 0) (pa_c (pe_ty T.n_list PyProof.Rows.boot_list) pa_nil))))) (pw_or1 (pt_cmpR op_ne (pe_b call_len_seq T.n_len PySem.boot_len (pa_c (pv 0) pa_nil)) (pv 1) (nomark _))))).pt (pss_one (ps_ret pe_non)) pss_nil)
      (pss_cons (ps_set (i := 2) nd rfl (Or.inl rfl) pe_dnewK)
      (pss_cons (ps_for PassesOwn.never rfl (pi_enum T.n_enumerate (pa_c (pv 0) pa_nil)) (pg_tup rfl (pgs_cons (pg_name (i := 3) nd rfl (Or.inl rfl)) (pgs_cons (pg_name (i := 4) nd rfl (Or.inl rfl)) pgs_nil))) (pss_one (ps_if (pt_cmpR op_notN (pv 4) pe_non (nomark _)) (pss_cons (ps_if ((pw_or (pt_not (pt_val (pe_def D_l_whole G_l_whole hr1 (pa_c (pv 4) pa_nil)))) (pw_or1 (pt_cmp (pc_din hu (pv 4) (pv 2)))))).pt (pss_one (ps_ret pe_non)) pss_nil)
      (pss_one (ps_dput hu (pv 2) (pv 4) (pv 3) rfl))) pss_nil)))
      (pss_one (ps_ret (pv 2)))))), ?_⟩
    tm_at "rd"
    refine ⟨_, _, _, _, rfl, .lst hH, T.k_list_list, ?_⟩
    tm_at "rd"
    refine iteF ?_
    tm_at "rd"
    refine ⟨_, _, rfl, .inl (SqL.of hH), ?_⟩
    rw [svs_len]
    tm_at "rd"
    refine iteN (fun z => absurd rfl z) (fun _ => ?_)
    tm_at "rd"
    intro d hd
    tm_at "rd"
    have sm0 : Same H (upd H d (.dK [])) := Same.new (Same.refl H) hd
    refine ⟨a, _, rfl, sm0 _ _ hH, for_enum (xs := svs t) (fun i σ H' => ∃ v3 v4 : Option V, σ = [some (.ref a), some (.int (t.length : Int)), some (.ref d), v3, v4] ∧ Same H H' ∧ H' d = some (.dK (plc t i))) ⟨_, _, rfl, sm0, upd_same⟩ (fun i σ H' h => by obtain ⟨_, _, _, sm, _⟩ := h; exact SqL.of (sm _ _ hH)) ?_ ?_⟩
    · rintro i x σ H' tp hx ⟨v3, v4, rfl, sm, hk⟩ htp
      have hi : i < t.length := by
        have := (List.getElem?_eq_some_iff.mp hx).1
        rwa [svs_len] at this
      rw [List.getElem?_map, sat_get hi] at hx
      cases hx
      have sm1 : Same H (upd H' tp (.tup [.int (i : Int), sv (sat t i)])) := Same.new sm htp
      have hk1 : upd H' tp (.tup [.int (i : Int), sv (sat t i)]) d = some (.dK (plc t i)) := upd_old hk htp
      refine rd_gtup (SqT.of upd_same) rfl ?_
      generalize upd H' tp (.tup [.int (i : Int), sv (sat t i)]) = H2 at sm1 hk1
      tm_at "rd"
      cases hs : sat t i with
      | none =>
        refine iteN (fun z => absurd rfl z) (fun _ => ?_)
        tm_at "rd"
        refine ⟨_, _, rfl, sm1, ?_⟩
        rw [plc_succ, hs, if_neg (by decide), List.append_nil]
        exact hk1
      | some g =>
        rw [sv_some]
        refine iteN (fun _ => ?_) (fun z => nomatch z)
        tm_at "rd"
        refine iteF ?_
        tm_at "rd"
        have hno : valV (plc t i) (Sum.inl g) = none := by
          cases hv : valV (plc t i) (Sum.inl g) with
          | none => rfl
          | some v =>
            obtain ⟨j, hj, hjs⟩ := plc_in hv
            exact (sat_once hnd hj hi hjs hs).elim
        refine ⟨d, none, rfl, by rw [← hno]; exact DGet.k (k := Sum.inl g) hk1, ?_⟩
        tm_at "rd"
        refine iteF ?_
        tm_at "rd"
        refine ⟨d, _, rfl, DPut.k (k := Sum.inl g) hk1 (Nat.lt_of_le_of_lt (plc_len t i) (Nat.lt_of_lt_of_le hi (Nat.le_trans hl (by decide)))), ?_⟩
        refine ⟨_, _, rfl, fun bb u e => ?_, ?_⟩
        · have ne : bb ≠ d := fun z => by rw [z, hd] at e; cases e
          rw [upd_ne ne]
          exact sm1 _ _ e
        · rw [plc_succ, hs, if_pos (show (some g).isSome = true from rfl), putK_new _ hno]
          exact upd_same
    · rintro σ H' ⟨v3, v4, rfl, sm, hk⟩
      rw [svs_len] at hk
      tm_at "rd"
      exact q d H' sm hd hk

theorem valV_mem : ∀ {kvs : List (Key × V)} {k : Key} {v : V}, (kvs.map (·.1)).Nodup → (k, v) ∈ kvs → valV kvs k = some v
  | [], _, _, _, h => nomatch h
  | p :: r, k, v, hnd, h => by
    have hnd' := List.nodup_cons.mp (show (p.1 :: r.map (·.1)).Nodup from hnd)
    by_cases e : p.1 = k
    · rcases List.mem_cons.mp h with z | z
      · unfold valV
        rw [List.find?_cons_of_pos (by simpa using e), ← z]
        rfl
      · exact absurd (List.mem_map.mpr ⟨_, z, e.symm⟩) hnd'.1
    · rcases List.mem_cons.mp h with z | z
      · exact absurd (by rw [← z]) e
      · have ih := valV_mem hnd'.2 z
        unfold valV at ih ⊢
        rw [List.find?_cons_of_neg (by simpa using e)]
        exact ih
theorem plc_get {s : Seats} (hnd : (who s).Nodup) {p : Nat} {g : Int} (hp : p < s.length) (hs : sat s p = some g) : valV (plc s s.length) (Sum.inl g) = some (.int (p : Int)) := by
  refine valV_mem ?_ ?_
  · rw [plc_keys]
    have inj : ∀ l : List Int, l.Nodup → (l.map (Sum.inl (β := Str))).Nodup := fun l => by
      induction l with
      | nil => intro _; exact List.nodup_nil
      | cons x r ih =>
        intro h
        obtain ⟨h1, h2⟩ := List.nodup_cons.mp h
        refine List.nodup_cons.mpr ⟨fun m => ?_, ih h2⟩
        obtain ⟨y, hy, e⟩ := List.mem_map.mp m
        rw [Sum.inl.inj e] at hy
        exact h1 hy
    exact inj _ hnd
  · unfold plc
    refine List.mem_map.mpr ⟨p, List.mem_filter.mpr ⟨List.mem_range.mpr hp, by rw [hs]; rfl⟩, ?_⟩
    rw [hs]
    rfl
theorem fcl_keeps {n : Nat} (n2 : 2 ≤ n) (l : List Int) {p : Nat} {g : Int} (hs : sat (fcl n l) p = some g) : ∀ r : List Int, (l ++ r).length < n → sat (fcl n (l ++ r)) p = some g := by
  have hh : ∀ g, hm n g < n := fun g => hm_lt (by omega) g
  refine snoc_ind ?_ ?_
  · intro _
    rw [List.append_nil]
    exact hs
  · intro r x ih hl
    rw [← List.append_assoc] at hl ⊢
    rw [List.length_append] at hl
    have hl' : (l ++ r).length + 1 < n := hl
    have h1 := ih (by omega)
    have hp := fcl_who n2 (l ++ r) (by omega)
    obtain ⟨e, he, hn⟩ := empty_of (s := fcl n (l ++ r)) (by rw [hp.length_eq, fcl_len]; omega)
    rw [fcl_len] at he
    obtain ⟨f1, f2, _⟩ := firstE_ok (s := fcl n (l ++ r)) n (hm n x) e (hh x) he hn (dist_lt (hh x) he)
    rw [fcl_snoc]
    unfold fcome
    have ne : p ≠ firstE n n (fcl n (l ++ r)) (hm n x) := fun z => by rw [z, f2] at h1; cases h1
    rw [sat_ne (by rw [fcl_len]; exact f1) ne]
    exact h1
theorem valV_app (kvs : List (Key × V)) (k k' : Key) (v : V) : valV (kvs ++ [(k', v)]) k = (valV kvs k).or (if k' = k then some v else none) := by
  unfold valV
  rw [List.find?_append]
  cases h : kvs.find? fun kv => decide (kv.1 = k) with
  | none =>
    by_cases e : k' = k
    · simp [e]
    · simp [e]
  | some p => rfl
def spTurn (K : PySem.W.Frag) : Sp := fun vs H Q _ => ∃ (a d : Addr) (ds : List Int) (n : Nat), vs = [.ref a, .ref d, .int (n : Int)] ∧ SqL K H a (ds.map V.int) ∧ H d = some (.dK (plc (fcl n ds) n)) ∧ ds.Nodup ∧ ds.length < n ∧ 2 ≤ n ∧ n ≤ 1024 ∧ ∀ H', Same H H' → Q (.bl true) H'
theorem ok_turn (D : Def K mg "_law_in_turn" s_l_in_turn ["_law_guests", "_law_places_here", "_law_many"] f fd) (T : Txt K mg cs) : FnOk P w K mg base CX0 2 f fd ["_law_guests", "_law_places_here", "_law_many"] (spTurn K) := by
  obtain ⟨f3, fd3, D_l_home⟩ := T.d_l_home
  have G_l_home : FnOk P w K mg base CX0 1 f3 fd3 _ _ := ok_l_home D_l_home T
  refine D.F.ok sc_l_in_turn (fun vs H Q E h => ?_) (fun cdv A outer s H vs Q E hr1 h => ?_)
  · obtain ⟨a, d, ds, n, rfl, _⟩ := h
    rfl
  · obtain ⟨a, d, ds, n, rfl, hS, hD, hnd, hlt, n2, n3, q⟩ := h
    have nd := sc_l_in_turn.nd
    have hu := hu_of hr1
    have n0 : 0 < n := by omega
    have hh : ∀ g, hm n g < n := fun g => hm_lt n0 g
    have hwn : (who (fcl n ds)).Nodup := (fcl_who n2 ds hlt).nodup_iff.mpr hnd
    refine ⟨_, (pss_cons (ps_set (i := 3) nd rfl (Or.inl rfl) pe_dnewK)
      (pss_cons (ps_for PassesOwn.never rfl (pi_list (pv 0)) (pg_name (i := 4) nd rfl (Or.inl rfl)) (pss_cons (ps_set (i := 5) nd rfl (Or.inl rfl) (pe_def D_l_home G_l_home hr1 (pa_c (pv 4) (pa_c (pv 2) pa_nil))))
      (pss_cons (ps_while PassesOwn.never (pt_cmp (pc_din hu (pv 5) (pv 3))) (pss_one (ps_set (i := 5) nd rfl (Or.inl rfl) (pe_op op_mod (pe_op op_add (pv 5) pe_int) (pv 2)))))
      (pss_cons (ps_if (pt_cmpR op_ne (pe_dget1 hu (pv 1) (pv 4) ⟨rfl, rfl, rfl, rfl⟩) (pv 5) (nomark _)) (pss_one (ps_ret pe_bl)) pss_nil)
      (pss_one (ps_dput hu (pv 3) (pv 5) pe_bl rfl))))))
      (pss_one (ps_ret (pe_cmpR op_eq (pe_b call_lenD T.n_len PySem.boot_len (pa_c (pv 1) pa_nil)) (pe_b call_len_seq T.n_len PySem.boot_len (pa_c (pv 0) pa_nil)) (nomark _)))))), ?_⟩
    tm_at "rd"
    intro tk htk
    tm_at "rd"
    have sm0 : Same H (upd H tk (.dK [])) := Same.new (Same.refl H) htk
    refine ⟨a, rfl, ⟨_, sm0.seq hS⟩, for_list (xs := ds.map V.int) (fun i σ H' => ∃ (kvs : List (Key × V)) (v4 v5 : Option V), σ = [some (.ref a), some (.ref d), some (.int (n : Int)), some (.ref tk), v4, v5] ∧ Same H H' ∧ H' tk = some (.dK kvs) ∧ kvs.length ≤ i ∧ ∀ p : Nat, p < n → ((valV kvs (Sum.inl (p : Int))).isSome = true ↔ (sat (fcl n (ds.take i)) p).isSome = true)) ⟨[], _, _, rfl, sm0, upd_same, Nat.le_refl _, fun p _ => by
        rw [List.take_zero]
        show false = true ↔ (sat (List.replicate n none) p).isSome = true
        rw [sat_rep]
        rfl⟩ (fun i σ H' _ h => by obtain ⟨_, _, _, _, sm, _⟩ := h; exact sm.seq hS) ?_ ?_⟩
    · rintro i x σ H' hx ⟨kvs, v4, v5, rfl, sm, hk, hkl, hkk⟩
      rw [List.getElem?_map] at hx
      obtain ⟨g, hgi, rfl⟩ := Option.map_eq_some_iff.mp hx
      have hil := (List.getElem?_eq_some_iff.mp hgi).1
      have hp := fcl_who n2 (ds.take i) (by rw [List.length_take]; omega)
      have tl := fcl_len (n := n) (ds.take i)
      obtain ⟨e, he, hn⟩ := empty_of (s := fcl n (ds.take i)) (by rw [hp.length_eq, List.length_take, tl]; omega)
      rw [tl] at he
      obtain ⟨f1, f2, _⟩ := firstE_ok (s := fcl n (ds.take i)) n (hm n g) e (hh g) he hn (dist_lt (hh g) he)
      have hnew : sat (fcl n (ds.take (i + 1))) (firstE n n (fcl n (ds.take i)) (hm n g)) = some g := by
        rw [take_succ_get hgi, fcl_snoc]
        unfold fcome
        exact sat_same (by rw [tl]; exact f1)
      have hfin : sat (fcl n ds) (firstE n n (fcl n (ds.take i)) (hm n g)) = some g := by
        have := fcl_keeps n2 (ds.take (i + 1)) hnew (ds.drop (i + 1)) (by rw [List.take_append_drop]; exact hlt)
        rwa [List.take_append_drop] at this
      have hget := plc_get hwn (by rw [fcl_len]; exact f1) hfin
      rw [fcl_len] at hget
      have hset : fcl n (ds.take (i + 1)) = (fcl n (ds.take i)).set (firstE n n (fcl n (ds.take i)) (hm n g)) (some g) := by
        rw [take_succ_get hgi, fcl_snoc]
        rfl
      rw [hset]
      generalize fcl n (ds.take i) = t at hkk tl hn f1 f2 hget
      tm_at "rd"
      refine ⟨fun m σ H2 => H' = H2 ∧ ∃ p k : Nat, σ = [some (.ref a), some (.ref d), some (.int (n : Int)), some (.ref tk), some (.int g), some (.int (p : Int))] ∧ p < n ∧ dist n p e = m ∧ m < k ∧ firstE n k t p = firstE n n t (hm n g), ⟨_, rfl, hm n g, n, rfl, hh g, rfl, dist_lt (hh g) he, rfl⟩, ?_⟩
      rintro m σ H2 ⟨rfl, p, k, rfl, hpn, hd, hk2, hR⟩
      obtain ⟨k, rfl⟩ : ∃ k', k = k' + 1 := ⟨k - 1, by omega⟩
      have hR1 : firstE n (k + 1) t p = if sat t p = none then p else firstE n k t (nxt n p) := rfl
      rw [hR1] at hR
      tm_at "rd"
      refine ⟨tk, _, rfl, DGet.k (k := Sum.inl (p : Int)) hk, ?_⟩
      tm_at "rd"
      cases hv : (valV kvs (Sum.inl (p : Int))).isSome with
      | false =>
        have hs : sat t p = none := by
          cases z : sat t p with
          | none => rfl
          | some y =>
            have := (hkk p hpn).mpr (by rw [z]; rfl)
            rw [hv] at this
            cases this
        rw [if_pos hs] at hR
        refine iteF ?_
        tm_at "rd"
        refine ⟨d, rfl, .inl ⟨_, .inl (sm _ _ hD)⟩, ?_⟩
        tm_at "rd"
        refine ⟨_, DGet.k (k := Sum.inl g) (sm _ _ hD), ?_⟩
        rw [hget, ← hR, Option.getD_some]
        tm_at "rd"
        refine iteN (fun z => absurd rfl z) (fun _ => ?_)
        tm_at "rd"
        refine ⟨tk, _, rfl, DPut.k (k := Sum.inl (p : Int)) hk (Nat.lt_of_lt_of_le (show kvs.length < 1024 by omega) (by decide)), ?_⟩
        have hno : valV kvs (Sum.inl (p : Int)) = none := by
          cases z : valV kvs (Sum.inl (p : Int)) with
          | none => rfl
          | some v => rw [z] at hv; cases hv
        refine ⟨putK kvs (Sum.inl (p : Int)) (.bl true), _, _, rfl, fun bb u ee => ?_, upd_same, ?_, fun r hr => ?_⟩
        · have ne : bb ≠ tk := fun z => by rw [z, htk] at ee; cases ee
          rw [upd_ne ne]
          exact sm _ _ ee
        · rw [putK_new _ hno, List.length_append]
          show kvs.length + 1 ≤ i + 1
          omega
        · rw [putK_new _ hno, sat_set (by rw [tl]; exact hpn)]
          by_cases er : r = p
          · subst er
            rw [if_pos rfl, valV_app, hno, if_pos rfl]
            exact ⟨fun _ => rfl, fun _ => rfl⟩
          · have hne : ¬ (Sum.inl (p : Int) : Key) = Sum.inl (r : Int) := fun z => er (by have := Sum.inl.inj z; omega)
            rw [if_neg er, ← hkk r hr, valV_app, if_neg hne]
            cases valV kvs (Sum.inl (r : Int)) with
            | none => exact Iff.rfl
            | some v => exact Iff.rfl
      | true =>
        have hs : sat t p ≠ none := fun z => by
          have := (hkk p hpn).mp hv
          rw [z] at this
          cases this
        rw [if_neg hs] at hR
        have hpe : p ≠ e := fun z => hs (by rw [z]; exact hn)
        have hstep := dist_to_nxt hpn he hpe
        refine iteT ?_
        refine ⟨_, fun _ _ h => h, ?_⟩
        tm_at "rd"
        rw [on_eq hpn]
        exact ⟨dist n (nxt n p) e, by omega, rfl, nxt n p, k, rfl, nxt_lt hpn, rfl, by omega, hR⟩
    · rintro σ H' ⟨kvs, v4, v5, rfl, sm, hk, hkl, hkk⟩
      tm_at "rd"
      refine ⟨d, _, rfl, sm _ _ hD, ?_⟩
      tm_at "rd"
      refine ⟨_, _, rfl, .inl (sm.seq hS), ?_⟩
      rw [List.length_map]
      tm_at "rd"
      have e : (plc (fcl n ds) n).length = ds.length := by
        have h1 := plc_keys (fcl n ds)
        rw [fcl_len] at h1
        have h2 := congrArg List.length h1
        rw [List.length_map, List.length_map, (fcl_who n2 ds hlt).length_eq] at h2
        exact h2
      rw [e, decide_eq_true rfl]
      exact q _ sm

def spSums : Sp := fun vs H Q _ => ∃ (d : Addr) (t : Seats), vs = [.ref d, .int (t.length : Int)] ∧ H d = some (.dK (plc t t.length)) ∧ t.length ≤ 1024 ∧ 0 < t.length ∧
  ∀ (l : Addr) (H' : Hp), (∀ b o, b ≠ d → H b = some o → H' b = some o) → H' l = some (.lst (strainV t)) → Q (.ref l) H'
theorem plc_at {s : Seats} {k j : Nat} {key : Key} {v : V} (h : (plc s k)[j]? = some (key, v)) : ∃ (p : Nat) (g : Int), p < k ∧ sat s p = some g ∧ key = Sum.inl g ∧ v = .int (p : Int) ∧ (ways s.length s k)[j]? = some ((dist s.length (hm s.length g) p : Nat) : Int) := by
  unfold plc at h
  rw [List.getElem?_map] at h
  cases hf : ((List.range k).filter fun i => (sat s i).isSome)[j]? with
  | none => rw [hf] at h; cases h
  | some p =>
    rw [hf] at h
    obtain ⟨h1, h2⟩ := List.mem_filter.mp (List.mem_of_getElem? hf)
    cases hs : sat s p with
    | none => rw [hs] at h2; cases h2
    | some g =>
      have e : (Sum.inl ((sat s p).getD 0), V.int (p : Int)) = (key, v) := Option.some.inj h
      rw [hs] at e
      refine ⟨p, g, List.mem_range.mp h1, hs, (congrArg Prod.fst e).symm, (congrArg Prod.snd e).symm, ?_⟩
      unfold ways
      rw [List.getElem?_map, hf]
      show some (((costAt s.length (hm s.length) id (sat s p) p : Nat) : Int)) = _
      rw [hs]
      rfl
theorem plc_ways (s : Seats) (k : Nat) : (plc s k).length = (ways s.length s k).length := by
  unfold plc ways
  rw [List.length_map, List.length_map]
theorem take_sum {l : List Int} {i : Nat} {x : Int} (h : l[i]? = some x) : (l.take (i + 1)).sum = (l.take i).sum + x := by
  rw [take_succ_get h, List.sum_append]
  simp
theorem ok_sums (D : Def K mg "_law_sums" s_l_sums ["_law_places_here", "_law_many"] f fd) (T : Txt K mg cs) : FnOk P w K mg base CX0 2 f fd ["_law_places_here", "_law_many"] spSums := by
  obtain ⟨f3, fd3, D_l_home⟩ := T.d_l_home
  have G_l_home : FnOk P w K mg base CX0 1 f3 fd3 _ _ := ok_l_home D_l_home T
  refine D.F.ok sc_l_sums (fun vs H Q E h => ?_) (fun cdv A outer s H vs Q E hr1 h => ?_)
  · obtain ⟨d, t, rfl, _⟩ := h
    rfl
  · obtain ⟨d, t, rfl, hD, hl, n0, q⟩ := h
    have nd := sc_l_sums.nd
    refine ⟨_, (pss_cons (ps_set (i := 2) nd rfl (Or.inl rfl) pe_int)
      (pss_cons (ps_set (i := 3) nd rfl (Or.inl rfl) pe_int)
      (pss_cons (ps_set (i := 4) nd rfl (Or.inl rfl) pe_int)
      (pss_cons (ps_for PassesOwn.never rfl (pi_items rfl (pv 0)) (pg_tup rfl (pgs_cons (pg_name (i := 5) nd rfl (Or.inl rfl)) (pgs_cons (pg_name (i := 6) nd rfl (Or.inl rfl)) pgs_nil))) (pss_cons (ps_set (i := 7) nd rfl (Or.inl rfl) (pe_op op_mod (pe_op op_sub (pv 6) (pe_def D_l_home G_l_home hr1 (pa_c (pv 5) (pa_c (pv 1) pa_nil)))) (pv 1)))
      (pss_cons (ps_set (i := 2) nd rfl (Or.inl rfl) (pe_op op_add (pv 2) (pv 7)))
      (pss_cons (ps_set (i := 4) nd rfl (Or.inl rfl) (pe_op op_add (pv 4) (pe_op op_mul (pv 7) (pv 7))))
      (pss_one (ps_if (pt_cmpR op_gt (pv 7) (pv 3) (nomark _)) (pss_one (ps_set (i := 3) nd rfl (Or.inl rfl) (pv 7))) pss_nil))))))
      (pss_one (ps_ret (pe_lst (pa_c (pv 2) (pa_c (pv 3) (pa_c (pv 4) pa_nil)))))))))), ?_⟩
    tm_at "rd"
    refine ⟨d, _, rfl, hD, fun o => ?_⟩
    have hlen := plc_ways t t.length
    have hkeep : ∀ b u, b ≠ d → H b = some u → upd H d (.frz o (.dK (plc t t.length))) b = some u := fun b u ne e => by rw [upd_ne ne]; exact e
    refine for_items (fun i σ H' => ∃ (B : Int) (v5 v6 v7 : Option V), σ = [some (.ref d), some (.int (t.length : Int)), some (.int ((ways t.length t t.length).take i).sum), some (.int B), some (.int (((ways t.length t t.length).take i).map fun w => w * w).sum), v5, v6, v7] ∧ (∀ b u, b ≠ d → H b = some u → H' b = some u) ∧ H' d = some (.frz o (.dK (plc t t.length))) ∧ (B = 0 ∨ B ∈ (ways t.length t t.length).take i) ∧ ∀ w ∈ (ways t.length t t.length).take i, w ≤ B)
      ⟨0, _, _, _, rfl, hkeep, upd_same, .inl rfl, fun w hw => by rw [List.take_zero] at hw; cases hw⟩ (fun i σ H' h => by obtain ⟨_, _, _, _, _, _, hd, _⟩ := h; exact hd) ?_ ?_
    · rintro i k x σ H' tp hx ⟨B, v5, v6, v7, rfl, hkp, hd, hB, hle⟩ htp
      obtain ⟨p, g, hp, hs, rfl, rfl, hw⟩ := plc_at hx
      have hdt : d ≠ tp := fun z => by rw [z, htp] at hd; cases hd
      have hkp1 : ∀ b u, b ≠ d → H b = some u → upd H' tp (.tup [kV (Sum.inl g), .int (p : Int)]) b = some u := fun b u ne e => upd_old (hkp b u ne e) htp
      have hd1 : upd H' tp (.tup [kV (Sum.inl g), .int (p : Int)]) d = some (.frz o (.dK (plc t t.length))) := upd_old hd htp
      refine rd_gtup (SqT.of upd_same) rfl ?_
      generalize upd H' tp (.tup [kV (Sum.inl g), .int (p : Int)]) = H2 at hkp1 hd1
      rw [show kV (Sum.inl g) = V.int g from rfl]
      tm_at "rd"
      rw [far_eq (hm_lt n0 g) hp]
      have hdl := dist_lt (hm_lt n0 g) hp
      refine rd_i (.inl ⟨by omega, by omega⟩) ?_
      tm_at "rd"
      have e1 := take_sum hw
      have e2 : (((ways t.length t t.length).take (i + 1)).map fun w => w * w).sum = (((ways t.length t t.length).take i).map fun w => w * w).sum + ((dist t.length (hm t.length g) p : Nat) : Int) * ((dist t.length (hm t.length g) p : Nat) : Int) := by
        rw [take_succ_get hw, List.map_append, List.sum_append]
        simp
      have e3 := take_succ_get hw
      refine iteD (fun h1 => ?_) (fun h1 => ?_)
      · tm_at "rd"
        refine ⟨((dist t.length (hm t.length g) p : Nat) : Int), some (.int g), some (.int (p : Int)), some (.int ((dist t.length (hm t.length g) p : Nat) : Int)), ?_, hkp1, hd1, .inr (by rw [e3]; exact List.mem_append.mpr (.inr (List.mem_singleton.mpr rfl))), fun w hw' => ?_⟩
        · rw [e1, e2]
          rfl
        · rw [e3] at hw'
          rcases List.mem_append.mp hw' with z | z
          · have := hle w z
            omega
          · rw [List.mem_singleton.mp z]
            exact Int.le_refl _
      · tm_at "rd"
        refine ⟨B, some (.int g), some (.int (p : Int)), some (.int ((dist t.length (hm t.length g) p : Nat) : Int)), ?_, hkp1, hd1, ?_, fun w hw' => ?_⟩
        · rw [e1, e2]
          rfl
        · rcases hB with z | z
          · exact .inl z
          · exact .inr (by rw [e3]; exact List.mem_append.mpr (.inl z))
        · rw [e3] at hw'
          rcases List.mem_append.mp hw' with z | z
          · exact hle w z
          · rw [List.mem_singleton.mp z]
            omega
    · rintro σ H' ⟨B, v5, v6, v7, rfl, hkp, hd, hB, hle⟩
      rw [hlen, List.take_length] at hB hle ⊢
      tm_at "rd"
      refine ⟨(by show 3 ≤ sizeLine; decide), fun l hl0 => ?_⟩
      have hBm : B = ((most t.length (hm t.length) t t.length : Nat) : Int) := by
        refine ways_max ?_
        cases hws : ways t.length t t.length with
        | nil =>
          rw [hws] at hB
          rcases hB with z | z
          · exact .inl ⟨rfl, z⟩
          · cases z
        | cons w r =>
          refine .inr ⟨?_, by rw [← hws]; exact hle⟩
          rcases hB with z | z
          · have hm : w ∈ ways t.length t t.length := by rw [hws]; exact List.mem_cons_self ..
            have h1 := hle w hm
            have h2 := (ways_lt n0 (Nat.le_refl _) hm).1
            have : B = w := by omega
            rw [this]
            exact List.mem_cons_self ..
          · rw [← hws]; exact z
      refine q l _ (fun b u ne e => upd_old (hkp b u ne e) hl0) ?_
      rw [ways_sum, ways_sq, hBm]
      exact upd_same

theorem rd_gen {t : TE} {σ : St} {H : Hp} {Q : VK} (M : Bool → Prop) (h1 : ∀ Q' : VK, (∀ b, M b → Q' (.bl b) H) → t σ H Q') (h2 : ∀ b, M b → Q (.bl b) H) : t σ H Q := h1 Q h2
theorem Bad.updL {H : Hp} {x : V} {l : Addr} {xs ys : List V} (h : Bad K H x) (e : H l = some (.lst xs)) : Bad K (upd H l (.lst ys)) x := by
  have keep : ∀ {a : Addr} {o : HO}, (∀ zs, o ≠ .lst zs) → H a = some o → upd H l (.lst ys) a = some o := fun {a o} hn ha => by
    have ne : a ≠ l := fun z => by
      rw [z, e] at ha
      exact hn xs (Option.some.inj ha).symm
    rw [upd_ne ne]
    exact ha
  rcases h with h | h | ⟨t, ty, h⟩
  · exact .inl h
  · exact .inr (.inl h)
  · refine .inr (.inr ⟨t, ?_, h⟩)
    cases ty with
    | non => exact .non
    | bl b => exact .bl b
    | int i => exact .int i
    | str z => exact .str z
    | flt z => exact .flt z
    | lst ha =>
      rename_i a zs
      by_cases z : a = l
      · subst z
        exact .lst upd_same
      · exact .lst (by rw [upd_ne z]; exact ha)
    | frz ha => exact .frz (keep (fun _ z => nomatch z) ha)
    | tup ha => exact .tup (keep (fun _ z => nomatch z) ha)
    | dK ha => exact .dK (keep (fun _ z => nomatch z) ha)
    | dT ha => exact .dT (keep (fun _ z => nomatch z) ha)
    | ins ha a b c d f => exact .ins (keep (fun _ z => nomatch z) ha) a b c d f
theorem ok_spoiled (D : Def K mg "_law_spoiled" s_l_spoiled ["_law_script", "_law_guests"] f fd) (T : Txt K mg cs) : FnOk P w K mg base CX0 3 f fd ["_law_script", "_law_guests"] (spSpoil K) := by
  obtain ⟨f1, fd1, D_l_cell_at⟩ := T.d_l_cell_at
  have G_l_cell_at : FnOk P w K mg base CX0 2 f1 fd1 _ _ := (ok_cell D_l_cell_at T).mono (by decide)
  obtain ⟨f2, fd2, D_l_odd⟩ := T.d_l_odd
  have G_l_odd : FnOk P w K mg base CX0 2 f2 fd2 _ _ := (ok_odd13 D_l_odd T).mono (by decide)
  refine D.F.ok sc_l_spoiled (fun vs H Q E h => ?_) (fun cdv A outer s H vs Q E hr1 h => ?_)
  · obtain ⟨a, b, ns, ds, rfl, _⟩ := h
    rfl
  · obtain ⟨a, b, ns, ds, rfl, hS, hB, hg, hnd, hd, q⟩ := h
    have nd := sc_l_spoiled.nd
    refine ⟨_, (pss_cons (ps_set (i := 2) nd rfl (Or.inl rfl) (pe_op op_mod (pe_def D_l_cell_at G_l_cell_at hr1 (pa_c (pv 0) (pa_c pe_int pa_nil))) pe_int))
      (pss_cons (ps_set (i := 3) nd rfl (Or.inl rfl) (pe_t call_list_of T.n_list PyProof.Rows.boot_list (pa_c (pv 1) pa_nil)))
      (pss_cons (ps_set (i := 4) nd rfl (Or.inl rfl) (pe_and (pe_cmpR op_eq (pe_op op_mod (pe_op op_fdiv (pv 2) pe_int) pe_int) pe_int (nomark _)) (pe_one (pe_cmpR op_gt (pe_b call_len_seq T.n_len PySem.boot_len (pa_c (pv 1) pa_nil)) pe_int (nomark _)))))
      (pss_cons (ps_join (ps_if (pt_val (pv 4)) (pss_one (ps_expr (pe_bm PySem.F.plainAttrs_list PySem.F.slot_list_insert PySem.F.type_list_insert mt_insert (pv 3) (pa_c (pe_op op_mod (pe_def D_l_cell_at G_l_cell_at hr1 (pa_c (pv 0) (pa_c pe_int pa_nil))) (pe_op op_add (pe_b call_len_seq T.n_len PySem.boot_len (pa_c (pv 1) pa_nil)) pe_int)) (pa_c (pe_ix ix_list (pv 1) (pe_op op_mod (pe_def D_l_cell_at G_l_cell_at hr1 (pa_c (pv 0) (pa_c pe_int pa_nil))) (pe_b call_len_seq T.n_len PySem.boot_len (pa_c (pv 1) pa_nil))) (fun _ _ => rfl)) pa_nil))))) pss_nil))
      (pss_cons (ps_join (ps_if (pt_cmpR op_eq (pe_op op_mod (pv 2) pe_int) pe_int (nomark _)) (pss_one (ps_expr (pe_bm PySem.F.plainAttrs_list PySem.F.slot_list_insert PySem.F.type_list_insert mt_insert (pv 3) (pa_c (pe_op op_mod (pe_op op_fdiv (pe_def D_l_cell_at G_l_cell_at hr1 (pa_c (pv 0) (pa_c pe_int pa_nil))) pe_int) (pe_op op_add (pe_b call_len_seq T.n_len PySem.boot_len (pa_c (pv 3) pa_nil)) pe_int)) (pa_c (pe_def D_l_odd G_l_odd hr1 (pa_c (pe_def D_l_cell_at G_l_cell_at hr1 (pa_c (pv 0) (pa_c pe_int pa_nil))) pa_nil)) pa_nil))))) pss_nil))
      (pss_cons (ps_set (i := 5) nd rfl (Or.inl rfl) (pe_b (call_max2 rfl) T.n_max PyProof.Rows.boot_max (pa_c pe_int (pa_c (pe_op op_add (pe_op op_add (pe_b call_len_seq T.n_len PySem.boot_len (pa_c (pv 3) pa_nil)) pe_int) (pe_op op_mod (pe_op op_fdiv (pe_def D_l_cell_at G_l_cell_at hr1 (pa_c (pv 0) (pa_c pe_int pa_nil))) pe_int) pe_int)) pa_nil))))
      (pss_cons (ps_set (i := 6) nd rfl (Or.inl rfl) (pe_and (pe_cmpR op_eq (pe_op op_fdiv (pv 2) pe_int) pe_int (nomark _)) (pe_one (pe_cmpR op_gt (pe_b call_len_seq T.n_len PySem.boot_len (pa_c (pv 3) pa_nil)) pe_int (nomark _)))))
      (pss_cons (ps_join (ps_if (pt_val (pv 6)) (pss_one (ps_set (i := 5) nd rfl (Or.inl rfl) (pe_b (call_max2 rfl) T.n_max PyProof.Rows.boot_max (pa_c pe_int (pa_c (pe_op op_sub (pe_b call_len_seq T.n_len PySem.boot_len (pa_c (pv 3) pa_nil)) (pe_op op_mod (pe_op op_fdiv (pe_def D_l_cell_at G_l_cell_at hr1 (pa_c (pv 0) (pa_c pe_int pa_nil))) pe_int) pe_int)) pa_nil))))) pss_nil))
      (pss_cons (ps_set (i := 7) nd rfl (Or.inl rfl) (pe_lst (pa_c (pe_cmpR op_eq (pe_op op_mod (pv 2) pe_int) pe_int (nomark _)) (pa_c (pe_and (pe_cmpR op_eq (pe_op op_mod (pv 2) pe_int) pe_int (nomark _)) (pe_one (pv 4))) (pa_c (pe_and (pe_cmpR op_eq (pe_op op_mod (pv 2) pe_int) pe_int (nomark _)) (pe_and (pe_not (pv 4)) (pe_one (pv 6)))) pa_nil)))))
      (pss_one (ps_ret (pe_lst (pa_c (pv 3) (pa_c (pv 5) (pa_c (pv 7) pa_nil))))))))))))))), ?_⟩
    tm_at "rd"
    refine ⟨a, ns, _, rfl, hS, by decide, ?_⟩
    tm_at "rd"
    generalize cellF ns 1 % 8 = wy
    refine ⟨_, _, rfl, .inl (SqL.of hB), fun lp hlp => ?_⟩
    have s1 : Same H (upd H lp (.lst (ds.map V.int))) := Same.new (Same.refl H) hlp
    have hp1 : upd H lp (.lst (ds.map V.int)) lp = some (.lst (ds.map V.int)) := upd_same
    generalize upd H lp (.lst (ds.map V.int)) = H1 at s1 hp1
    with_reducible refine rd_gname ?_
    with_reducible refine rd_seq ?_
    with_reducible refine rd_asg ?_
    refine rd_gen (fun tw => tw = true → 0 < ds.length) (fun Q' hQ => ?_) (fun tw htw => ?_)
    · tm_at "rd"
      refine iteD (fun _ => ?_) (fun _ => ?_)
      · tm_at "rd"
        refine ⟨_, _, rfl, .inl (SqL.of (s1 _ _ hB)), ?_⟩
        rw [List.length_map]
        tm_at "rd"
        refine hQ _ fun z => ?_
        have := of_decide_eq_true z
        omega
      · exact hQ false fun z => nomatch z
    tm_at "rd"
    refine rd_join (fun σ H2 => ∃ es : List Int, σ = [some (.ref a), some (.ref b), some (.int wy), some (.ref lp), some (.bl tw), none, none, none] ∧ Same H H2 ∧ H2 lp = some (.lst (es.map V.int)) ∧ Gs es ∧ es.length ≤ 64 ∧ (tw = true → ¬ es.Nodup) ∧ (tw = false → es = ds)) ?_ ?_
    · tm_at "rd"
      cases tw with
      | false =>
        refine iteF ?_
        tm_at "rd"
        exact ⟨ds, rfl, s1, hp1, hg, by omega, (fun z => nomatch z), fun _ => rfl⟩
      | true =>
        have hpos := htw rfl
        refine iteT ?_
        tm_at "rd"
        refine ⟨rd_tyL rfl (SqL.of hp1), ?_⟩
        tm_at "rd"
        refine ⟨a, ns, _, rfl, s1.seq hS, by decide, ?_⟩
        tm_at "rd"
        refine ⟨_, _, rfl, .inl (SqL.of (s1 _ _ hB)), ?_⟩
        rw [List.length_map]
        tm_at "rd"
        refine ⟨a, ns, _, rfl, s1.seq hS, by decide, ?_⟩
        tm_at "rd"
        refine ⟨_, _, rfl, .inl (SqL.of (s1 _ _ hB)), ?_⟩
        rw [List.length_map]
        refine rd_i (show (0 : Int) < _ by omega) ?_
        have a1 := Int.emod_nonneg (cellF ns 3) (show (ds.length : Int) ≠ 0 by omega)
        have a2 := Int.emod_lt_of_pos (cellF ns 3) (show (0 : Int) < (ds.length : Int) by omega)
        obtain ⟨j, hj⟩ := Int.eq_ofNat_of_zero_le a1
        have hjl : j < ds.length := by omega
        rw [hj]
        refine rd_ixL (SqL.of (s1 _ _ hB)) (atI_ints hjl) ?_
        have b1 := Int.emod_nonneg (cellF ns 2) (show (ds.length : Int) + 1 ≠ 0 by omega)
        have b2 := Int.emod_lt_of_pos (cellF ns 2) (show (0 : Int) < (ds.length : Int) + 1 by omega)
        tm_at "rd"
        refine ⟨lp, _, _, _, rfl, rfl, hp1, b1, by omega, small1000 (by rw [List.length_map]; omega), ?_⟩
        generalize (cellF ns 2 % ((ds.length : Int) + 1)).toNat = k
        have e : (ds.map V.int).take k ++ V.int ds[j] :: (ds.map V.int).drop k = (ds.take k ++ ds[j] :: ds.drop k).map V.int := by
          rw [List.map_append, List.map_cons, List.map_take, List.map_drop]
        rw [e]
        tm_at "rd"
        refine ⟨_, rfl, fun bb uu ee => ?_, upd_same, fun g hgm => ?_, ?_, fun _ => ?_, fun z => nomatch z⟩
        · have ne : bb ≠ lp := fun z => by rw [z, hlp] at ee; cases ee
          rw [upd_ne ne]
          exact s1 _ _ ee
        · rcases List.mem_append.mp hgm with z | z
          · exact hg g (List.mem_of_mem_take z)
          · rcases List.mem_cons.mp z with z | z
            · rw [z]; exact hg _ (List.getElem_mem hjl)
            · exact hg g (List.mem_of_mem_drop z)
        · rw [List.length_append, List.length_cons, List.length_take, List.length_drop]
          omega
        · intro hn
          have hmem : ds[j] ∈ ds.take k ++ ds.drop k := by rw [List.take_append_drop]; exact List.getElem_mem hjl
          have h1 := (List.perm_middle (a := ds[j]) (l₁ := ds.take k) (l₂ := ds.drop k)).nodup_iff.mp hn
          exact (List.nodup_cons.mp h1).1 hmem
    rintro σ H2 ⟨es, rfl, s2, hp2, hge, hel, htn, htf⟩
    tm_at "rd"
    refine rd_join (fun σ H3 => ∃ xs : List V, σ = [some (.ref a), some (.ref b), some (.int wy), some (.ref lp), some (.bl tw), none, none, none] ∧ Same H H3 ∧ H3 lp = some (.lst xs) ∧ Fl xs ∧ xs.length ≤ 65 ∧ (wy % 2 = 1 → BadL K H3 xs) ∧ (¬ wy % 2 = 1 → xs = es.map V.int)) ?_ ?_
    · tm_at "rd"
      refine iteD (fun hw => ?_) (fun hw => ?_)
      · tm_at "rd"
        refine ⟨rd_tyL rfl (SqL.of hp2), ?_⟩
        tm_at "rd"
        refine ⟨a, ns, _, rfl, s2.seq hS, by decide, ?_⟩
        tm_at "rd"
        refine ⟨_, _, rfl, .inl (SqL.of hp2), ?_⟩
        rw [List.length_map]
        tm_at "rd"
        refine ⟨a, ns, _, rfl, s2.seq hS, by decide, ?_⟩
        tm_at "rd"
        refine ⟨_, rfl, fun x H3 bad s3 fx => ?_⟩
        have b1 := Int.emod_nonneg (cellF ns 3 / 89) (show (es.length : Int) + 1 ≠ 0 by omega)
        have b2 := Int.emod_lt_of_pos (cellF ns 3 / 89) (show (0 : Int) < (es.length : Int) + 1 by omega)
        tm_at "rd"
        refine ⟨lp, _, _, _, rfl, rfl, s3 _ _ hp2, b1, by omega, small1000 (by rw [List.length_map]; omega), ?_⟩
        generalize (cellF ns 3 / 89 % ((es.length : Int) + 1)).toNat = k
        have hmem : ∀ z ∈ (es.map V.int).take k ++ x :: (es.map V.int).drop k, z = x ∨ ∃ g : Int, z = .int g ∧ 0 ≤ g ∧ g < P60 := fun z hz => by
          have hin : ∀ z ∈ es.map V.int, ∃ g : Int, z = .int g ∧ 0 ≤ g ∧ g < P60 := fun z hz => by
            obtain ⟨g, hgm, rfl⟩ := List.mem_map.mp hz
            exact ⟨g, rfl, hge g hgm⟩
          rcases List.mem_append.mp hz with m | m
          · exact .inr (hin z (List.mem_of_mem_take m))
          · rcases List.mem_cons.mp m with m | m
            · exact .inl m
            · exact .inr (hin z (List.mem_of_mem_drop m))
        tm_at "rd"
        refine ⟨_, rfl, fun bb uu ee => ?_, upd_same, fun z hz => ?_, ?_, fun _ => ⟨⟨x, List.mem_append.mpr (.inr (List.mem_cons_self ..)), bad.updL (s3 _ _ hp2)⟩, fun z hz => ?_⟩, fun z => absurd hw z⟩
        · have ne : bb ≠ lp := fun z => by rw [z, hlp] at ee; cases ee
          rw [upd_ne ne]
          exact s3 _ _ (s2 _ _ ee)
        · rcases hmem z hz with rfl | ⟨g, rfl, _⟩
          · exact fx
          · exact .inl rfl
        · rw [List.length_append, List.length_cons, List.length_take, List.length_drop, List.length_map]
          omega
        · rcases hmem z hz with rfl | h
          · exact .inr (bad.updL (s3 _ _ hp2))
          · exact .inl h
      · tm_at "rd"
        exact ⟨es.map V.int, rfl, s2, hp2, ints_fl es, by rw [List.length_map]; omega, fun z => absurd z hw, fun _ => rfl⟩
    rintro σ H3 ⟨xs, rfl, s3, hp3, hfl, hxl, hbad, hok⟩
    tm_at "rd"
    refine ⟨_, _, rfl, .inl (SqL.of hp3), ?_⟩
    tm_at "rd"
    refine ⟨a, ns, _, rfl, s3.seq hS, by decide, ?_⟩
    tm_at "rd"
    have d0 := Int.emod_nonneg (cellF ns 4 / 1009) (show (5 : Int) ≠ 0 by decide)
    have d1 := Int.emod_lt_of_pos (cellF ns 4 / 1009) (show (0 : Int) < 5 by decide)
    generalize hk : cellF ns 4 / 1009 % 5 = kk at d0 d1
    refine ⟨_, _, rfl, ?_⟩
    have hn1 : ∃ n : Nat, 2 ≤ n ∧ n ≤ 1024 ∧ (if (xs.length : Int) + 1 + kk > 2 then (xs.length : Int) + 1 + kk else 2) = (n : Int) := by
      by_cases h : (xs.length : Int) + 1 + kk > 2
      · rw [if_pos h]
        exact ⟨((xs.length : Int) + 1 + kk).toNat, by omega, by omega, by omega⟩
      · rw [if_neg h]
        exact ⟨2, by omega, by omega, rfl⟩
    obtain ⟨n1, n12, n13, en1⟩ := hn1
    rw [en1]
    with_reducible refine rd_gname ?_
    with_reducible refine rd_seq ?_
    with_reducible refine rd_asg ?_
    refine rd_gen (fun fb => fb = true → 1 < xs.length) (fun Q' hQ => ?_) (fun fb hfb => ?_)
    · tm_at "rd"
      refine iteD (fun _ => ?_) (fun _ => ?_)
      · tm_at "rd"
        refine ⟨_, _, rfl, .inl (SqL.of hp3), ?_⟩
        tm_at "rd"
        refine hQ _ fun z => ?_
        have := of_decide_eq_true z
        omega
      · exact hQ false fun z => nomatch z
    tm_at "rd"
    refine rd_join (fun σ H4 => H3 = H4 ∧ ∃ n : Nat, σ = [some (.ref a), some (.ref b), some (.int wy), some (.ref lp), some (.bl tw), some (.int (n : Int)), some (.bl fb), none] ∧ 2 ≤ n ∧ n ≤ 1024 ∧ (fb = true → n ≤ xs.length)) ?_ ?_
    · tm_at "rd"
      cases fb with
      | false =>
        refine iteF ?_
        tm_at "rd"
        exact ⟨rfl, n1, rfl, n12, n13, fun z => nomatch z⟩
      | true =>
        have hx := hfb rfl
        refine iteT ?_
        tm_at "rd"
        refine ⟨_, _, rfl, .inl (SqL.of hp3), ?_⟩
        tm_at "rd"
        refine ⟨a, ns, _, rfl, s3.seq hS, by decide, ?_⟩
        tm_at "rd"
        rw [hk]
        refine ⟨_, _, rfl, ?_⟩
        have hn2 : ∃ n : Nat, 2 ≤ n ∧ n ≤ 1024 ∧ n ≤ xs.length ∧ (if (xs.length : Int) - kk > 2 then (xs.length : Int) - kk else 2) = (n : Int) := by
          by_cases h : (xs.length : Int) - kk > 2
          · rw [if_pos h]
            exact ⟨((xs.length : Int) - kk).toNat, by omega, by omega, by omega, by omega⟩
          · rw [if_neg h]
            exact ⟨2, by omega, by omega, by omega, rfl⟩
        obtain ⟨n, h1, h2, h3, en⟩ := hn2
        rw [en]
        tm_at "rd"
        exact ⟨rfl, n, rfl, h1, h2, fun _ => h3⟩
    rintro σ H4 ⟨rfl, n, rfl, n2, n3, hfn⟩
    have fin : ∀ e1 e2 e3 : Bool, Due K H3 xs n e1 e2 e3 → ∀ ld, H3 ld = none → ∀ l, upd H3 ld (.lst [.bl e1, .bl e2, .bl e3]) l = none → Q (.ref l) (upd (upd H3 ld (.lst [.bl e1, .bl e2, .bl e3])) l (.lst [.ref lp, .int (n : Int), .ref ld])) := fun e1 e2 e3 due ld hld l hl => by
      have t1 : Same H3 (upd (upd H3 ld (.lst [.bl e1, .bl e2, .bl e3])) l (.lst [.ref lp, .int (n : Int), .ref ld])) := Same.new (Same.new (Same.refl H3) hld) hl
      exact q l lp ld xs n e1 e2 e3 _ (s3.trans t1) upd_same (t1 _ _ hp3) (upd_old upd_same hl) n2 n3 hfl (due.same t1)
    tm_at "rd"
    by_cases hw : wy % 2 = 1
    · rw [decide_eq_true hw]
      refine iteDF (by omega) ?_
      tm_at "rd"
      refine iteDF (by omega) ?_
      tm_at "rd"
      refine ⟨(by show 3 ≤ sizeLine; decide), fun ld hld => ?_⟩
      tm_at "rd"
      refine ⟨(by show 3 ≤ sizeLine; decide), fun l hl => ?_⟩
      exact fin true false false (.inl ⟨rfl, rfl, rfl, hbad hw⟩) ld hld l hl
    · rw [decide_eq_false hw]
      have hx := hok hw
      refine iteDT (by omega) ?_
      tm_at "rd"
      refine iteDT (by omega) ?_
      tm_at "rd"
      cases tw with
      | true =>
        refine iteF ?_
        tm_at "rd"
        refine ⟨(by show 3 ≤ sizeLine; decide), fun ld hld => ?_⟩
        tm_at "rd"
        refine ⟨(by show 3 ≤ sizeLine; decide), fun l hl => ?_⟩
        exact fin false true false (.inr ⟨rfl, es, hx, hge, by omega, .inl ⟨rfl, rfl, htn rfl⟩⟩) ld hld l hl
      | false =>
        refine iteT ?_
        tm_at "rd"
        refine ⟨(by show 3 ≤ sizeLine; decide), fun ld hld => ?_⟩
        tm_at "rd"
        refine ⟨(by show 3 ≤ sizeLine; decide), fun l hl => ?_⟩
        refine fin false false fb (.inr ⟨rfl, es, hx, hge, by omega, ?_⟩) ld hld l hl
        cases fb with
        | false => exact .inr (.inr ⟨rfl, rfl⟩)
        | true =>
          refine .inr (.inl ⟨rfl, rfl, ?_, ?_⟩)
          · rw [htf rfl]; exact hnd
          · have := hfn rfl
            rw [hx, List.length_map] at this
            exact this

def spTold : Sp := fun vs H Q _ => ∃ (a b : Addr) (t : Seats), vs = [.ref a, .ref b] ∧ H a = some (.tup (strainV t)) ∧ H b = some (.lst (strainV t)) ∧ ∀ H', Same H H' → Q (.bl true) H'
theorem ok_told (D : Def K mg "_law_told" s_l_told ["_law_found", "_law_due"] f fd) (T : Txt K mg cs) : FnOk P w K mg base CX0 2 f fd ["_law_found", "_law_due"] spTold := by
  obtain ⟨f3, fd3, D_l_whole⟩ := T.d_l_whole
  have G_l_whole : FnOk P w K mg base CX0 1 f3 fd3 _ _ := ok_whole D_l_whole T
  refine D.F.ok sc_l_told (fun vs H Q E h => ?_) (fun cdv A outer s H vs Q E hr1 h => ?_)
  · obtain ⟨a, b, t, rfl, _⟩ := h
    rfl
  · obtain ⟨a, b, t, rfl, hA, hB, q⟩ := h
    have nd := sc_l_told.nd
    refine ⟨_, (pss_cons (ps_if ((pw_or (pt_not (pt_val (pe_b call_isinst T.n_isinstance PyProof.Rows.boot_isinstance (pa_c (pv 0) (pa_c (pe_ty T.n_tuple PyProof.Rows.boot_tuple) pa_nil))))) (pw_or1 (pt_cmpR op_ne (pe_b call_len_seq T.n_len PySem.boot_len (pa_c (pv 0) pa_nil)) pe_int (nomark _))))).pt (pss_one (ps_ret pe_bl)) pss_nil)
      (pss_cons (ps_for PassesOwn.never rfl (pi_zipT T.n_zip (pa_c (pv 0) (pa_c (pv 1) pa_nil))) (pg_tup rfl (pgs_cons (pg_name (i := 2) nd rfl (Or.inl rfl)) (pgs_cons (pg_name (i := 3) nd rfl (Or.inl rfl)) pgs_nil))) (pss_one (ps_if ((pw_or (pt_not (pt_val (pe_def D_l_whole G_l_whole hr1 (pa_c (pv 2) pa_nil)))) (pw_or1 (pt_cmpR op_ne (pv 2) (pv 3) (nomark _))))).pt (pss_one (ps_ret pe_bl)) pss_nil)))
      (pss_one (ps_ret pe_bl)))), ?_⟩
    tm_at "rd"
    refine ⟨_, _, _, _, rfl, .tup hA, T.k_tuple_tuple, ?_⟩
    tm_at "rd"
    refine iteF ?_
    tm_at "rd"
    refine ⟨_, _, rfl, .inr (SqT.of hA), ?_⟩
    rw [show (strainV t).length = 3 from rfl]
    tm_at "rd"
    refine iteN (fun z => absurd rfl z) (fun _ => ?_)
    tm_at "rd"
    refine ⟨a, b, _, _, rfl, SqT.of hA, SqL.of hB, for_zipT (xs := strainV t) (ys := strainV t) rfl (fun i σ H' => Same H H' ∧ ∃ v2 v3, σ = [some (.ref a), some (.ref b), v2, v3]) ⟨Same.refl H, _, _, rfl⟩ (fun i σ H' h => ⟨SqT.of (h.1 _ _ hA), SqL.of (h.1 _ _ hB)⟩) ?_ ?_⟩
    · rintro i x y σ H' tp hx hy ⟨sm, v2, v3, rfl⟩ htp
      rw [hx] at hy
      cases hy
      have sm' : Same H (upd H' tp (.tup [x, x])) := Same.new sm htp
      refine rd_gtup (SqT.of upd_same) rfl ?_
      obtain ⟨z, rfl⟩ : ∃ z : Int, x = .int z := by
        have hm := List.mem_of_getElem? hx
        unfold strainV at hm
        rcases List.mem_cons.mp hm with e | hm
        · exact ⟨_, e⟩
        · rcases List.mem_cons.mp hm with e | hm
          · exact ⟨_, e⟩
          · exact ⟨_, List.mem_singleton.mp hm⟩
      tm_at "rd"
      refine iteF ?_
      tm_at "rd"
      refine iteN (fun z => absurd rfl z) (fun _ => ?_)
      tm_at "rd"
      exact ⟨sm', _, _, rfl⟩
    · rintro σ H' ⟨sm, v2, v3, rfl⟩
      tm_at "rd"
      exact q _ sm

theorem rd_st {t : TS} {D : Ends} {σ σ' : St} {H : Hp} (e : σ = σ') (q : t D σ' H) : t D σ H := e ▸ q
theorem rd_genT {c : TT} {σ : St} {H : Hp} {Q : Bool → Hp → Prop} (M : Hp → Prop) (h1 : ∀ Q' : Bool → Hp → Prop, (∀ H', M H' → Q' false H') → c σ H Q') (h2 : ∀ H', M H' → Q false H') : c σ H Q := h1 Q h2
theorem due_in {d1 d2 d3 : Bool} : inV (.bl true) ([d1, d2, d3].map V.bl) = (d1 || d2 || d3) := by
  cases d1 <;> cases d2 <;> cases d3 <;> rfl
def occ (s : Seats) (k : Nat) : List Int := ((List.range k).filter fun i => (sat s i).isSome).map fun i : Nat => (i : Int)
theorem plc_vals (s : Seats) (k : Nat) : (plc s k).map (·.2) = (occ s k).map V.int := by
  unfold plc occ
  rw [List.map_map, List.map_map]
  rfl
theorem plc_lenW (s : Seats) : (plc s s.length).length = (who s).length := by
  have h2 := congrArg List.length (plc_keys s)
  rwa [List.length_map, List.length_map] at h2
theorem occ_len (s : Seats) : (occ s s.length).length = (who s).length := by
  have h2 := congrArg List.length (plc_vals s s.length)
  rw [List.length_map, List.length_map, plc_lenW] at h2
  exact h2.symm
theorem occ_eq {A F : Seats} (h : ∀ q, sat A q = none ↔ sat F q = none) (k : Nat) : occ A k = occ F k := by
  unfold occ
  refine congrArg _ (List.filter_congr fun i _ => ?_)
  have := h i
  cases e1 : sat A i <;> cases e2 : sat F i <;> simp_all
theorem ok_law (F : Fun K "law" "law" s_law f fd) (T : Txt K mg cs) : FnOk P w K mg base CXL lawK f fd ["_law_script"] (spLaw K) := by
  obtain ⟨f1, fd1, D_l_cell_at⟩ := T.d_l_cell_at
  obtain ⟨f2, fd2, D_l_base⟩ := T.d_l_base
  obtain ⟨f3, fd3, D_l_drawn⟩ := T.d_l_drawn
  obtain ⟨f4, fd4, D_l_spoiled⟩ := T.d_l_spoiled
  obtain ⟨f5, fd5, D_l_refused⟩ := T.d_l_refused
  obtain ⟨f6, fd6, D_seated⟩ := T.d_seated
  obtain ⟨f7, fd7, D_first_come⟩ := T.d_first_come
  obtain ⟨f8, fd8, D_l_places⟩ := T.d_l_places
  obtain ⟨f9, fd9, D_l_in_turn⟩ := T.d_l_in_turn
  obtain ⟨f10, fd10, D_l_sums⟩ := T.d_l_sums
  obtain ⟨f11, fd11, D_l_told⟩ := T.d_l_told
  obtain ⟨f12, fd12, D_strain⟩ := T.d_strain
  have G_l_cell_at : FnOk P w K mg base CX0 13 f1 fd1 _ _ := (ok_cell D_l_cell_at T).mono (by decide)
  have G_l_base : FnOk P w K mg base CX0 13 f2 fd2 _ _ := (ok_base7 D_l_base T).mono (by decide)
  have G_l_drawn : FnOk P w K mg base CX0 13 f3 fd3 _ _ := (ok_drawn D_l_drawn T).mono (by decide)
  have G_l_spoiled : FnOk P w K mg base CX0 13 f4 fd4 _ _ := (ok_spoiled D_l_spoiled T).mono (by decide)
  have G_l_refused : FnOk P w K mg base (CXr P w) 13 f5 fd5 _ _ := (ok_ref08 D_l_refused T).mono (by decide)
  have G_seated : FnOk P w K mg base (CXr P w) 13 f6 fd6 _ _ := (ok_seated D_seated T).mono (by decide)
  have G_first_come : FnOk P w K mg base (CXr P w) 13 f7 fd7 _ _ := (ok_first D_first_come T).mono (by decide)
  have G_l_places : FnOk P w K mg base CX0 13 f8 fd8 _ _ := (ok_places D_l_places T).mono (by decide)
  have G_l_in_turn : FnOk P w K mg base CX0 13 f9 fd9 _ _ := (ok_turn D_l_in_turn T).mono (by decide)
  have G_l_sums : FnOk P w K mg base CX0 13 f10 fd10 _ _ := (ok_sums D_l_sums T).mono (by decide)
  have G_l_told : FnOk P w K mg base CX0 13 f11 fd11 _ _ := (ok_told D_l_told T).mono (by decide)
  have G_strain : FnOk P w K mg base CX0 13 f12 fd12 _ _ := (ok_strain D_strain T).mono (by decide)
  refine F.ok sc_law (fun vs H Q E h => ?_) (fun cdv A outer s H vs Q E hr1 h => ?_)
  · obtain ⟨a, ns, rfl, _⟩ := h
    rfl
  · obtain ⟨a, ns, rfl, hS, hlen, k⟩ := h
    have nd := sc_law.nd
    have hu0 : (A.deeper (PyProof.Rows.envOfC "law" (defScope s_law) s.heap.objs.size f cdv)).units < cLine := Nat.lt_of_succ_lt (hu_of hr1)
    refine ⟨_, (pss_cons (ps_set (i := 1) nd rfl (Or.inl rfl) (pe_def D_l_drawn G_l_drawn hr1 (pa_c (pe_slice sl_list (pv 0) (po_some pe_int) (po_some pe_int)) (pa_c (pe_def D_l_base G_l_base hr1 (pa_c (pe_def D_l_cell_at G_l_cell_at hr1 (pa_c (pv 0) (pa_c pe_int pa_nil))) pa_nil)) pa_nil))))
      (pss_cons (ps_asg (pe_def D_l_spoiled G_l_spoiled hr1 (pa_c (pv 0) (pa_c (pv 1) pa_nil))) (pg_lst rfl (pgs_cons (pg_name (i := 12) nd rfl (Or.inl rfl)) (pgs_cons (pg_name (i := 3) nd rfl (Or.inl rfl)) (pgs_cons (pg_name (i := 13) nd rfl (Or.inl rfl)) pgs_nil)))))
      (pss_cons (ps_set (i := 2) nd rfl (Or.inl rfl) (pe_t call_list_of T.n_list PyProof.Rows.boot_list (pa_c (pv 12) pa_nil)))
      (pss_cons (ps_if ((pw_and (pt_cmpR op_in_seq pe_bl (pv 13) (by with_unfolding_all rfl)) (pw_and1 ((pw_or (pt_cmpR (op_neL hu0) (pe_defN D_l_refused G_l_refused hr1 (pa_c (pv 12) (pa_c (pv 3) pa_nil))) (pe_op op_cat (pv 13) (pe_lst (pa_c pe_bl pa_nil))) (nomark _)) (pw_or1 (pt_cmpR (op_neC hu0) (pv 12) (pv 2) (nomark _))))).pt))).pt (pss_one (ps_ret pe_bl)) pss_nil)
      (pss_cons (ps_set (i := 3) nd rfl (Or.inl rfl) (pe_b (call_max2 rfl) T.n_max PyProof.Rows.boot_max (pa_c pe_int (pa_c (pe_op op_add (pe_op op_add (pe_b call_len_seq T.n_len PySem.boot_len (pa_c (pv 1) pa_nil)) pe_int) (pe_op op_mod (pe_op op_fdiv (pe_def D_l_cell_at G_l_cell_at hr1 (pa_c (pv 0) (pa_c pe_int pa_nil))) pe_int) pe_int)) pa_nil))))
      (pss_cons (ps_join (ps_if (pt_cmpR op_eq (pe_op op_mod (pe_def D_l_cell_at G_l_cell_at hr1 (pa_c (pv 0) (pa_c pe_int pa_nil))) pe_int) pe_int (nomark _)) (pss_one (ps_set (i := 3) nd rfl (Or.inl rfl) (pe_b (call_max2 rfl) T.n_max PyProof.Rows.boot_max (pa_c pe_int (pa_c (pe_op op_add (pe_op op_add (pe_b call_len_seq T.n_len PySem.boot_len (pa_c (pv 1) pa_nil)) pe_int) (pe_op op_mod (pe_op op_fdiv (pe_def D_l_cell_at G_l_cell_at hr1 (pa_c (pv 0) (pa_c pe_int pa_nil))) pe_int) (pe_op op_sub pe_int (pe_b call_len_seq T.n_len PySem.boot_len (pa_c (pv 1) pa_nil))))) pa_nil))))) pss_nil))
      (pss_cons (ps_set (i := 4) nd rfl (Or.inl rfl) (pe_t call_list_of T.n_list PyProof.Rows.boot_list (pa_c (pv 1) pa_nil)))
      (pss_cons (ps_set (i := 5) nd rfl (Or.inl rfl) (pe_defN D_first_come G_first_come hr1 (pa_c (pv 4) (pa_c (pv 3) pa_nil))))
      (pss_cons (ps_set (i := 6) nd rfl (Or.inl rfl) (pe_def D_l_places G_l_places hr1 (pa_c (pv 5) (pa_c (pv 3) pa_nil))))
      (pss_cons (ps_if ((pw_or (pt_cmpR (op_neL hu0) (pv 4) (pv 1) (nomark _)) (pw_or (pt_cmpR op_isN (pv 6) pe_non (nomark _)) (pw_or1 (pt_not (pt_val (pe_def D_l_in_turn G_l_in_turn hr1 (pa_c (pv 1) (pa_c (pv 6) (pa_c (pv 3) pa_nil)))))))))).pt (pss_one (ps_ret pe_bl)) pss_nil)
      (pss_cons (ps_set (i := 7) nd rfl (Or.inl rfl) (pe_t call_list_of T.n_list PyProof.Rows.boot_list (pa_c (pv 5) pa_nil)))
      (pss_cons (ps_expr (pe_bm0 PySem.F.plainAttrs_list PySem.F.slot_list_clear PySem.F.type_list_clear mt_clear (pv 4)))
      (pss_cons (ps_set (i := 8) nd rfl (Or.inl rfl) (pe_defN D_seated G_seated hr1 (pa_c (pv 1) (pa_c (pv 3) pa_nil))))
      (pss_cons (ps_set (i := 9) nd rfl (Or.inl rfl) (pe_def D_l_places G_l_places hr1 (pa_c (pv 8) (pa_c (pv 3) pa_nil))))
      (pss_cons (ps_if ((pw_or (pt_cmpR op_isN (pv 9) pe_non (nomark _)) (pw_or (pt_cmpR (op_neL hu0) (pe_b (call_sortedD rfl) T.n_sorted PyProof.Rows.boot_sorted (pa_c (pv 9) pa_nil)) (pe_b call_sortedI T.n_sorted PyProof.Rows.boot_sorted (pa_c (pv 1) pa_nil)) (nomark _)) (pw_or1 (pt_cmpR (op_neL hu0) (pe_sortedV rfl T.n_sorted (pv 9)) (pe_sortedV rfl T.n_sorted (pv 6)) (nomark _)))))).pt (pss_one (ps_ret pe_bl)) pss_nil)
      (pss_cons (ps_set (i := 10) nd rfl (Or.inl rfl) (pe_def D_l_sums G_l_sums hr1 (pa_c (pv 6) (pa_c (pv 3) pa_nil))))
      (pss_cons (ps_set (i := 11) nd rfl (Or.inl rfl) (pe_def D_l_sums G_l_sums hr1 (pa_c (pv 9) (pa_c (pv 3) pa_nil))))
      (pss_cons (ps_if ((pw_or (pt_cmpR op_ne (pe_ix ix_list (pv 11) pe_int (fun _ _ => rfl)) (pe_ix ix_list (pv 10) pe_int (fun _ _ => rfl)) (nomark _)) (pw_or (pt_cmpR op_gt (pe_ix ix_list (pv 11) pe_int (fun _ _ => rfl)) (pe_ix ix_list (pv 10) pe_int (fun _ _ => rfl)) (nomark _)) (pw_or1 (pt_cmpR op_gt (pe_ix ix_list (pv 11) pe_int (fun _ _ => rfl)) (pe_ix ix_list (pv 10) pe_int (fun _ _ => rfl)) (nomark _)))))).pt (pss_one (ps_ret pe_bl)) pss_nil)
      (pss_one (ps_ret (pe_and (pe_def D_l_told G_l_told hr1 (pa_c (pe_def D_strain G_strain hr1 (pa_c (pv 5) pa_nil)) (pa_c (pv 10) pa_nil))) (pe_and (pe_def D_l_told G_l_told hr1 (pa_c (pe_def D_strain G_strain hr1 (pa_c (pv 8) pa_nil)) (pa_c (pv 11) pa_nil))) (pe_one (pe_cmpR (op_eqL hu0) (pv 5) (pv 7) (nomark _))))))))))))))))))))))))), ?_⟩
    tm_at "rd"
    refine rd_slL hS fun lc hlc => ?_
    rw [cut_ints]
    have hcl : ((ns.drop (HT.sIx ns.length 0 (some 5))).take (HT.sIx ns.length ns.length (some 89) - HT.sIx ns.length 0 (some 5))).length ≤ 58 := Nat.le_trans (cut_from ns 5 _) (by omega)
    generalize (ns.drop (HT.sIx ns.length 0 (some 5))).take (HT.sIx ns.length ns.length (some 89) - HT.sIx ns.length 0 (some 5)) = cl at hcl
    have s1 : Same H (upd H lc (.lst (cl.map V.int))) := Same.new (Same.refl H) hlc
    have hc1 : upd H lc (.lst (cl.map V.int)) lc = some (.lst (cl.map V.int)) := upd_same
    generalize upd H lc (.lst (cl.map V.int)) = H1 at s1 hc1
    tm_at "rd"
    refine ⟨a, ns, _, rfl, s1.seq hS, by decide, ?_⟩
    tm_at "rd"
    refine ⟨_, rfl, fun b b0 b1 => ?_⟩
    tm_at "rd"
    refine ⟨lc, cl, b, rfl, SqL.of hc1, by omega, b0, b1, fun lg gs H2 hnd hb hdl s2 hg2 hlg0 => ?_⟩
    have s02 := s1.trans s2
    tm_at "rd"
    refine ⟨a, lg, ns, gs, rfl, s02.seq hS, hg2, hb, hnd, by omega, fun l ls ld xs n d1 d2 d3 H3 s3 hl3 hls3 hld3 n2 n3 hfl due => ?_⟩
    have s03 := s02.trans s3
    refine rd_glst (SqL.of hl3) rfl ?_
    tm_at "rd"
    refine ⟨_, _, rfl, .inl (SqL.of hls3), fun lk hlk => ?_⟩
    have s4 : Same H3 (upd H3 lk (.lst xs)) := Same.new (Same.refl H3) hlk
    have hk4 : upd H3 lk (.lst xs) lk = some (.lst xs) := upd_same
    generalize upd H3 lk (.lst xs) = H4 at s4 hk4
    have s04 := s03.trans s4
    have s24 := s3.trans s4
    have due4 := due.same s4
    with_reducible refine rd_gname ?_
    with_reducible refine rd_seq ?_
    with_reducible refine rd_if ?_
    refine rd_genT (fun H' => Same H4 H') (fun Q' hQ => ?_) (fun H5 s5 => iteF ?_)
    · tm_at "rd"
      refine rd_in (SqL.of (s4 _ _ hld3)) rfl (bls_flat _) ?_
      rw [due_in]
      tm_at "rd"
      cases hd : (d1 || d2 || d3) with
      | false =>
        refine iteF ?_
        exact hQ _ (Same.refl _)
      | true =>
        have some1 : d1 = true ∨ d2 = true ∨ d3 = true := by
          cases d1 <;> cases d2 <;> cases d3 <;> simp_all
        refine iteT ?_
        tm_at "rd"
        refine ⟨ls, xs, n, d1, d2, d3, rfl, SqL.of (s4 _ _ hls3), n2, n3, due4, some1, fun l1 H5 s5 hl1 => ?_⟩
        tm_at "rd"
        refine ⟨(by show 1 ≤ sizeLine; decide), fun l2 hl2 => ?_⟩
        tm_at "rd"
        have s6 : Same H5 (upd H5 l2 (.lst [.bl true])) := Same.new (Same.refl H5) hl2
        refine rd_cat (s6 _ _ (s5 _ _ (s4 _ _ hld3))) upd_same (by show 4 ≤ sizeLine; decide) fun l3 hl3' => ?_
        generalize upd H5 l2 (.lst [.bl true]) = H6 at s6 hl3'
        have s7 : Same H6 (upd H6 l3 (.lst ([d1, d2, d3].map V.bl ++ [.bl true]))) := Same.new (Same.refl H6) hl3'
        have h37 : upd H6 l3 (.lst ([d1, d2, d3].map V.bl ++ [.bl true])) l3 = some (.lst ((flr d1 d2 d3).map V.bl)) := upd_same
        generalize upd H6 l3 (.lst ([d1, d2, d3].map V.bl ++ [.bl true])) = H7 at s7 h37
        refine ⟨l1, l3, _, _, rfl, rfl, SqL.of (s7 _ _ (s6 _ _ hl1)), SqL.of h37, bls_flat _, bls_flat _, ?_⟩
        rw [eqVs_bls]
        tm_at "rd"
        refine iteN (fun z => absurd rfl z) (fun _ => ?_)
        tm_at "rd"
        have s47 := (s5.trans s6).trans s7
        refine ⟨ls, lk, xs, rfl, rfl, SqL.of (s47 _ _ (s4 _ _ hls3)), SqL.of (s47 _ _ hk4), hfl, ?_⟩
        tm_at "rd"
        exact hQ _ s47
    have s05 := s04.trans s5
    have s25 := s24.trans s5
    have hg5 := s25 _ _ hg2
    refine rd_st (σ' := [some (.ref a), some (.ref lg), some (.ref lk), some (.int (n : Int)), none, none, none, none, none, none, none, none, some (.ref ls), some (.ref ld)]) rfl ?_
    tm_at "rd"
    refine ⟨_, _, rfl, .inl (SqL.of hg5), ?_⟩
    rw [List.length_map]
    tm_at "rd"
    refine ⟨a, ns, _, rfl, s05.seq hS, by decide, ?_⟩
    tm_at "rd"
    have e0 := Int.emod_nonneg (cellF ns 2 / 101) (show (40 : Int) ≠ 0 by decide)
    have e1 := Int.emod_lt_of_pos (cellF ns 2 / 101) (show (0 : Int) < 40 by decide)
    generalize cellF ns 2 / 101 % 40 = kk at e0 e1
    refine ⟨_, _, rfl, ?_⟩
    have hn1 : ∃ n : Nat, 2 ≤ n ∧ n ≤ 1024 ∧ gs.length < n ∧ (if (gs.length : Int) + 1 + kk > 2 then (gs.length : Int) + 1 + kk else 2) = (n : Int) := by
      by_cases h : (gs.length : Int) + 1 + kk > 2
      · rw [if_pos h]
        exact ⟨((gs.length : Int) + 1 + kk).toNat, by omega, by omega, by omega, by omega⟩
      · rw [if_neg h]
        exact ⟨2, by omega, by omega, by omega, rfl⟩
    obtain ⟨m0, m02, m03, m04, em0⟩ := hn1
    rw [em0]
    tm_at "rd"
    refine rd_join (fun σ H' => ∃ m : Nat, 2 ≤ m ∧ m ≤ 1024 ∧ gs.length < m ∧ H5 = H' ∧ σ = [some (.ref a), some (.ref lg), some (.ref lk), some (.int (m : Int)), none, none, none, none, none, none, none, none, some (.ref ls), some (.ref ld)]) ?_ ?_
    · tm_at "rd"
      refine ⟨a, ns, _, rfl, s05.seq hS, by decide, ?_⟩
      tm_at "rd"
      refine iteD (fun _ => ?_) (fun _ => ?_)
      · tm_at "rd"
        refine ⟨_, _, rfl, .inl (SqL.of hg5), ?_⟩
        rw [List.length_map]
        tm_at "rd"
        refine ⟨a, ns, _, rfl, s05.seq hS, by decide, ?_⟩
        tm_at "rd"
        refine ⟨_, _, rfl, .inl (SqL.of hg5), ?_⟩
        rw [List.length_map]
        tm_at "rd"
        have f0 := Int.emod_nonneg (cellF ns 2 / 101) (show (1024 : Int) - (gs.length : Int) ≠ 0 by omega)
        have f1 := Int.emod_lt_of_pos (cellF ns 2 / 101) (show (0 : Int) < (1024 : Int) - (gs.length : Int) by omega)
        generalize cellF ns 2 / 101 % (1024 - (gs.length : Int)) = kk at f0 f1
        refine ⟨_, _, rfl, ?_⟩
        have hn1 : ∃ n : Nat, 2 ≤ n ∧ n ≤ 1024 ∧ gs.length < n ∧ (if (gs.length : Int) + 1 + kk > 2 then (gs.length : Int) + 1 + kk else 2) = (n : Int) := by
          by_cases h : (gs.length : Int) + 1 + kk > 2
          · rw [if_pos h]
            exact ⟨((gs.length : Int) + 1 + kk).toNat, by omega, by omega, by omega, by omega⟩
          · rw [if_neg h]
            exact ⟨2, by omega, by omega, by omega, rfl⟩
        obtain ⟨wd, w2, w3, w4, ew⟩ := hn1
        rw [ew]
        exact ⟨wd, w2, w3, w4, rfl, rfl⟩
      · tm_at "rd"
        exact ⟨m0, m02, m03, m04, rfl, rfl⟩
    rintro σ H' ⟨m, m2, m3, m4, rfl, rfl⟩
    have m1 : 0 < m := by omega
    have hh : ∀ g, hm m g < m := fun g => hm_lt m1 g
    tm_at "rd"
    refine ⟨_, _, rfl, .inl (SqL.of hg5), fun lh hlh => ?_⟩
    have s6 : Same H5 (upd H5 lh (.lst (gs.map V.int))) := Same.new (Same.refl H5) hlh
    have hh6 : upd H5 lh (.lst (gs.map V.int)) lh = some (.lst (gs.map V.int)) := upd_same
    generalize upd H5 lh (.lst (gs.map V.int)) = H6 at s6 hh6
    tm_at "rd"
    refine .inr ⟨lh, gs, m, rfl, SqL.of hh6, hb, by omega, m2, m3, fun H7 s7 => ⟨fun z => absurd hnd z, fun _ z => by omega, fun _ _ lo hlo ho7 => ?_⟩⟩
    have fl := fcl_len (n := m) gs
    have fp := fcl_who m2 gs m4
    have fnd : (who (fcl m gs)).Nodup := fp.nodup_iff.mpr hnd
    tm_at "rd"
    refine ⟨lo, fcl m gs, by rw [fl], ho7, fnd, by rw [fl]; exact m3, fun d1' H8 s8 hd1 hd8 => ?_⟩
    rw [fl] at hd8
    have s57 := s6.trans s7
    have s58 := s57.trans s8
    have hh8 := s8 _ _ (s7 _ _ hh6)
    have ho8 := s8 _ _ ho7
    tm_at "rd"
    refine ⟨lh, lg, _, _, rfl, rfl, SqL.of hh8, SqL.of (s58 _ _ hg5), ints_flat _, ints_flat _, ?_⟩
    rw [eqVs_ints]
    tm_at "rd"
    refine iteN (fun z => absurd rfl z) (fun _ => ?_)
    tm_at "rd"
    refine iteF ?_
    tm_at "rd"
    refine ⟨lg, d1', gs, m, rfl, SqL.of (s58 _ _ hg5), hd8, hnd, m4, m2, m3, fun H9 s9 => ?_⟩
    tm_at "rd"
    refine iteF ?_
    have s59 := s58.trans s9
    have hh9 := s9 _ _ hh8
    have ho9 := s9 _ _ ho8
    have hd9 := s9 _ _ hd8
    refine rd_st (σ' := [some (.ref a), some (.ref lg), some (.ref lk), some (.int (m : Int)), some (.ref lh), some (.ref lo), some (.ref d1'), none, none, none, none, none, some (.ref ls), some (.ref ld)]) rfl ?_
    tm_at "rd"
    refine ⟨_, _, rfl, .inl (SqL.of ho9), fun lw hlw => ?_⟩
    have s10 : Same H9 (upd H9 lw (.lst (svs (fcl m gs)))) := Same.new (Same.refl H9) hlw
    have hw10 : upd H9 lw (.lst (svs (fcl m gs))) lw = some (.lst (svs (fcl m gs))) := upd_same
    have hwh : lw ≠ lh := fun z => by rw [z, hh9] at hlw; cases hlw
    generalize upd H9 lw (.lst (svs (fcl m gs))) = H10 at s10 hw10
    tm_at "rd"
    refine ⟨rd_tyL rfl (SqL.of (s10 _ _ hh9)), ?_⟩
    tm_at "rd"
    refine ⟨lh, _, rfl, rfl, s10 _ _ hh9, ?_⟩
    have hoh : lo ≠ lh := fun z => by rw [z, hh6] at hlo; cases hlo
    have hdh : d1' ≠ lh := fun z => by rw [z, s7 _ _ hh6] at hd1; cases hd1
    have s11 : Same H5 (upd H10 lh (.lst [])) := fun bb u e => by
      have ne : bb ≠ lh := fun z => by rw [z, hlh] at e; cases e
      rw [upd_ne ne]
      exact s10 _ _ (s59 _ _ e)
    have ho11 : upd H10 lh (.lst []) lo = some (.lst (svs (fcl m gs))) := by rw [upd_ne hoh]; exact s10 _ _ ho9
    have hw11 : upd H10 lh (.lst []) lw = some (.lst (svs (fcl m gs))) := by rw [upd_ne hwh]; exact hw10
    have hd11 : upd H10 lh (.lst []) d1' = some (.dK (plc (fcl m gs) m)) := by rw [upd_ne hdh]; exact s10 _ _ hd9
    generalize upd H10 lh (.lst []) = H11 at s11 ho11 hw11 hd11
    have hg11 := s11 _ _ hg5
    tm_at "rd"
    refine .inr ⟨lg, gs, m, rfl, SqL.of hg11, hb, by omega, m2, m3, fun H12 s12 => ⟨fun z => absurd hnd z, fun _ z => by omega, fun _ _ l2 t hl2 h212 St hp => ?_⟩⟩
    have tl : t.length = m := St.len
    obtain ⟨Sa, pa⟩ := acl_ok m2 gs hnd m4
    have et : t = acl m gs := St.unique hh Sa fun g => (hp.trans pa.symm).mem_iff
    have PR : Pair m (hm m) t (fcl m gs) := by rw [et]; exact pair_ok m2 gs hnd m4
    have tnd : (who t).Nodup := hp.nodup_iff.mpr hnd
    tm_at "rd"
    refine ⟨l2, t, by rw [tl], h212, tnd, by rw [tl]; exact m3, fun d2' H13 s13 hd2 hd13 => ?_⟩
    have s1113 := s12.trans s13
    have ho13 := s1113 _ _ ho11
    have hw13 := s1113 _ _ hw11
    have hdd13 := s1113 _ _ hd11
    have hg13 := s1113 _ _ hg11
    have h213 := s13 _ _ h212
    tm_at "rd"
    refine iteF ?_
    tm_at "rd"
    have wl : (who t).length < 64 := by rw [hp.length_eq]; omega
    refine ⟨d2', plc t t.length, who t, rfl, hd13, plc_keys t, wl, fun l3 n3' hl3' pm3 so3 => ?_⟩
    have s14 : Same H13 (upd H13 l3 (.lst (n3'.map V.int))) := Same.new (Same.refl H13) hl3'
    have h314 : upd H13 l3 (.lst (n3'.map V.int)) l3 = some (.lst (n3'.map V.int)) := upd_same
    generalize upd H13 l3 (.lst (n3'.map V.int)) = H14 at s14 h314
    tm_at "rd"
    refine ⟨lg, _, rfl, SqL.of (s14 _ _ hg13), by omega, fun l4 n4' hl4' pm4 so4 => ?_⟩
    have s15 : Same H14 (upd H14 l4 (.lst (n4'.map V.int))) := Same.new (Same.refl H14) hl4'
    have h415 : upd H14 l4 (.lst (n4'.map V.int)) l4 = some (.lst (n4'.map V.int)) := upd_same
    generalize upd H14 l4 (.lst (n4'.map V.int)) = H15 at s15 h415
    refine ⟨l3, l4, _, _, rfl, rfl, SqL.of (s15 _ _ h314), SqL.of h415, ints_flat _, ints_flat _, ?_⟩
    have e34 : n3' = n4' := sorted_eq (pm3.trans (hp.trans pm4.symm)) so3 so4
    rw [eqVs_ints, e34]
    tm_at "rd"
    refine iteN (fun z => absurd rfl z) (fun _ => ?_)
    have s1315 := s14.trans s15
    tm_at "rd"
    have ol : (occ t t.length).length < 64 := by rw [occ_len]; exact wl
    refine ⟨d2', plc t t.length, occ t t.length, rfl, s1315 _ _ hd13, plc_vals t _, ol, fun l5 n5' hl5' pm5 so5 => ?_⟩
    have s16 : Same H15 (upd H15 l5 (.lst (n5'.map V.int))) := Same.new (Same.refl H15) hl5'
    have h516 : upd H15 l5 (.lst (n5'.map V.int)) l5 = some (.lst (n5'.map V.int)) := upd_same
    generalize upd H15 l5 (.lst (n5'.map V.int)) = H16 at s16 h516
    have s1316 := s1315.trans s16
    tm_at "rd"
    have oc : occ t t.length = occ (fcl m gs) m := by rw [tl]; exact occ_eq PR.em m
    refine ⟨d1', plc (fcl m gs) m, occ (fcl m gs) m, rfl, s1316 _ _ hdd13, plc_vals _ _, by rw [← oc]; exact ol, fun l6 n6' hl6' pm6 so6 => ?_⟩
    have s17 : Same H16 (upd H16 l6 (.lst (n6'.map V.int))) := Same.new (Same.refl H16) hl6'
    have h617 : upd H16 l6 (.lst (n6'.map V.int)) l6 = some (.lst (n6'.map V.int)) := upd_same
    generalize upd H16 l6 (.lst (n6'.map V.int)) = H17 at s17 h617
    have s1317 := s1316.trans s17
    refine ⟨l5, l6, _, _, rfl, rfl, SqL.of (s17 _ _ h516), SqL.of h617, ints_flat _, ints_flat _, ?_⟩
    have e56 : n5' = n6' := sorted_eq (pm5.trans (by rw [oc]; exact pm6.symm)) so5 so6
    rw [eqVs_ints, e56]
    tm_at "rd"
    refine iteN (fun z => absurd rfl z) (fun _ => ?_)
    have ho17 := s1317 _ _ ho13
    have hw17 := s1317 _ _ hw13
    have hdd17 := s1317 _ _ hdd13
    have h217 := s1317 _ _ h213
    have hd17 := s1317 _ _ hd13
    refine rd_st (σ' := [some (.ref a), some (.ref lg), some (.ref lk), some (.int (m : Int)), some (.ref lh), some (.ref lo), some (.ref d1'), some (.ref lw), some (.ref l2), some (.ref d2'), none, none, some (.ref ls), some (.ref ld)]) rfl ?_
    have d12 : d2' ≠ d1' := fun z => by
      rw [z, s12 _ _ hd11] at hd2
      cases hd2
    have ne1 : ∀ {q d : Addr} {xs : List V} {kvs : List (Key × V)} {H' : Hp}, H' q = some (.lst xs) → H' d = some (.dK kvs) → q ≠ d := fun e1 e2 z => by
      rw [z, e2] at e1
      cases e1
    clear s1317 s17 s1316 s16 s15 s14 s13 s12 s11 s10 s9 s8 s7 s6 s5 s4 s3 s2 s1
    tm_at "rd"
    refine ⟨d1', fcl m gs, by rw [fl], by rw [fl]; exact hdd17, by rw [fl]; exact m3, by rw [fl]; exact m1, fun l7 H18 k18 h718 => ?_⟩
    have hd18 := k18 _ _ d12 hd17
    have ho18 := k18 _ _ (ne1 ho17 hdd17) ho17
    have hw18 := k18 _ _ (ne1 hw17 hdd17) hw17
    have h218 := k18 _ _ (ne1 h217 hdd17) h217
    tm_at "rd"
    refine ⟨d2', t, by rw [tl], hd18, by rw [tl]; exact m3, by rw [tl]; exact m1, fun l8 H19 k19 h819 => ?_⟩
    have ho19 := k19 _ _ (ne1 ho18 hd18) ho18
    have hw19 := k19 _ _ (ne1 hw18 hd18) hw18
    have h219 := k19 _ _ (ne1 h218 hd18) h218
    have h719 := k19 _ _ (ne1 h718 hd18) h718
    have eT : strainV t = [.int ((cost m (hm m) id t m : Nat) : Int), .int ((most m (hm m) t m : Nat) : Int), .int ((cost m (hm m) (fun x => x * x) t m : Nat) : Int)] := by
      unfold strainV
      rw [tl]
    have eF : strainV (fcl m gs) = [.int ((cost m (hm m) id (fcl m gs) m : Nat) : Int), .int ((most m (hm m) (fcl m gs) m : Nat) : Int), .int ((cost m (hm m) (fun x => x * x) (fcl m gs) m : Nat) : Int)] := by
      unfold strainV
      rw [fl]
    have x8 : SqL K H19 l8 [.int ((cost m (hm m) id t m : Nat) : Int), .int ((most m (hm m) t m : Nat) : Int), .int ((cost m (hm m) (fun x => x * x) t m : Nat) : Int)] := by
      rw [← eT]
      exact SqL.of h819
    have x7 : SqL K H19 l7 [.int ((cost m (hm m) id (fcl m gs) m : Nat) : Int), .int ((most m (hm m) (fcl m gs) m : Nat) : Int), .int ((cost m (hm m) (fun x => x * x) (fcl m gs) m : Nat) : Int)] := by
      rw [← eF]
      exact SqL.of h719
    have pt := PR.tot
    have ps := PR.sq
    have pm := PR.mx
    tm_at "rd"
    refine rd_ixL x8 rfl ?_
    tm_at "rd"
    refine rd_ixL x7 rfl ?_
    tm_at "rd"
    refine iteN (fun z => absurd (by rw [pt]) z) (fun _ => ?_)
    tm_at "rd"
    refine rd_ixL x8 rfl ?_
    tm_at "rd"
    refine rd_ixL x7 rfl ?_
    tm_at "rd"
    refine iteDF (by omega) ?_
    tm_at "rd"
    refine rd_ixL x8 rfl ?_
    tm_at "rd"
    refine rd_ixL x7 rfl ?_
    tm_at "rd"
    refine iteDF (by omega) ?_
    tm_at "rd"
    refine ⟨lo, fcl m gs, rfl, ho19, by rw [fl]; exact m3, fun tp H20 s20 htp => ?_⟩
    tm_at "rd"
    refine ⟨tp, l7, fcl m gs, rfl, htp, s20 _ _ h719, fun H21 s21 => ?_⟩
    tm_at "rd"
    refine iteT ?_
    tm_at "rd"
    have s1921 := s20.trans s21
    refine ⟨l2, t, rfl, s1921 _ _ h219, by rw [tl]; exact m3, fun tp2 H22 s22 htp2 => ?_⟩
    tm_at "rd"
    have s1922 := s1921.trans s22
    refine ⟨tp2, l8, t, rfl, htp2, s1922 _ _ h819, fun H23 s23 => ?_⟩
    tm_at "rd"
    refine iteT ?_
    tm_at "rd"
    have s1923 := s1922.trans s23
    refine ⟨lo, lw, _, _, rfl, rfl, SqL.of (s1923 _ _ ho19), SqL.of (s1923 _ _ hw19), svs_flat _, svs_flat _, ?_⟩
    rw [eqVs_sv, decide_eq_true rfl]
    exact k H23

end

theorem all_mk {l : PySem.W.OpenLaw} {w : World} {K : PySem.W.Frag} {h : Heap} {mg : Str → Option Value} {fa : Addr} (X : K.In h) (G : h.Ns mainGlobals mg) (hfa : mg "law" = some (.ref fa))
    {c_RingError : Addr}
    {c_NoGuest : Addr} {cd_NoGuest : ClassData}
    {c_NoSize : Addr} {cd_NoSize : ClassData}
    {c_Twice : Addr} {cd_Twice : ClassData}
    {c_Away : Addr} {cd_Away : ClassData}
    {c_Full : Addr} {cd_Full : ClassData}
    {t_FACTOR : Tok}
    {t_SPREAD : Tok}
    {f_is_whole : Addr} {od_is_whole an_is_whole : Option Addr} {sl_is_whole : Array (Option Value)} {oc_is_whole kV_is_whole dc_is_whole pm_is_whole cd_is_whole ct_is_whole : Value}
    {f_is_guest : Addr} {od_is_guest an_is_guest : Option Addr} {sl_is_guest : Array (Option Value)} {oc_is_guest kV_is_guest dc_is_guest pm_is_guest cd_is_guest ct_is_guest : Value}
    {f_home : Addr} {od_home an_home : Option Addr} {sl_home : Array (Option Value)} {oc_home kV_home dc_home pm_home cd_home ct_home : Value}
    {f_carried : Addr} {od_carried an_carried : Option Addr} {sl_carried : Array (Option Value)} {oc_carried kV_carried dc_carried pm_carried cd_carried ct_carried : Value}
    {f_ahead : Addr} {od_ahead an_ahead : Option Addr} {sl_ahead : Array (Option Value)} {oc_ahead kV_ahead dc_ahead pm_ahead cd_ahead ct_ahead : Value}
    {f_check_guest : Addr} {od_check_guest an_check_guest : Option Addr} {sl_check_guest : Array (Option Value)} {oc_check_guest kV_check_guest dc_check_guest pm_check_guest cd_check_guest ct_check_guest : Value}
    {f_strain : Addr} {od_strain an_strain : Option Addr} {sl_strain : Array (Option Value)} {oc_strain kV_strain dc_strain pm_strain cd_strain ct_strain : Value}
    {f_put : Addr} {od_put an_put : Option Addr} {sl_put : Array (Option Value)} {oc_put kV_put dc_put pm_put cd_put ct_put : Value}
    {f_check_list : Addr} {od_check_list an_check_list : Option Addr} {sl_check_list : Array (Option Value)} {oc_check_list kV_check_list dc_check_list pm_check_list cd_check_list ct_check_list : Value}
    {f_seated : Addr} {od_seated an_seated : Option Addr} {sl_seated : Array (Option Value)} {oc_seated kV_seated dc_seated pm_seated cd_seated ct_seated : Value}
    {f_first_come : Addr} {od_first_come an_first_come : Option Addr} {sl_first_come : Array (Option Value)} {oc_first_come kV_first_come dc_first_come pm_first_come cd_first_come ct_first_come : Value}
    {f_l_cell_at : Addr} {od_l_cell_at an_l_cell_at : Option Addr} {sl_l_cell_at : Array (Option Value)} {oc_l_cell_at kV_l_cell_at dc_l_cell_at pm_l_cell_at cd_l_cell_at ct_l_cell_at : Value}
    {f_l_whole : Addr} {od_l_whole an_l_whole : Option Addr} {sl_l_whole : Array (Option Value)} {oc_l_whole kV_l_whole dc_l_whole pm_l_whole cd_l_whole ct_l_whole : Value}
    {f_l_home : Addr} {od_l_home an_l_home : Option Addr} {sl_l_home : Array (Option Value)} {oc_l_home kV_l_home dc_l_home pm_l_home cd_l_home ct_l_home : Value}
    {f_l_base : Addr} {od_l_base an_l_base : Option Addr} {sl_l_base : Array (Option Value)} {oc_l_base kV_l_base dc_l_base pm_l_base cd_l_base ct_l_base : Value}
    {f_l_guest : Addr} {od_l_guest an_l_guest : Option Addr} {sl_l_guest : Array (Option Value)} {oc_l_guest kV_l_guest dc_l_guest pm_l_guest cd_l_guest ct_l_guest : Value}
    {f_l_drawn : Addr} {od_l_drawn an_l_drawn : Option Addr} {sl_l_drawn : Array (Option Value)} {oc_l_drawn kV_l_drawn dc_l_drawn pm_l_drawn cd_l_drawn ct_l_drawn : Value}
    {f_l_places : Addr} {od_l_places an_l_places : Option Addr} {sl_l_places : Array (Option Value)} {oc_l_places kV_l_places dc_l_places pm_l_places cd_l_places ct_l_places : Value}
    {f_l_in_turn : Addr} {od_l_in_turn an_l_in_turn : Option Addr} {sl_l_in_turn : Array (Option Value)} {oc_l_in_turn kV_l_in_turn dc_l_in_turn pm_l_in_turn cd_l_in_turn ct_l_in_turn : Value}
    {f_l_sums : Addr} {od_l_sums an_l_sums : Option Addr} {sl_l_sums : Array (Option Value)} {oc_l_sums kV_l_sums dc_l_sums pm_l_sums cd_l_sums ct_l_sums : Value}
    {f_l_told : Addr} {od_l_told an_l_told : Option Addr} {sl_l_told : Array (Option Value)} {oc_l_told kV_l_told dc_l_told pm_l_told cd_l_told ct_l_told : Value}
    {f_l_odd : Addr} {od_l_odd an_l_odd : Option Addr} {sl_l_odd : Array (Option Value)} {oc_l_odd kV_l_odd dc_l_odd pm_l_odd cd_l_odd ct_l_odd : Value}
    {f_l_refused : Addr} {od_l_refused an_l_refused : Option Addr} {sl_l_refused : Array (Option Value)} {oc_l_refused kV_l_refused dc_l_refused pm_l_refused cd_l_refused ct_l_refused : Value}
    {f_l_spoiled : Addr} {od_l_spoiled an_l_spoiled : Option Addr} {sl_l_spoiled : Array (Option Value)} {oc_l_spoiled kV_l_spoiled dc_l_spoiled pm_l_spoiled cd_l_spoiled ct_l_spoiled : Value}
    {f_law : Addr} {od_law an_law : Option Addr} {sl_law : Array (Option Value)} {oc_law kV_law dc_law pm_law cd_law ct_law : Value}
    (cm_RingError : PySem.W.nsIn K mainGlobals "RingError" = some (some (.ref c_RingError)))
    (cm_NoGuest : PySem.W.nsIn K mainGlobals "NoGuest" = some (some (.ref c_NoGuest)))
    (cm_NoSize : PySem.W.nsIn K mainGlobals "NoSize" = some (some (.ref c_NoSize)))
    (cm_Twice : PySem.W.nsIn K mainGlobals "Twice" = some (some (.ref c_Twice)))
    (cm_Away : PySem.W.nsIn K mainGlobals "Away" = some (some (.ref c_Away)))
    (cm_Full : PySem.W.nsIn K mainGlobals "Full" = some (some (.ref c_Full)))
    (ce_NoGuest : PySem.W.excIn K c_NoGuest veTail "ValueError.__new__" = true)
    (cf1_NoGuest : PySem.W.findIn K (.ref c_NoGuest) "__class__" = some (some (.builtin "object.__class__")))
    (cf2_NoGuest : PySem.W.findIn K (.ref c_NoGuest) "__getattribute__" = some (some (.builtin "BaseException.__getattribute__")))
    (cf3_NoGuest : PySem.W.findIn K (.ref c_NoGuest) "__getattr__" = some none)
    (cf4_NoGuest : PySem.W.mroIn K c_NoGuest (.type "object") = some true)
    (cf5_NoGuest : PySem.W.subIn K (.ref c_NoGuest) (.type "BaseException") = some true)
    (cc_NoGuest : PySem.W.clsIn K c_NoGuest = some cd_NoGuest)
    (cx_NoGuest : PySem.W.exmOne K (.ref c_NoGuest) (.ref c_RingError) = some true)
    (cv_NoGuest : PySem.W.kitOne K (.ref c_NoGuest) (.type "ValueError") = some true)
    (ci_NoGuest_RingError : PySem.W.kitOne K (.ref c_NoGuest) (.ref c_RingError) = some true)
    (ci_NoGuest_NoGuest : PySem.W.kitOne K (.ref c_NoGuest) (.ref c_NoGuest) = some true)
    (ci_NoGuest_NoSize : PySem.W.kitOne K (.ref c_NoGuest) (.ref c_NoSize) = some false)
    (ci_NoGuest_Twice : PySem.W.kitOne K (.ref c_NoGuest) (.ref c_Twice) = some false)
    (ci_NoGuest_Away : PySem.W.kitOne K (.ref c_NoGuest) (.ref c_Away) = some false)
    (ci_NoGuest_Full : PySem.W.kitOne K (.ref c_NoGuest) (.ref c_Full) = some false)
    (ce_NoSize : PySem.W.excIn K c_NoSize veTail "ValueError.__new__" = true)
    (cf1_NoSize : PySem.W.findIn K (.ref c_NoSize) "__class__" = some (some (.builtin "object.__class__")))
    (cf2_NoSize : PySem.W.findIn K (.ref c_NoSize) "__getattribute__" = some (some (.builtin "BaseException.__getattribute__")))
    (cf3_NoSize : PySem.W.findIn K (.ref c_NoSize) "__getattr__" = some none)
    (cf4_NoSize : PySem.W.mroIn K c_NoSize (.type "object") = some true)
    (cf5_NoSize : PySem.W.subIn K (.ref c_NoSize) (.type "BaseException") = some true)
    (cc_NoSize : PySem.W.clsIn K c_NoSize = some cd_NoSize)
    (cx_NoSize : PySem.W.exmOne K (.ref c_NoSize) (.ref c_RingError) = some true)
    (cv_NoSize : PySem.W.kitOne K (.ref c_NoSize) (.type "ValueError") = some true)
    (ci_NoSize_RingError : PySem.W.kitOne K (.ref c_NoSize) (.ref c_RingError) = some true)
    (ci_NoSize_NoGuest : PySem.W.kitOne K (.ref c_NoSize) (.ref c_NoGuest) = some false)
    (ci_NoSize_NoSize : PySem.W.kitOne K (.ref c_NoSize) (.ref c_NoSize) = some true)
    (ci_NoSize_Twice : PySem.W.kitOne K (.ref c_NoSize) (.ref c_Twice) = some false)
    (ci_NoSize_Away : PySem.W.kitOne K (.ref c_NoSize) (.ref c_Away) = some false)
    (ci_NoSize_Full : PySem.W.kitOne K (.ref c_NoSize) (.ref c_Full) = some false)
    (ce_Twice : PySem.W.excIn K c_Twice veTail "ValueError.__new__" = true)
    (cf1_Twice : PySem.W.findIn K (.ref c_Twice) "__class__" = some (some (.builtin "object.__class__")))
    (cf2_Twice : PySem.W.findIn K (.ref c_Twice) "__getattribute__" = some (some (.builtin "BaseException.__getattribute__")))
    (cf3_Twice : PySem.W.findIn K (.ref c_Twice) "__getattr__" = some none)
    (cf4_Twice : PySem.W.mroIn K c_Twice (.type "object") = some true)
    (cf5_Twice : PySem.W.subIn K (.ref c_Twice) (.type "BaseException") = some true)
    (cc_Twice : PySem.W.clsIn K c_Twice = some cd_Twice)
    (cx_Twice : PySem.W.exmOne K (.ref c_Twice) (.ref c_RingError) = some true)
    (cv_Twice : PySem.W.kitOne K (.ref c_Twice) (.type "ValueError") = some true)
    (ci_Twice_RingError : PySem.W.kitOne K (.ref c_Twice) (.ref c_RingError) = some true)
    (ci_Twice_NoGuest : PySem.W.kitOne K (.ref c_Twice) (.ref c_NoGuest) = some false)
    (ci_Twice_NoSize : PySem.W.kitOne K (.ref c_Twice) (.ref c_NoSize) = some false)
    (ci_Twice_Twice : PySem.W.kitOne K (.ref c_Twice) (.ref c_Twice) = some true)
    (ci_Twice_Away : PySem.W.kitOne K (.ref c_Twice) (.ref c_Away) = some false)
    (ci_Twice_Full : PySem.W.kitOne K (.ref c_Twice) (.ref c_Full) = some false)
    (ce_Away : PySem.W.excIn K c_Away veTail "ValueError.__new__" = true)
    (cf1_Away : PySem.W.findIn K (.ref c_Away) "__class__" = some (some (.builtin "object.__class__")))
    (cf2_Away : PySem.W.findIn K (.ref c_Away) "__getattribute__" = some (some (.builtin "BaseException.__getattribute__")))
    (cf3_Away : PySem.W.findIn K (.ref c_Away) "__getattr__" = some none)
    (cf4_Away : PySem.W.mroIn K c_Away (.type "object") = some true)
    (cf5_Away : PySem.W.subIn K (.ref c_Away) (.type "BaseException") = some true)
    (cc_Away : PySem.W.clsIn K c_Away = some cd_Away)
    (cx_Away : PySem.W.exmOne K (.ref c_Away) (.ref c_RingError) = some true)
    (cv_Away : PySem.W.kitOne K (.ref c_Away) (.type "ValueError") = some true)
    (ci_Away_RingError : PySem.W.kitOne K (.ref c_Away) (.ref c_RingError) = some true)
    (ci_Away_NoGuest : PySem.W.kitOne K (.ref c_Away) (.ref c_NoGuest) = some false)
    (ci_Away_NoSize : PySem.W.kitOne K (.ref c_Away) (.ref c_NoSize) = some false)
    (ci_Away_Twice : PySem.W.kitOne K (.ref c_Away) (.ref c_Twice) = some false)
    (ci_Away_Away : PySem.W.kitOne K (.ref c_Away) (.ref c_Away) = some true)
    (ci_Away_Full : PySem.W.kitOne K (.ref c_Away) (.ref c_Full) = some false)
    (ce_Full : PySem.W.excIn K c_Full veTail "ValueError.__new__" = true)
    (cf1_Full : PySem.W.findIn K (.ref c_Full) "__class__" = some (some (.builtin "object.__class__")))
    (cf2_Full : PySem.W.findIn K (.ref c_Full) "__getattribute__" = some (some (.builtin "BaseException.__getattribute__")))
    (cf3_Full : PySem.W.findIn K (.ref c_Full) "__getattr__" = some none)
    (cf4_Full : PySem.W.mroIn K c_Full (.type "object") = some true)
    (cf5_Full : PySem.W.subIn K (.ref c_Full) (.type "BaseException") = some true)
    (cc_Full : PySem.W.clsIn K c_Full = some cd_Full)
    (cx_Full : PySem.W.exmOne K (.ref c_Full) (.ref c_RingError) = some true)
    (cv_Full : PySem.W.kitOne K (.ref c_Full) (.type "ValueError") = some true)
    (ci_Full_RingError : PySem.W.kitOne K (.ref c_Full) (.ref c_RingError) = some true)
    (ci_Full_NoGuest : PySem.W.kitOne K (.ref c_Full) (.ref c_NoGuest) = some false)
    (ci_Full_NoSize : PySem.W.kitOne K (.ref c_Full) (.ref c_NoSize) = some false)
    (ci_Full_Twice : PySem.W.kitOne K (.ref c_Full) (.ref c_Twice) = some false)
    (ci_Full_Away : PySem.W.kitOne K (.ref c_Full) (.ref c_Away) = some false)
    (ci_Full_Full : PySem.W.kitOne K (.ref c_Full) (.ref c_Full) = some true)
    (n_ValueError : PySem.W.nsIn K mainGlobals "ValueError" = some none)
    (n_len : PySem.W.nsIn K mainGlobals "len" = some none)
    (n_list : PySem.W.nsIn K mainGlobals "list" = some none)
    (n_enumerate : PySem.W.nsIn K mainGlobals "enumerate" = some none)
    (n_zip : PySem.W.nsIn K mainGlobals "zip" = some none)
    (n_max : PySem.W.nsIn K mainGlobals "max" = some none)
    (n_isinstance : PySem.W.nsIn K mainGlobals "isinstance" = some none)
    (n_int : PySem.W.nsIn K mainGlobals "int" = some none)
    (n_sum : PySem.W.nsIn K mainGlobals "sum" = some none)
    (n_bool : PySem.W.nsIn K mainGlobals "bool" = some none)
    (n_set : PySem.W.nsIn K mainGlobals "set" = some none)
    (n_tuple : PySem.W.nsIn K mainGlobals "tuple" = some none)
    (n_sorted : PySem.W.nsIn K mainGlobals "sorted" = some none)
    (k_int_int : PySem.W.kitOne K (.type "int") (.type "int") = some true)
    (k_int_bool : PySem.W.kitOne K (.type "int") (.type "bool") = some false)
    (k_bool_int : PySem.W.kitOne K (.type "bool") (.type "int") = some true)
    (k_bool_bool : PySem.W.kitOne K (.type "bool") (.type "bool") = some true)
    (k_NoneType_bool : PySem.W.kitOne K (.type "NoneType") (.type "bool") = some false)
    (k_NoneType_int : PySem.W.kitOne K (.type "NoneType") (.type "int") = some false)
    (k_str_bool : PySem.W.kitOne K (.type "str") (.type "bool") = some false)
    (k_str_int : PySem.W.kitOne K (.type "str") (.type "int") = some false)
    (k_tuple_bool : PySem.W.kitOne K (.type "tuple") (.type "bool") = some false)
    (k_tuple_int : PySem.W.kitOne K (.type "tuple") (.type "int") = some false)
    (k_list_bool : PySem.W.kitOne K (.type "list") (.type "bool") = some false)
    (k_list_int : PySem.W.kitOne K (.type "list") (.type "int") = some false)
    (k_dict_bool : PySem.W.kitOne K (.type "dict") (.type "bool") = some false)
    (k_dict_int : PySem.W.kitOne K (.type "dict") (.type "int") = some false)
    (k_list_list : PySem.W.kitOne K (.type "list") (.type "list") = some true)
    (k_tuple_tuple : PySem.W.kitOne K (.type "tuple") (.type "tuple") = some true)
    (g_FACTOR : PySem.W.nsIn K mainGlobals "FACTOR" = some (some (.int 40503 t_FACTOR)))
    (g_SPREAD : PySem.W.nsIn K mainGlobals "SPREAD" = some (some (.int 65536 t_SPREAD)))
    (a_is_whole : PySem.W.nsIn K mainGlobals "is_whole" = some (some (.ref f_is_whole)))
    (l_is_whole : K.lookup f_is_whole = some ⟨oc_is_whole, od_is_whole, .func (PySem.W.fnOf "is_whole" "is_whole" (defArgs s_is_whole) (defBody s_is_whole) (defScope s_is_whole) .none kV_is_whole dc_is_whole pm_is_whole an_is_whole cd_is_whole ct_is_whole), sl_is_whole⟩)
    (c_is_whole : PySem.W.codeIn K cd_is_whole "is_whole" = true)
    (k_is_whole : PySem.W.keepIn K (.ref f_is_whole) = true)
    (a_is_guest : PySem.W.nsIn K mainGlobals "is_guest" = some (some (.ref f_is_guest)))
    (l_is_guest : K.lookup f_is_guest = some ⟨oc_is_guest, od_is_guest, .func (PySem.W.fnOf "is_guest" "is_guest" (defArgs s_is_guest) (defBody s_is_guest) (defScope s_is_guest) .none kV_is_guest dc_is_guest pm_is_guest an_is_guest cd_is_guest ct_is_guest), sl_is_guest⟩)
    (c_is_guest : PySem.W.codeIn K cd_is_guest "is_guest" = true)
    (k_is_guest : PySem.W.keepIn K (.ref f_is_guest) = true)
    (a_home : PySem.W.nsIn K mainGlobals "home" = some (some (.ref f_home)))
    (l_home : K.lookup f_home = some ⟨oc_home, od_home, .func (PySem.W.fnOf "home" "home" (defArgs s_home) (defBody s_home) (defScope s_home) .none kV_home dc_home pm_home an_home cd_home ct_home), sl_home⟩)
    (c_home : PySem.W.codeIn K cd_home "home" = true)
    (k_home : PySem.W.keepIn K (.ref f_home) = true)
    (a_carried : PySem.W.nsIn K mainGlobals "carried" = some (some (.ref f_carried)))
    (l_carried : K.lookup f_carried = some ⟨oc_carried, od_carried, .func (PySem.W.fnOf "carried" "carried" (defArgs s_carried) (defBody s_carried) (defScope s_carried) .none kV_carried dc_carried pm_carried an_carried cd_carried ct_carried), sl_carried⟩)
    (c_carried : PySem.W.codeIn K cd_carried "carried" = true)
    (k_carried : PySem.W.keepIn K (.ref f_carried) = true)
    (a_ahead : PySem.W.nsIn K mainGlobals "ahead" = some (some (.ref f_ahead)))
    (l_ahead : K.lookup f_ahead = some ⟨oc_ahead, od_ahead, .func (PySem.W.fnOf "ahead" "ahead" (defArgs s_ahead) (defBody s_ahead) (defScope s_ahead) .none kV_ahead dc_ahead pm_ahead an_ahead cd_ahead ct_ahead), sl_ahead⟩)
    (c_ahead : PySem.W.codeIn K cd_ahead "ahead" = true)
    (k_ahead : PySem.W.keepIn K (.ref f_ahead) = true)
    (a_check_guest : PySem.W.nsIn K mainGlobals "check_guest" = some (some (.ref f_check_guest)))
    (l_check_guest : K.lookup f_check_guest = some ⟨oc_check_guest, od_check_guest, .func (PySem.W.fnOf "check_guest" "check_guest" (defArgs s_check_guest) (defBody s_check_guest) (defScope s_check_guest) .none kV_check_guest dc_check_guest pm_check_guest an_check_guest cd_check_guest ct_check_guest), sl_check_guest⟩)
    (c_check_guest : PySem.W.codeIn K cd_check_guest "check_guest" = true)
    (k_check_guest : PySem.W.keepIn K (.ref f_check_guest) = true)
    (a_strain : PySem.W.nsIn K mainGlobals "strain" = some (some (.ref f_strain)))
    (l_strain : K.lookup f_strain = some ⟨oc_strain, od_strain, .func (PySem.W.fnOf "strain" "strain" (defArgs s_strain) (defBody s_strain) (defScope s_strain) .none kV_strain dc_strain pm_strain an_strain cd_strain ct_strain), sl_strain⟩)
    (c_strain : PySem.W.codeIn K cd_strain "strain" = true)
    (k_strain : PySem.W.keepIn K (.ref f_strain) = true)
    (a_put : PySem.W.nsIn K mainGlobals "put" = some (some (.ref f_put)))
    (l_put : K.lookup f_put = some ⟨oc_put, od_put, .func (PySem.W.fnOf "put" "put" (defArgs s_put) (defBody s_put) (defScope s_put) .none kV_put dc_put pm_put an_put cd_put ct_put), sl_put⟩)
    (c_put : PySem.W.codeIn K cd_put "put" = true)
    (k_put : PySem.W.keepIn K (.ref f_put) = true)
    (a_check_list : PySem.W.nsIn K mainGlobals "check_list" = some (some (.ref f_check_list)))
    (l_check_list : K.lookup f_check_list = some ⟨oc_check_list, od_check_list, .func (PySem.W.fnOf "check_list" "check_list" (defArgs s_check_list) (defBody s_check_list) (defScope s_check_list) .none kV_check_list dc_check_list pm_check_list an_check_list cd_check_list ct_check_list), sl_check_list⟩)
    (c_check_list : PySem.W.codeIn K cd_check_list "check_list" = true)
    (k_check_list : PySem.W.keepIn K (.ref f_check_list) = true)
    (a_seated : PySem.W.nsIn K mainGlobals "seated" = some (some (.ref f_seated)))
    (l_seated : K.lookup f_seated = some ⟨oc_seated, od_seated, .func (PySem.W.fnOf "seated" "seated" (defArgs s_seated) (defBody s_seated) (defScope s_seated) .none kV_seated dc_seated pm_seated an_seated cd_seated ct_seated), sl_seated⟩)
    (c_seated : PySem.W.codeIn K cd_seated "seated" = true)
    (k_seated : PySem.W.keepIn K (.ref f_seated) = true)
    (a_first_come : PySem.W.nsIn K mainGlobals "first_come" = some (some (.ref f_first_come)))
    (l_first_come : K.lookup f_first_come = some ⟨oc_first_come, od_first_come, .func (PySem.W.fnOf "first_come" "first_come" (defArgs s_first_come) (defBody s_first_come) (defScope s_first_come) .none kV_first_come dc_first_come pm_first_come an_first_come cd_first_come ct_first_come), sl_first_come⟩)
    (c_first_come : PySem.W.codeIn K cd_first_come "first_come" = true)
    (k_first_come : PySem.W.keepIn K (.ref f_first_come) = true)
    (a_l_cell_at : PySem.W.nsIn K mainGlobals "_law_cell_at" = some (some (.ref f_l_cell_at)))
    (l_l_cell_at : K.lookup f_l_cell_at = some ⟨oc_l_cell_at, od_l_cell_at, .func (PySem.W.fnOf "_law_cell_at" "_law_cell_at" (defArgs s_l_cell_at) (defBody s_l_cell_at) (defScope s_l_cell_at) .none kV_l_cell_at dc_l_cell_at pm_l_cell_at an_l_cell_at cd_l_cell_at ct_l_cell_at), sl_l_cell_at⟩)
    (c_l_cell_at : PySem.W.codeIn K cd_l_cell_at "_law_cell_at" = true)
    (k_l_cell_at : PySem.W.keepIn K (.ref f_l_cell_at) = true)
    (a_l_whole : PySem.W.nsIn K mainGlobals "_law_whole" = some (some (.ref f_l_whole)))
    (l_l_whole : K.lookup f_l_whole = some ⟨oc_l_whole, od_l_whole, .func (PySem.W.fnOf "_law_whole" "_law_whole" (defArgs s_l_whole) (defBody s_l_whole) (defScope s_l_whole) .none kV_l_whole dc_l_whole pm_l_whole an_l_whole cd_l_whole ct_l_whole), sl_l_whole⟩)
    (c_l_whole : PySem.W.codeIn K cd_l_whole "_law_whole" = true)
    (k_l_whole : PySem.W.keepIn K (.ref f_l_whole) = true)
    (a_l_home : PySem.W.nsIn K mainGlobals "_law_home" = some (some (.ref f_l_home)))
    (l_l_home : K.lookup f_l_home = some ⟨oc_l_home, od_l_home, .func (PySem.W.fnOf "_law_home" "_law_home" (defArgs s_l_home) (defBody s_l_home) (defScope s_l_home) .none kV_l_home dc_l_home pm_l_home an_l_home cd_l_home ct_l_home), sl_l_home⟩)
    (c_l_home : PySem.W.codeIn K cd_l_home "_law_home" = true)
    (k_l_home : PySem.W.keepIn K (.ref f_l_home) = true)
    (a_l_base : PySem.W.nsIn K mainGlobals "_law_base" = some (some (.ref f_l_base)))
    (l_l_base : K.lookup f_l_base = some ⟨oc_l_base, od_l_base, .func (PySem.W.fnOf "_law_base" "_law_base" (defArgs s_l_base) (defBody s_l_base) (defScope s_l_base) .none kV_l_base dc_l_base pm_l_base an_l_base cd_l_base ct_l_base), sl_l_base⟩)
    (c_l_base : PySem.W.codeIn K cd_l_base "_law_base" = true)
    (k_l_base : PySem.W.keepIn K (.ref f_l_base) = true)
    (a_l_guest : PySem.W.nsIn K mainGlobals "_law_guest" = some (some (.ref f_l_guest)))
    (l_l_guest : K.lookup f_l_guest = some ⟨oc_l_guest, od_l_guest, .func (PySem.W.fnOf "_law_guest" "_law_guest" (defArgs s_l_guest) (defBody s_l_guest) (defScope s_l_guest) .none kV_l_guest dc_l_guest pm_l_guest an_l_guest cd_l_guest ct_l_guest), sl_l_guest⟩)
    (c_l_guest : PySem.W.codeIn K cd_l_guest "_law_guest" = true)
    (k_l_guest : PySem.W.keepIn K (.ref f_l_guest) = true)
    (a_l_drawn : PySem.W.nsIn K mainGlobals "_law_drawn" = some (some (.ref f_l_drawn)))
    (l_l_drawn : K.lookup f_l_drawn = some ⟨oc_l_drawn, od_l_drawn, .func (PySem.W.fnOf "_law_drawn" "_law_drawn" (defArgs s_l_drawn) (defBody s_l_drawn) (defScope s_l_drawn) .none kV_l_drawn dc_l_drawn pm_l_drawn an_l_drawn cd_l_drawn ct_l_drawn), sl_l_drawn⟩)
    (c_l_drawn : PySem.W.codeIn K cd_l_drawn "_law_drawn" = true)
    (k_l_drawn : PySem.W.keepIn K (.ref f_l_drawn) = true)
    (a_l_places : PySem.W.nsIn K mainGlobals "_law_places" = some (some (.ref f_l_places)))
    (l_l_places : K.lookup f_l_places = some ⟨oc_l_places, od_l_places, .func (PySem.W.fnOf "_law_places" "_law_places" (defArgs s_l_places) (defBody s_l_places) (defScope s_l_places) .none kV_l_places dc_l_places pm_l_places an_l_places cd_l_places ct_l_places), sl_l_places⟩)
    (c_l_places : PySem.W.codeIn K cd_l_places "_law_places" = true)
    (k_l_places : PySem.W.keepIn K (.ref f_l_places) = true)
    (a_l_in_turn : PySem.W.nsIn K mainGlobals "_law_in_turn" = some (some (.ref f_l_in_turn)))
    (l_l_in_turn : K.lookup f_l_in_turn = some ⟨oc_l_in_turn, od_l_in_turn, .func (PySem.W.fnOf "_law_in_turn" "_law_in_turn" (defArgs s_l_in_turn) (defBody s_l_in_turn) (defScope s_l_in_turn) .none kV_l_in_turn dc_l_in_turn pm_l_in_turn an_l_in_turn cd_l_in_turn ct_l_in_turn), sl_l_in_turn⟩)
    (c_l_in_turn : PySem.W.codeIn K cd_l_in_turn "_law_in_turn" = true)
    (k_l_in_turn : PySem.W.keepIn K (.ref f_l_in_turn) = true)
    (a_l_sums : PySem.W.nsIn K mainGlobals "_law_sums" = some (some (.ref f_l_sums)))
    (l_l_sums : K.lookup f_l_sums = some ⟨oc_l_sums, od_l_sums, .func (PySem.W.fnOf "_law_sums" "_law_sums" (defArgs s_l_sums) (defBody s_l_sums) (defScope s_l_sums) .none kV_l_sums dc_l_sums pm_l_sums an_l_sums cd_l_sums ct_l_sums), sl_l_sums⟩)
    (c_l_sums : PySem.W.codeIn K cd_l_sums "_law_sums" = true)
    (k_l_sums : PySem.W.keepIn K (.ref f_l_sums) = true)
    (a_l_told : PySem.W.nsIn K mainGlobals "_law_told" = some (some (.ref f_l_told)))
    (l_l_told : K.lookup f_l_told = some ⟨oc_l_told, od_l_told, .func (PySem.W.fnOf "_law_told" "_law_told" (defArgs s_l_told) (defBody s_l_told) (defScope s_l_told) .none kV_l_told dc_l_told pm_l_told an_l_told cd_l_told ct_l_told), sl_l_told⟩)
    (c_l_told : PySem.W.codeIn K cd_l_told "_law_told" = true)
    (k_l_told : PySem.W.keepIn K (.ref f_l_told) = true)
    (a_l_odd : PySem.W.nsIn K mainGlobals "_law_odd" = some (some (.ref f_l_odd)))
    (l_l_odd : K.lookup f_l_odd = some ⟨oc_l_odd, od_l_odd, .func (PySem.W.fnOf "_law_odd" "_law_odd" (defArgs s_l_odd) (defBody s_l_odd) (defScope s_l_odd) .none kV_l_odd dc_l_odd pm_l_odd an_l_odd cd_l_odd ct_l_odd), sl_l_odd⟩)
    (c_l_odd : PySem.W.codeIn K cd_l_odd "_law_odd" = true)
    (k_l_odd : PySem.W.keepIn K (.ref f_l_odd) = true)
    (a_l_refused : PySem.W.nsIn K mainGlobals "_law_refused" = some (some (.ref f_l_refused)))
    (l_l_refused : K.lookup f_l_refused = some ⟨oc_l_refused, od_l_refused, .func (PySem.W.fnOf "_law_refused" "_law_refused" (defArgs s_l_refused) (defBody s_l_refused) (defScope s_l_refused) .none kV_l_refused dc_l_refused pm_l_refused an_l_refused cd_l_refused ct_l_refused), sl_l_refused⟩)
    (c_l_refused : PySem.W.codeIn K cd_l_refused "_law_refused" = true)
    (k_l_refused : PySem.W.keepIn K (.ref f_l_refused) = true)
    (a_l_spoiled : PySem.W.nsIn K mainGlobals "_law_spoiled" = some (some (.ref f_l_spoiled)))
    (l_l_spoiled : K.lookup f_l_spoiled = some ⟨oc_l_spoiled, od_l_spoiled, .func (PySem.W.fnOf "_law_spoiled" "_law_spoiled" (defArgs s_l_spoiled) (defBody s_l_spoiled) (defScope s_l_spoiled) .none kV_l_spoiled dc_l_spoiled pm_l_spoiled an_l_spoiled cd_l_spoiled ct_l_spoiled), sl_l_spoiled⟩)
    (c_l_spoiled : PySem.W.codeIn K cd_l_spoiled "_law_spoiled" = true)
    (k_l_spoiled : PySem.W.keepIn K (.ref f_l_spoiled) = true)
    (a_law : PySem.W.nsIn K mainGlobals "law" = some (some (.ref f_law)))
    (l_law : K.lookup f_law = some ⟨oc_law, od_law, .func (PySem.W.fnOf "law" "law" (defArgs s_law) (defBody s_law) (defScope s_law) .none kV_law dc_law pm_law an_law cd_law ct_law), sl_law⟩)
    (c_law : PySem.W.codeIn K cd_law "law" = true)
    (k_law : PySem.W.keepIn K (.ref f_law) = true) :
    ∃ fd : FuncData, (∀ (s : Shared) (v : Value), BindsTo s fd ⟨[v], []⟩ [("_law_script", v)]) ∧ ∀ base : Heap, K.In base → base.Ns mainGlobals mg → FnOk l.prog w K mg base CXL lawK fa fd ["_law_script"] (spLaw K) := by
  have e := hfa.symm.trans (PySem.W.mg_of X G a_law)
  cases e
  have T : Txt K mg ⟨c_RingError, c_NoGuest, c_NoSize, c_Twice, c_Away, c_Full⟩ := ⟨PySem.W.mg_of X G cm_RingError,
    PySem.W.mg_of X G cm_NoGuest,
    ⟨PySem.W.mg_of X G cm_NoGuest, ce_NoGuest, ⟨cf1_NoGuest, cf2_NoGuest, cf3_NoGuest, cf4_NoGuest, cf5_NoGuest⟩, (by rw [cc_NoGuest]; rfl)⟩,
    cx_NoGuest,
    cv_NoGuest,
    ci_NoGuest_RingError,
    ci_NoGuest_NoGuest,
    ci_NoGuest_NoSize,
    ci_NoGuest_Twice,
    ci_NoGuest_Away,
    ci_NoGuest_Full,
    PySem.W.mg_of X G cm_NoSize,
    ⟨PySem.W.mg_of X G cm_NoSize, ce_NoSize, ⟨cf1_NoSize, cf2_NoSize, cf3_NoSize, cf4_NoSize, cf5_NoSize⟩, (by rw [cc_NoSize]; rfl)⟩,
    cx_NoSize,
    cv_NoSize,
    ci_NoSize_RingError,
    ci_NoSize_NoGuest,
    ci_NoSize_NoSize,
    ci_NoSize_Twice,
    ci_NoSize_Away,
    ci_NoSize_Full,
    PySem.W.mg_of X G cm_Twice,
    ⟨PySem.W.mg_of X G cm_Twice, ce_Twice, ⟨cf1_Twice, cf2_Twice, cf3_Twice, cf4_Twice, cf5_Twice⟩, (by rw [cc_Twice]; rfl)⟩,
    cx_Twice,
    cv_Twice,
    ci_Twice_RingError,
    ci_Twice_NoGuest,
    ci_Twice_NoSize,
    ci_Twice_Twice,
    ci_Twice_Away,
    ci_Twice_Full,
    PySem.W.mg_of X G cm_Away,
    ⟨PySem.W.mg_of X G cm_Away, ce_Away, ⟨cf1_Away, cf2_Away, cf3_Away, cf4_Away, cf5_Away⟩, (by rw [cc_Away]; rfl)⟩,
    cx_Away,
    cv_Away,
    ci_Away_RingError,
    ci_Away_NoGuest,
    ci_Away_NoSize,
    ci_Away_Twice,
    ci_Away_Away,
    ci_Away_Full,
    PySem.W.mg_of X G cm_Full,
    ⟨PySem.W.mg_of X G cm_Full, ce_Full, ⟨cf1_Full, cf2_Full, cf3_Full, cf4_Full, cf5_Full⟩, (by rw [cc_Full]; rfl)⟩,
    cx_Full,
    cv_Full,
    ci_Full_RingError,
    ci_Full_NoGuest,
    ci_Full_NoSize,
    ci_Full_Twice,
    ci_Full_Away,
    ci_Full_Full,
    PySem.W.mg_none_of X G n_ValueError,
    PySem.W.mg_none_of X G n_len,
    PySem.W.mg_none_of X G n_list,
    PySem.W.mg_none_of X G n_enumerate,
    PySem.W.mg_none_of X G n_zip,
    PySem.W.mg_none_of X G n_max,
    PySem.W.mg_none_of X G n_isinstance,
    PySem.W.mg_none_of X G n_int,
    PySem.W.mg_none_of X G n_sum,
    PySem.W.mg_none_of X G n_bool,
    PySem.W.mg_none_of X G n_set,
    PySem.W.mg_none_of X G n_tuple,
    PySem.W.mg_none_of X G n_sorted,
    k_int_int,
    k_int_bool,
    k_bool_int,
    k_bool_bool,
    k_NoneType_bool,
    k_NoneType_int,
    k_str_bool,
    k_str_int,
    k_tuple_bool,
    k_tuple_int,
    k_list_bool,
    k_list_int,
    k_dict_bool,
    k_dict_int,
    k_list_list,
    k_tuple_tuple,
    ⟨_, PySem.W.mg_of X G g_FACTOR⟩,
    ⟨_, PySem.W.mg_of X G g_SPREAD⟩,
    ⟨_, _, fun_mk (st := s_is_whole) l_is_whole c_is_whole k_is_whole, (fun_mk (st := s_is_whole) l_is_whole c_is_whole k_is_whole).binds (ps := ["thing"]) (fun _ _ _ _ _ _ us hl => match us, hl with | [_], _ => rfl), PySem.W.mg_of X G a_is_whole⟩,
    ⟨_, _, fun_mk (st := s_is_guest) l_is_guest c_is_guest k_is_guest, (fun_mk (st := s_is_guest) l_is_guest c_is_guest k_is_guest).binds (ps := ["thing"]) (fun _ _ _ _ _ _ us hl => match us, hl with | [_], _ => rfl), PySem.W.mg_of X G a_is_guest⟩,
    ⟨_, _, fun_mk (st := s_home) l_home c_home k_home, (fun_mk (st := s_home) l_home c_home k_home).binds (ps := ["guest", "many"]) (fun _ _ _ _ _ _ us hl => match us, hl with | [_, _], _ => rfl), PySem.W.mg_of X G a_home⟩,
    ⟨_, _, fun_mk (st := s_carried) l_carried c_carried k_carried, (fun_mk (st := s_carried) l_carried c_carried k_carried).binds (ps := ["guest", "at", "many"]) (fun _ _ _ _ _ _ us hl => match us, hl with | [_, _, _], _ => rfl), PySem.W.mg_of X G a_carried⟩,
    ⟨_, _, fun_mk (st := s_ahead) l_ahead c_ahead k_ahead, (fun_mk (st := s_ahead) l_ahead c_ahead k_ahead).binds (ps := ["one", "other", "at", "many"]) (fun _ _ _ _ _ _ us hl => match us, hl with | [_, _, _, _], _ => rfl), PySem.W.mg_of X G a_ahead⟩,
    ⟨_, _, fun_mk (st := s_check_guest) l_check_guest c_check_guest k_check_guest, (fun_mk (st := s_check_guest) l_check_guest c_check_guest k_check_guest).binds (ps := ["thing"]) (fun _ _ _ _ _ _ us hl => match us, hl with | [_], _ => rfl), PySem.W.mg_of X G a_check_guest⟩,
    ⟨_, _, fun_mk (st := s_strain) l_strain c_strain k_strain, (fun_mk (st := s_strain) l_strain c_strain k_strain).binds (ps := ["seats"]) (fun _ _ _ _ _ _ us hl => match us, hl with | [_], _ => rfl), PySem.W.mg_of X G a_strain⟩,
    ⟨_, _, fun_mk (st := s_put) l_put c_put k_put, (fun_mk (st := s_put) l_put c_put k_put).binds (ps := ["seats", "guest"]) (fun _ _ _ _ _ _ us hl => match us, hl with | [_, _], _ => rfl), PySem.W.mg_of X G a_put⟩,
    ⟨_, _, fun_mk (st := s_check_list) l_check_list c_check_list k_check_list, (fun_mk (st := s_check_list) l_check_list c_check_list k_check_list).binds (ps := ["guests", "many"]) (fun _ _ _ _ _ _ us hl => match us, hl with | [_, _], _ => rfl), PySem.W.mg_of X G a_check_list⟩,
    ⟨_, _, fun_mk (st := s_seated) l_seated c_seated k_seated, (fun_mk (st := s_seated) l_seated c_seated k_seated).binds (ps := ["guests", "many"]) (fun _ _ _ _ _ _ us hl => match us, hl with | [_, _], _ => rfl), PySem.W.mg_of X G a_seated⟩,
    ⟨_, _, fun_mk (st := s_first_come) l_first_come c_first_come k_first_come, (fun_mk (st := s_first_come) l_first_come c_first_come k_first_come).binds (ps := ["guests", "many"]) (fun _ _ _ _ _ _ us hl => match us, hl with | [_, _], _ => rfl), PySem.W.mg_of X G a_first_come⟩,
    ⟨_, _, fun_mk (st := s_l_cell_at) l_l_cell_at c_l_cell_at k_l_cell_at, (fun_mk (st := s_l_cell_at) l_l_cell_at c_l_cell_at k_l_cell_at).binds (ps := ["_law_script", "_law_k"]) (fun _ _ _ _ _ _ us hl => match us, hl with | [_, _], _ => rfl), PySem.W.mg_of X G a_l_cell_at⟩,
    ⟨_, _, fun_mk (st := s_l_whole) l_l_whole c_l_whole k_l_whole, (fun_mk (st := s_l_whole) l_l_whole c_l_whole k_l_whole).binds (ps := ["_law_found"]) (fun _ _ _ _ _ _ us hl => match us, hl with | [_], _ => rfl), PySem.W.mg_of X G a_l_whole⟩,
    ⟨_, _, fun_mk (st := s_l_home) l_l_home c_l_home k_l_home, (fun_mk (st := s_l_home) l_l_home c_l_home k_l_home).binds (ps := ["_law_guest_here", "_law_many"]) (fun _ _ _ _ _ _ us hl => match us, hl with | [_, _], _ => rfl), PySem.W.mg_of X G a_l_home⟩,
    ⟨_, _, fun_mk (st := s_l_base) l_l_base c_l_base k_l_base, (fun_mk (st := s_l_base) l_l_base c_l_base k_l_base).binds (ps := ["_law_cell"]) (fun _ _ _ _ _ _ us hl => match us, hl with | [_], _ => rfl), PySem.W.mg_of X G a_l_base⟩,
    ⟨_, _, fun_mk (st := s_l_guest) l_l_guest c_l_guest k_l_guest, (fun_mk (st := s_l_guest) l_l_guest c_l_guest k_l_guest).binds (ps := ["_law_cell", "_law_base_here"]) (fun _ _ _ _ _ _ us hl => match us, hl with | [_, _], _ => rfl), PySem.W.mg_of X G a_l_guest⟩,
    ⟨_, _, fun_mk (st := s_l_drawn) l_l_drawn c_l_drawn k_l_drawn, (fun_mk (st := s_l_drawn) l_l_drawn c_l_drawn k_l_drawn).binds (ps := ["_law_cells", "_law_base_here"]) (fun _ _ _ _ _ _ us hl => match us, hl with | [_, _], _ => rfl), PySem.W.mg_of X G a_l_drawn⟩,
    ⟨_, _, fun_mk (st := s_l_places) l_l_places c_l_places k_l_places, (fun_mk (st := s_l_places) l_l_places c_l_places k_l_places).binds (ps := ["_law_seats", "_law_many"]) (fun _ _ _ _ _ _ us hl => match us, hl with | [_, _], _ => rfl), PySem.W.mg_of X G a_l_places⟩,
    ⟨_, _, fun_mk (st := s_l_in_turn) l_l_in_turn c_l_in_turn k_l_in_turn, (fun_mk (st := s_l_in_turn) l_l_in_turn c_l_in_turn k_l_in_turn).binds (ps := ["_law_guests", "_law_places_here", "_law_many"]) (fun _ _ _ _ _ _ us hl => match us, hl with | [_, _, _], _ => rfl), PySem.W.mg_of X G a_l_in_turn⟩,
    ⟨_, _, fun_mk (st := s_l_sums) l_l_sums c_l_sums k_l_sums, (fun_mk (st := s_l_sums) l_l_sums c_l_sums k_l_sums).binds (ps := ["_law_places_here", "_law_many"]) (fun _ _ _ _ _ _ us hl => match us, hl with | [_, _], _ => rfl), PySem.W.mg_of X G a_l_sums⟩,
    ⟨_, _, fun_mk (st := s_l_told) l_l_told c_l_told k_l_told, (fun_mk (st := s_l_told) l_l_told c_l_told k_l_told).binds (ps := ["_law_found", "_law_due"]) (fun _ _ _ _ _ _ us hl => match us, hl with | [_, _], _ => rfl), PySem.W.mg_of X G a_l_told⟩,
    ⟨_, _, fun_mk (st := s_l_odd) l_l_odd c_l_odd k_l_odd, (fun_mk (st := s_l_odd) l_l_odd c_l_odd k_l_odd).binds (ps := ["_law_cell"]) (fun _ _ _ _ _ _ us hl => match us, hl with | [_], _ => rfl), PySem.W.mg_of X G a_l_odd⟩,
    ⟨_, _, fun_mk (st := s_l_refused) l_l_refused c_l_refused k_l_refused, (fun_mk (st := s_l_refused) l_l_refused c_l_refused k_l_refused).binds (ps := ["_law_guests", "_law_many"]) (fun _ _ _ _ _ _ us hl => match us, hl with | [_, _], _ => rfl), PySem.W.mg_of X G a_l_refused⟩,
    ⟨_, _, fun_mk (st := s_l_spoiled) l_l_spoiled c_l_spoiled k_l_spoiled, (fun_mk (st := s_l_spoiled) l_l_spoiled c_l_spoiled k_l_spoiled).binds (ps := ["_law_script", "_law_guests"]) (fun _ _ _ _ _ _ us hl => match us, hl with | [_, _], _ => rfl), PySem.W.mg_of X G a_l_spoiled⟩⟩
  exact ⟨PySem.W.fnOf "law" "law" (defArgs s_law) (defBody s_law) (defScope s_law) .none kV_law dc_law pm_law an_law cd_law ct_law, fun s v => .of_eq rfl, fun base _ _ => ok_law (fun_mk (st := s_law) l_law c_law k_law) T⟩
theorem walk {l : PySem.W.OpenLaw} {q : Program} {loose : List Str} {XP : (Str → Option Value) → Heap → Prop} {YP : World → Heap → Prop} {d : DefRec} {K : Params → PySem.W.Frag} (hn : l.most = some 63) (hdf : d.params.defaults = [])
    (hY : ∀ (w : World) (h : Heap), YP w h → (K w.params).In h)
    (F : ∀ (w : World) (mg : Str → Option Value) (fa : Addr) (h : Heap), (K w.params).In h → h.Ns mainGlobals mg → mg d.name = some (.ref fa) →
      ∃ fd : FuncData, (∀ (s : Shared) (u : Value), BindsTo s fd ⟨[u], []⟩ [("_law_script", u)]) ∧ ∀ base : Heap, (K w.params).In base → base.Ns mainGlobals mg → FnOk l.prog w (K w.params) mg base CXL lawK fa fd ["_law_script"] (spLaw (K w.params))) :
    PySem.W.WalkO q loose XP YP l.row.toRowW d [] (fun f vs => PySem.call f vs) :=
  L2.walk_of (n := 63) (k := lawK) (x := "_law_script") (CX := fun _ => CXL) (sp := fun w => spLaw (K w.params)) hn (by decide) hdf ⟨rfl, by decide, by decide⟩ hY F (fun _ _ a ns hl _ hS => ⟨a, ns, rfl, hS, hl, fun _ => rfl⟩) fun _ _ _ _ _ z => z
end Law
open PySem PySem.W PyProof.Rows
set_option maxRecDepth 100000 in
set_option maxHeartbeats 0 in
theorem PySem.Challenge.cw_ringseat_k09_whole_first_come_holds : PySem.Challenge.rw_ringseat_k09_whole_first_come.Holds := by
  w_on; o_law; k_head; (case hw => w_witness2)
  k_fill
  refine Law.walk (l := PySem.Challenge.rw_ringseat_k09_whole_first_come) rfl rfl (fun w h Y => PySem.W.kIn_of Y) ?F
  case F =>
    intro w mg fa h KX G hmg
    refine' Law.all_mk KX G hmg ?cm_RingError ?cm_NoGuest ?cm_NoSize ?cm_Twice ?cm_Away ?cm_Full ?ce_NoGuest ?cf1_NoGuest ?cf2_NoGuest ?cf3_NoGuest ?cf4_NoGuest ?cf5_NoGuest ?cc_NoGuest ?cx_NoGuest ?cv_NoGuest ?ci_NoGuest_RingError ?ci_NoGuest_NoGuest ?ci_NoGuest_NoSize ?ci_NoGuest_Twice ?ci_NoGuest_Away ?ci_NoGuest_Full ?ce_NoSize ?cf1_NoSize ?cf2_NoSize ?cf3_NoSize ?cf4_NoSize ?cf5_NoSize ?cc_NoSize ?cx_NoSize ?cv_NoSize ?ci_NoSize_RingError ?ci_NoSize_NoGuest ?ci_NoSize_NoSize ?ci_NoSize_Twice ?ci_NoSize_Away ?ci_NoSize_Full ?ce_Twice ?cf1_Twice ?cf2_Twice ?cf3_Twice ?cf4_Twice ?cf5_Twice ?cc_Twice ?cx_Twice ?cv_Twice ?ci_Twice_RingError ?ci_Twice_NoGuest ?ci_Twice_NoSize ?ci_Twice_Twice ?ci_Twice_Away ?ci_Twice_Full ?ce_Away ?cf1_Away ?cf2_Away ?cf3_Away ?cf4_Away ?cf5_Away ?cc_Away ?cx_Away ?cv_Away ?ci_Away_RingError ?ci_Away_NoGuest ?ci_Away_NoSize ?ci_Away_Twice ?ci_Away_Away ?ci_Away_Full ?ce_Full ?cf1_Full ?cf2_Full ?cf3_Full ?cf4_Full ?cf5_Full ?cc_Full ?cx_Full ?cv_Full ?ci_Full_RingError ?ci_Full_NoGuest ?ci_Full_NoSize ?ci_Full_Twice ?ci_Full_Away ?ci_Full_Full ?n_ValueError ?n_len ?n_list ?n_enumerate ?n_zip ?n_max ?n_isinstance ?n_int ?n_sum ?n_bool ?n_set ?n_tuple ?n_sorted ?k_int_int ?k_int_bool ?k_bool_int ?k_bool_bool ?k_NoneType_bool ?k_NoneType_int ?k_str_bool ?k_str_int ?k_tuple_bool ?k_tuple_int ?k_list_bool ?k_list_int ?k_dict_bool ?k_dict_int ?k_list_list ?k_tuple_tuple ?g_FACTOR ?g_SPREAD ?a_is_whole ?l_is_whole ?c_is_whole ?k_is_whole ?a_is_guest ?l_is_guest ?c_is_guest ?k_is_guest ?a_home ?l_home ?c_home ?k_home ?a_carried ?l_carried ?c_carried ?k_carried ?a_ahead ?l_ahead ?c_ahead ?k_ahead ?a_check_guest ?l_check_guest ?c_check_guest ?k_check_guest ?a_strain ?l_strain ?c_strain ?k_strain ?a_put ?l_put ?c_put ?k_put ?a_check_list ?l_check_list ?c_check_list ?k_check_list ?a_seated ?l_seated ?c_seated ?k_seated ?a_first_come ?l_first_come ?c_first_come ?k_first_come ?a_l_cell_at ?l_l_cell_at ?c_l_cell_at ?k_l_cell_at ?a_l_whole ?l_l_whole ?c_l_whole ?k_l_whole ?a_l_home ?l_l_home ?c_l_home ?k_l_home ?a_l_base ?l_l_base ?c_l_base ?k_l_base ?a_l_guest ?l_l_guest ?c_l_guest ?k_l_guest ?a_l_drawn ?l_l_drawn ?c_l_drawn ?k_l_drawn ?a_l_places ?l_l_places ?c_l_places ?k_l_places ?a_l_in_turn ?l_l_in_turn ?c_l_in_turn ?k_l_in_turn ?a_l_sums ?l_l_sums ?c_l_sums ?k_l_sums ?a_l_told ?l_l_told ?c_l_told ?k_l_told ?a_l_odd ?l_l_odd ?c_l_odd ?k_l_odd ?a_l_refused ?l_l_refused ?c_l_refused ?k_l_refused ?a_l_spoiled ?l_l_spoiled ?c_l_spoiled ?k_l_spoiled ?a_law ?l_law ?c_law ?k_law
    (case cm_RingError => k_is)
    (case cm_NoGuest => k_is)
    (case cm_NoSize => k_is)
    (case cm_Twice => k_is)
    (case cm_Away => k_is)
    (case cm_Full => k_is)
    (case ce_NoGuest => k_exc)
    (case cf1_NoGuest => k_is)
    (case cf2_NoGuest => k_is)
    (case cf3_NoGuest => k_is)
    (case cf4_NoGuest => k_is)
    (case cf5_NoGuest => k_is)
    (case cc_NoGuest => k_is)
    (case cx_NoGuest => kts_exm)
    (case cv_NoGuest => kit_is)
    (case ci_NoGuest_RingError => kit_is)
    (case ci_NoGuest_NoGuest => kit_is)
    (case ci_NoGuest_NoSize => kit_is)
    (case ci_NoGuest_Twice => kit_is)
    (case ci_NoGuest_Away => kit_is)
    (case ci_NoGuest_Full => kit_is)
    (case ce_NoSize => k_exc)
    (case cf1_NoSize => k_is)
    (case cf2_NoSize => k_is)
    (case cf3_NoSize => k_is)
    (case cf4_NoSize => k_is)
    (case cf5_NoSize => k_is)
    (case cc_NoSize => k_is)
    (case cx_NoSize => kts_exm)
    (case cv_NoSize => kit_is)
    (case ci_NoSize_RingError => kit_is)
    (case ci_NoSize_NoGuest => kit_is)
    (case ci_NoSize_NoSize => kit_is)
    (case ci_NoSize_Twice => kit_is)
    (case ci_NoSize_Away => kit_is)
    (case ci_NoSize_Full => kit_is)
    (case ce_Twice => k_exc)
    (case cf1_Twice => k_is)
    (case cf2_Twice => k_is)
    (case cf3_Twice => k_is)
    (case cf4_Twice => k_is)
    (case cf5_Twice => k_is)
    (case cc_Twice => k_is)
    (case cx_Twice => kts_exm)
    (case cv_Twice => kit_is)
    (case ci_Twice_RingError => kit_is)
    (case ci_Twice_NoGuest => kit_is)
    (case ci_Twice_NoSize => kit_is)
    (case ci_Twice_Twice => kit_is)
    (case ci_Twice_Away => kit_is)
    (case ci_Twice_Full => kit_is)
    (case ce_Away => k_exc)
    (case cf1_Away => k_is)
    (case cf2_Away => k_is)
    (case cf3_Away => k_is)
    (case cf4_Away => k_is)
    (case cf5_Away => k_is)
    (case cc_Away => k_is)
    (case cx_Away => kts_exm)
    (case cv_Away => kit_is)
    (case ci_Away_RingError => kit_is)
    (case ci_Away_NoGuest => kit_is)
    (case ci_Away_NoSize => kit_is)
    (case ci_Away_Twice => kit_is)
    (case ci_Away_Away => kit_is)
    (case ci_Away_Full => kit_is)
    (case ce_Full => k_exc)
    (case cf1_Full => k_is)
    (case cf2_Full => k_is)
    (case cf3_Full => k_is)
    (case cf4_Full => k_is)
    (case cf5_Full => k_is)
    (case cc_Full => k_is)
    (case cx_Full => kts_exm)
    (case cv_Full => kit_is)
    (case ci_Full_RingError => kit_is)
    (case ci_Full_NoGuest => kit_is)
    (case ci_Full_NoSize => kit_is)
    (case ci_Full_Twice => kit_is)
    (case ci_Full_Away => kit_is)
    (case ci_Full_Full => kit_is)
    (case n_ValueError => k_is)
    (case n_len => k_is)
    (case n_list => k_is)
    (case n_enumerate => k_is)
    (case n_zip => k_is)
    (case n_max => k_is)
    (case n_isinstance => k_is)
    (case n_int => k_is)
    (case n_sum => k_is)
    (case n_bool => k_is)
    (case n_set => k_is)
    (case n_tuple => k_is)
    (case n_sorted => k_is)
    (case k_int_int => kit_is)
    (case k_int_bool => kit_is)
    (case k_bool_int => kit_is)
    (case k_bool_bool => kit_is)
    (case k_NoneType_bool => kit_is)
    (case k_NoneType_int => kit_is)
    (case k_str_bool => kit_is)
    (case k_str_int => kit_is)
    (case k_tuple_bool => kit_is)
    (case k_tuple_int => kit_is)
    (case k_list_bool => kit_is)
    (case k_list_int => kit_is)
    (case k_dict_bool => kit_is)
    (case k_dict_int => kit_is)
    (case k_list_list => kit_is)
    (case k_tuple_tuple => kit_is)
    (case g_FACTOR => k_is)
    (case g_SPREAD => k_is)
    (case a_is_whole => k_is)
    (case l_is_whole => k_is)
    (case c_is_whole => k_is)
    (case k_is_whole => k_is)
    (case a_is_guest => k_is)
    (case l_is_guest => k_is)
    (case c_is_guest => k_is)
    (case k_is_guest => k_is)
    (case a_home => k_is)
    (case l_home => k_is)
    (case c_home => k_is)
    (case k_home => k_is)
    (case a_carried => k_is)
    (case l_carried => k_is)
    (case c_carried => k_is)
    (case k_carried => k_is)
    (case a_ahead => k_is)
    (case l_ahead => k_is)
    (case c_ahead => k_is)
    (case k_ahead => k_is)
    (case a_check_guest => k_is)
    (case l_check_guest => k_is)
    (case c_check_guest => k_is)
    (case k_check_guest => k_is)
    (case a_strain => k_is)
    (case l_strain => k_is)
    (case c_strain => k_is)
    (case k_strain => k_is)
    (case a_put => k_is)
    (case l_put => k_is)
    (case c_put => k_is)
    (case k_put => k_is)
    (case a_check_list => k_is)
    (case l_check_list => k_is)
    (case c_check_list => k_is)
    (case k_check_list => k_is)
    (case a_seated => k_is)
    (case l_seated => k_is)
    (case c_seated => k_is)
    (case k_seated => k_is)
    (case a_first_come => k_is)
    (case l_first_come => k_is)
    (case c_first_come => k_is)
    (case k_first_come => k_is)
    (case a_l_cell_at => k_is)
    (case l_l_cell_at => k_is)
    (case c_l_cell_at => k_is)
    (case k_l_cell_at => k_is)
    (case a_l_whole => k_is)
    (case l_l_whole => k_is)
    (case c_l_whole => k_is)
    (case k_l_whole => k_is)
    (case a_l_home => k_is)
    (case l_l_home => k_is)
    (case c_l_home => k_is)
    (case k_l_home => k_is)
    (case a_l_base => k_is)
    (case l_l_base => k_is)
    (case c_l_base => k_is)
    (case k_l_base => k_is)
    (case a_l_guest => k_is)
    (case l_l_guest => k_is)
    (case c_l_guest => k_is)
    (case k_l_guest => k_is)
    (case a_l_drawn => k_is)
    (case l_l_drawn => k_is)
    (case c_l_drawn => k_is)
    (case k_l_drawn => k_is)
    (case a_l_places => k_is)
    (case l_l_places => k_is)
    (case c_l_places => k_is)
    (case k_l_places => k_is)
    (case a_l_in_turn => k_is)
    (case l_l_in_turn => k_is)
    (case c_l_in_turn => k_is)
    (case k_l_in_turn => k_is)
    (case a_l_sums => k_is)
    (case l_l_sums => k_is)
    (case c_l_sums => k_is)
    (case k_l_sums => k_is)
    (case a_l_told => k_is)
    (case l_l_told => k_is)
    (case c_l_told => k_is)
    (case k_l_told => k_is)
    (case a_l_odd => k_is)
    (case l_l_odd => k_is)
    (case c_l_odd => k_is)
    (case k_l_odd => k_is)
    (case a_l_refused => k_is)
    (case l_l_refused => k_is)
    (case c_l_refused => k_is)
    (case k_l_refused => k_is)
    (case a_l_spoiled => k_is)
    (case l_l_spoiled => k_is)
    (case c_l_spoiled => k_is)
    (case k_l_spoiled => k_is)
    (case a_law => k_is)
    (case l_law => k_is)
    (case c_law => k_is)
    (case k_law => k_is)


