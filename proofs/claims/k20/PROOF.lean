import PyProof.Rows.All
import Wide.All
import OpenK.AllK
import Wide.FinOn
import PyProof.EqAt
import PyProof.EqKinds
import PyProof.TupleCall
import KE.BitLaws
import PyProof.ExcArgsOwn
import PySem.Challenge.RW_touchpin_k20_what_is_a_form
set_option Elab.async false
set_option linter.all false
set_option maxRecDepth 100000
/-! THE HAND LAYER, for ints, bools, texts, own classes, lists, tuples, dicts, comprehensions, walks over dicts, enumerate, zip, reversed, texts, calls, loops. Paste it whole ahead of your own text; what your proof does not reach may be deleted. -/
namespace L2
open PySem PySem.Spec PyProof.Rows

/-- a key: an int or a str -/
abbrev Key := Sum Int Str
def keyIs : Key → Value → Bool
  | .inl k, v => Value.isInt k v
  | .inr x, v => Value.isStrOf x v
def keyH (w : World) : Key → Int
  | .inl k => hashInt k
  | .inr x => hashStr w x
theorem keyIs_shape : ∀ {k : Key} {v : Value}, keyIs k v = true → (∃ i t, k = Sum.inl i ∧ v = Value.int i t) ∨ (∃ x t, k = Sum.inr x ∧ v = Value.str x t)
  | .inl i, v, h => by
    obtain ⟨t, e⟩ := Value.isInt_shape (k := i) (v := v) h
    exact .inl ⟨i, t, rfl, e⟩
  | .inr x, v, h => by
    obtain ⟨t, e⟩ := Value.isStrOf_shape (x := x) (v := v) h
    exact .inr ⟨x, t, rfl, e⟩
theorem keyIs_int (i : Int) (t : Tok) : keyIs (.inl i) (.int i t) = true := by simp [keyIs, Value.isInt]
theorem keyIs_str (x : Str) (t : Tok) : keyIs (.inr x) (.str x t) = true := by simp [keyIs, Value.isStrOf]
theorem key_ll (a b : Int) : decide ((Sum.inl a : Key) = Sum.inl b) = (a == b) := by
  by_cases e : a = b
  · subst e; simp
  · have h : ¬ (Sum.inl a : Key) = Sum.inl b := fun q => e (Sum.inl.inj q)
    rw [decide_eq_false h]
    exact (beq_eq_false_iff_ne.mpr e).symm
theorem key_rr (a b : Str) : decide ((Sum.inr a : Key) = Sum.inr b) = decide (a = b) := by
  by_cases e : a = b
  · subst e; simp
  · have h : ¬ (Sum.inr a : Key) = Sum.inr b := fun q => e (Sum.inr.inj q)
    rw [decide_eq_false h, decide_eq_false e]
theorem key_lr (a : Int) (b : Str) : decide ((Sum.inl a : Key) = Sum.inr b) = false := decide_eq_false (fun q => nomatch q)
theorem key_rl (a : Str) (b : Int) : decide ((Sum.inr a : Key) = Sum.inl b) = false := decide_eq_false (fun q => nomatch q)

def mixKind (prog : Program) (w : World) : PySem.KeyKind prog w Key where
  is := keyIs
  hash := keyH w
  inj := fun v a b ha hb => by
    rcases keyIs_shape ha with ⟨i, t, rfl, rfl⟩ | ⟨x, t, rfl, rfl⟩
    · rcases keyIs_shape hb with ⟨j, u, rfl, e⟩ | ⟨y, u, rfl, e⟩
      · injection e with e1 _; rw [e1]
      · exact nomatch e
    · rcases keyIs_shape hb with ⟨j, u, rfl, e⟩ | ⟨y, u, rfl, e⟩
      · exact nomatch e
      · injection e with e1 _; rw [e1]
  byValue := fun k v h => by
    rcases keyIs_shape h with ⟨i, t, rfl, rfl⟩ | ⟨x, t, rfl, rfl⟩ <;> rfl
  pyHash := fun hv h => by
    rcases keyIs_shape hv with ⟨i, t, rfl, rfl⟩ | ⟨x, t, rfl, rfl⟩
    · exact wpAny_pyHash_int h
    · exact wpAny_pyHash_str h
  eqBool := fun hu hv h => by
    rcases keyIs_shape hu with ⟨i, t, rfl, rfl⟩ | ⟨x, t, rfl, rfl⟩
    · rcases keyIs_shape hv with ⟨j, u, rfl, rfl⟩ | ⟨y, u, rfl, rfl⟩
      · rw [key_ll] at h; exact wpAny_eqBool_int h
      · rw [key_lr] at h; exact SeqAt.EqAt.int_str i t y u _ _ _ _ h
    · rcases keyIs_shape hv with ⟨j, u, rfl, rfl⟩ | ⟨y, u, rfl, rfl⟩
      · rw [key_rl] at h; exact SeqAt.EqAt.str_int x t j u _ _ _ _ h
      · rw [key_rr] at h; exact wpAny_eqBool_str h
  «strs» := fun k x t v h => by
    rcases keyIs_shape h with ⟨i, u, rfl, e⟩ | ⟨y, u, rfl, e⟩
    · exact nomatch e
    · injection e with e1 _
      subst e1
      cases v <;> rfl

theorem mixKind_int (prog : Program) (w : World) (i : Int) (t : Tok) : (mixKind prog w).is (.inl i) (.int i t) = true := keyIs_int i t
theorem mixKind_str (prog : Program) (w : World) (x : Str) (t : Tok) : (mixKind prog w).is (.inr x) (.str x t) = true := keyIs_str x t
end L2

namespace L2
open PySem PySem.Spec PyProof.Rows

/-- a value, without the heap -/
inductive V where
  | non | bl (b : Bool) | int (i : Int) | str (x : Str) | byt (b : Array UInt8) | flt (b : UInt64) | ref (a : Addr) | ty (n : String)
  deriving DecidableEq

def RelV : V → Value → Prop
  | .non, u => u = Value.none
  | .bl b, u => u = Value.bool b
  | .int i, u => ∃ t, u = Value.int i t
  | .str x, u => ∃ t, u = Value.str x t
  | .byt b, u => ∃ t, u = Value.bytes b t
  | .flt b, u => ∃ t, u = Value.float b t
  | .ref a, u => u = Value.ref a
  | .ty n, u => u = Value.type n

abbrev Vals : List V → List Value → Prop := Paired RelV
theorem Vals.length {xs : List V} {us : List Value} (r : Vals xs us) : xs.length = us.length := Paired.length r
theorem Vals.get : ∀ {xs : List V} {us : List Value} {i : Nat} {x : V}, Vals xs us → xs[i]? = some x → ∃ u, us[i]? = some u ∧ RelV x u
  | _, _, _, _, .nil, e => by simp at e
  | _, _, 0, _, .cons r _, e => by simp at e; subst e; exact ⟨_, rfl, r⟩
  | _, _, i + 1, x, .cons _ t, e => by
    obtain ⟨u, h1, h2⟩ := Vals.get (i := i) (x := x) t (by simpa using e)
    exact ⟨u, by simpa using h1, h2⟩
theorem Vals.set {x : V} {u : Value} (r : RelV x u) : ∀ {xs : List V} {us : List Value} (i : Nat), Vals xs us → Vals (xs.set i x) (us.set i u)
  | _, _, _, .nil => .nil
  | _, _, 0, .cons _ t => .cons r t
  | _, _, i + 1, .cons q t => .cons q (Vals.set r i t)
theorem Vals.append : ∀ {xs ys : List V} {us ws : List Value}, Vals xs us → Vals ys ws → Vals (xs ++ ys) (us ++ ws)
  | _, _, _, _, .nil, s => s
  | _, _, _, _, .cons r t, s => .cons r (Vals.append t s)
theorem Vals.take : ∀ {xs : List V} {us : List Value} (n : Nat), Vals xs us → Vals (xs.take n) (us.take n)
  | _, _, 0, _ => .nil
  | _, _, _ + 1, .nil => .nil
  | _, _, n + 1, .cons r t => .cons r (Vals.take n t)
theorem Vals.drop : ∀ {xs : List V} {us : List Value} (n : Nat), Vals xs us → Vals (xs.drop n) (us.drop n)
  | _, _, 0, r => r
  | _, _, _ + 1, .nil => .nil
  | _, _, n + 1, .cons _ t => Vals.drop n t
def RelO : Option V → Option Value → Prop
  | some v, some u => RelV v u
  | none, none => True
  | _, _ => False
def KV {κ : Type} : List (κ × V) → List (κ × Value) → Prop := Paired fun (p : κ × V) (q : κ × Value) => p.1 = q.1 ∧ RelV p.2 q.2

/-- a key of a dict (00_mix): an int or a text -/
def kV : Key → V
  | .inl i => .int i
  | .inr x => .str x

/-- what stands at a tracked address -/
inductive HO where
  /-- a list -/
  | lst (xs : List V)
  /-- a tuple (never changes) -/
  | tup (xs : List V)
  /-- a dict whose keys are ints and texts; one whose keys are tuples of ints and texts (the empty one is both) -/
  | dK (kvs : List (Key × V)) | dT (kvs : List (List Key × V))
  /-- a set of ints: its members, its size -/
  | set (S : Int → Bool) (n : Nat)
  /-- an instance of the class at C, its dict at dx, its attributes -/
  | ins (C dx : Addr) (fs : List (Str × V))
  /-- the dict of the instance at x -/
  | own (x : Addr)
  /-- the dict of an exception -/
  | xd (fs : List (Str × V))
  /-- a bound method, f of x -/
  | met (f x : Addr)
  /-- a range object lo, lo + 1, .. below hi -/
  | rng (lo hi : Int)
  /-- a thing that is known to the object (the script; a dict while a loop walks it): read, never written while it is so -/
  | frz (o : Obj) (u : HO)
  /-- a code object's table -/
  | tbl (ps : Array Value)
  /-- any other thing, by what is true of its one object (a def of one's own: SetO a S n := HO.ext fun h => ..) -/
  | ext (φ : Heap → Prop)

abbrev Hp := Addr → Option HO
def upd (H : Hp) (a : Addr) (o : HO) : Hp := fun b => if b = a then some o else H b
theorem upd_same {H : Hp} {a : Addr} {o : HO} : upd H a o a = some o := by unfold upd; rw [if_pos rfl]
theorem upd_ne {H : Hp} {a b : Addr} {o : HO} (h : b ≠ a) : upd H a o b = H b := by unfold upd; rw [if_neg h]
/-- two objects of different content stand apart -/
theorem ne_of {H : Hp} {a b : Addr} {o u : HO} (h : H a = some o) (h' : H b = some u) (d : o ≠ u) : a ≠ b := by
  intro e; subst e; rw [h] at h'; exact d (Option.some.inj h')
theorem ne_of_none {H : Hp} {a b : Addr} {o : HO} (h : H a = some o) (h' : H b = none) : a ≠ b := by
  intro e; subst e; rw [h] at h'; cases h'

section
variable (P : Program) (w : World)
def ObjOk (H : Hp) (h : Heap) (a : Addr) : HO → Prop
  | .lst xs => xs.length ≤ sizeLine ∧ ∃ (its : List Value) (n : Nat), Vals xs its ∧ h.get? a = some { cls := .type "list", data := .seq its.toArray n }
  | .tup xs => xs.length ≤ sizeLine ∧ ∃ its : List Value, Vals xs its ∧ IsTup h a its.toArray
  | .dK kvs => kvs.length ≤ sizeLine ∧ (a == sysModules) = false ∧ ∃ vs, KV kvs vs ∧ h.DictOf (mixKind P w) a vs
  | .dT kvs => kvs.length ≤ sizeLine ∧ (a == sysModules) = false ∧ ∃ xs : List (List Key × Addr × Value),
      Paired (fun (p : List Key × V) (q : List Key × Addr × Value) => p.1 = q.1 ∧ H q.2.1 = some (.tup (p.1.map kV)) ∧ RelV p.2 q.2.2) kvs xs ∧
      ∃ o es ep, h.get? a = some o ∧ o.ExactDict ∧ o.data = .dict es ep ∧ es.toList = xs.map (entryOfKey (tupleKind (mixKind P w))) ∧ (xs.map (·.1)).Nodup
  | .set S n => h.SetOf (intKind P w) a S n
  | .ins C dx fs => H dx = some (.own a) ∧ fs.length ≤ 1000 ∧ dx ≠ a ∧ h.get? a = some (PySem.W.instObj C dx) ∧
      ∃ mA, h.Ns1 dx mA ∧ (∀ f, RelO (fs.lookup f) (mA f)) ∧ PySem.Within mA (fs.map (·.1))
  | .own _ => ∃ o, h.get? a = some o
  | .xd fs => ∃ mA, h.Ns1 a mA ∧ ∀ f, RelO (fs.lookup f) (mA f)
  | .rng lo hi => ∃ t u v, h.get? a = some { cls := .type "range", data := .fields #[.int lo t, .int hi u, .int 1 v] }
  | .frz o u => h.get? a = some o ∧ ObjOk H h a u
  | .tbl ps => h.get? a = some { cls := .none, data := .fields ps }
  | .met f x => h.get? a = some (PySem.W.methodObj (.ref f) (.ref x))
  | .ext φ => φ h ∧ (∃ o, h.get? a = some o) ∧ ∀ h1 h2 : Heap, φ h1 → (∀ o, h1.get? a = some o → h2.get? a = some o) → φ h2
/-- the abstract heap is held -/
def HOk (H : Hp) (h : Heap) : Prop := ∀ a o, H a = some o → ObjOk P w H h a o
end

section
variable {P : Program} {w : World} {H H' : Hp} {h h' : Heap} {a : Addr} {o : HO}
theorem ObjOk.lt (x : ObjOk P w H h a o) : a < h.objs.size := by
  cases o with
  | lst xs => obtain ⟨_, _, _, _, e⟩ := x; exact Heap.lt_size e
  | tup xs => obtain ⟨_, _, _, p⟩ := x; exact p.lt
  | dK kvs => obtain ⟨_, _, _, _, o, _, _, e, _⟩ := x; exact Heap.lt_size e
  | dT kvs => obtain ⟨_, _, _, _, o, _, _, e, _⟩ := x; exact Heap.lt_size e
  | set S n => obtain ⟨o, _, _, _, e, _⟩ := x; exact Heap.lt_size e
  | ins C dx fs => obtain ⟨_, _, _, e, _⟩ := x; exact Heap.lt_size e
  | own y => obtain ⟨_, e⟩ := x; exact Heap.lt_size e
  | xd fs => obtain ⟨_, ⟨_, _, _, e, _⟩, _⟩ := x; exact Heap.lt_size e
  | rng lo hi => obtain ⟨_, _, _, e⟩ := x; exact Heap.lt_size e
  | frz ob u => obtain ⟨e, _⟩ := x; exact Heap.lt_size e
  | tbl ps => exact Heap.lt_size (show h.get? a = some _ from x)
  | met f y => exact Heap.lt_size (show h.get? a = some _ from x)
  | ext φ => obtain ⟨_, ⟨_, e⟩, _⟩ := x; exact Heap.lt_size e
theorem Paired.mapP {α β : Type} {F G : α → β → Prop} : ∀ {l₁ : List α} {l₂ : List β}, Paired F l₁ l₂ → (∀ a b, F a b → G a b) → Paired G l₁ l₂
  | _, _, .nil, _ => .nil
  | _, _, .cons r t, f => .cons (f _ _ r) (Paired.mapP t f)
/-- what an object's description leans on: its own object, its own dict, the tuples -/
theorem ObjOk.stay (x : ObjOk P w H h a o) (k : ∀ b u, (b = a ∨ H b = some (.own a)) → h.get? b = some u → h'.get? b = some u)
    (ho : ∀ b, H b = some (.own a) → H' b = some (.own a)) (ht : ∀ b xs, H b = some (.tup xs) → H' b = some (.tup xs)) : ObjOk P w H' h' a o := by
  induction o with
  | lst xs => obtain ⟨z, its, n, r, e⟩ := x; exact ⟨z, its, n, r, k _ _ (.inl rfl) e⟩
  | tup xs => obtain ⟨z, its, r, ob, e, c⟩ := x; exact ⟨z, its, r, ob, k _ _ (.inl rfl) e, c⟩
  | dK kvs => obtain ⟨z, y, vs, r, ob, es, ep, e, c⟩ := x; exact ⟨z, y, vs, r, ob, es, ep, k _ _ (.inl rfl) e, c⟩
  | dT kvs =>
    obtain ⟨z, y, xs, r, ob, es, ep, e, c⟩ := x
    exact ⟨z, y, xs, Paired.mapP r fun p q z => ⟨z.1, ht _ _ z.2.1, z.2.2⟩, ob, es, ep, k _ _ (.inl rfl) e, c⟩
  | set S n => obtain ⟨ob, es, ep, t, e, c⟩ := x; exact ⟨ob, es, ep, t, k _ _ (.inl rfl) e, c⟩
  | ins C dx fs =>
    obtain ⟨d, z, ne, e, mA, ⟨od, es, ep, e2, c⟩, r⟩ := x
    exact ⟨ho _ d, z, ne, k _ _ (.inl rfl) e, mA, ⟨od, es, ep, k _ _ (.inr d) e2, c⟩, r⟩
  | own y => obtain ⟨ob, e⟩ := x; exact ⟨ob, k _ _ (.inl rfl) e⟩
  | xd fs => obtain ⟨mA, ⟨od, es, ep, e, c⟩, r⟩ := x; exact ⟨mA, ⟨od, es, ep, k _ _ (.inl rfl) e, c⟩, r⟩
  | rng lo hi => obtain ⟨t, u, v, e⟩ := x; exact ⟨t, u, v, k _ _ (.inl rfl) e⟩
  | frz ob u ih => obtain ⟨e, q⟩ := x; exact ⟨k _ _ (.inl rfl) e, ih q⟩
  | tbl ps =>
    have e : h.get? a = some { cls := .none, data := .fields ps } := x
    show h'.get? a = some { cls := .none, data := .fields ps }
    exact k a _ (.inl rfl) e
  | met f y =>
    have e : h.get? a = some (PySem.W.methodObj (.ref f) (.ref y)) := x
    show h'.get? a = some (PySem.W.methodObj (.ref f) (.ref y))
    exact k a _ (.inl rfl) e
  | ext φ => obtain ⟨p, ⟨o, e⟩, st⟩ := x; exact ⟨st _ _ p fun o q => k _ _ (.inl rfl) q, ⟨o, k _ _ (.inl rfl) e⟩, st⟩
theorem HOk.lt (x : HOk P w H h) (e : H a = some o) : a < h.objs.size := (x a o e).lt
theorem HOk.fresh (x : HOk P w H h) (e : h.objs.size ≤ a) : H a = none := by
  cases q : H a with
  | none => rfl
  | some u => exact absurd (Nat.lt_of_lt_of_le (x.lt q) e) (Nat.lt_irrefl _)
/-- every object of the heap is kept -/
theorem HOk.kept (x : HOk P w H h) (k : ∀ b u, h.get? b = some u → h'.get? b = some u) : HOk P w H h' := fun a o e =>
  (x a o e).stay (fun b u _ q => k b u q) (fun _ q => q) fun _ _ q => q
/-- a new object is laid and tracked -/
theorem HOk.laid (x : HOk P w H h) (k : ∀ b u, h.get? b = some u → h'.get? b = some u) (hp : h.objs.size ≤ a) (new : ObjOk P w (upd H a o) h' a o) : HOk P w (upd H a o) h' := fun b u e => by
  have hn := x.fresh hp
  by_cases hb : b = a
  · subst hb; rw [upd_same] at e; cases e; exact new
  · rw [upd_ne hb] at e
    exact (x b u e).stay (fun c v _ q => k c v q) (fun c q => by rw [upd_ne (ne_of_none q hn)]; exact q) fun c xs q => by rw [upd_ne (ne_of_none q hn)]; exact q
end

/-- what may be read as u: it is u, or a known u -/
def Rd (H : Hp) (a : Addr) (u : HO) : Prop := H a = some u ∨ ∃ o, H a = some (.frz o u)
theorem Rd.of {H : Hp} {a : Addr} {u : HO} (h : H a = some u) : Rd H a u := .inl h
theorem Rd.ok {P : Program} {w : World} {H : Hp} {h : Heap} {a : Addr} {u : HO} (r : Rd H a u) (x : HOk P w H h) : ObjOk P w H h a u := by
  rcases r with r | ⟨o, r⟩
  · exact x a u r
  · obtain ⟨_, q⟩ := x a _ r
    exact q
/-- what may be written -/
def Mut : Option HO → Prop
  | some (.lst _) => True
  | some (.dK _) => True
  | some (.dT _) => True
  | some (.set _ _) => True
  | some (.ins _ _ _) => True
  | some (.ext _) => True
  | _ => False
section
variable {P : Program} {w : World} {H : Hp} {h h' : Heap} {x e : Addr} {o' : HO}
/-- the object at e is changed: x itself, or the dict of the instance x -/
theorem HOk.write (ok : HOk P w H h) (mu : Mut (H x)) (he : e = x ∨ H e = some (.own x)) (k : ∀ b u, b ≠ e → h.get? b = some u → h'.get? b = some u) (heo : ∃ u, h'.get? e = some u)
    (new : ObjOk P w (upd H x o') h' x o') : HOk P w (upd H x o') h' := fun b u q => by
  have nown : ∀ c y, H c = some (.own y) → c ≠ x := fun c y r z => by subst z; rw [r] at mu; exact mu
  have ntup : ∀ c xs, H c = some (.tup xs) → c ≠ x := fun c xs r z => by subst z; rw [r] at mu; exact mu
  by_cases hb : b = x
  · subst hb; rw [upd_same] at q; cases q; exact new
  · rw [upd_ne hb] at q
    by_cases hbe : b = e
    · have q' : H b = some (.own x) := by
        rcases he with z | z
        · exact absurd (hbe.trans z) hb
        · rw [hbe]; exact z
      rw [q] at q'; cases q'
      obtain ⟨v, hv⟩ := heo
      exact ⟨v, by rw [hbe]; exact hv⟩
    · refine (ok b u q).stay (fun c v hc r => k c v ?_ r) (fun c r => by rw [upd_ne (nown c b r)]; exact r) fun c xs r => by rw [upd_ne (ntup c xs r)]; exact r
      rcases hc with rfl | hc
      · exact hbe
      · rintro rfl
        rcases he with z | z
        · exact nown c b hc z
        · rw [hc] at z; cases z; exact hb rfl
end

/-! ### kept unless tracked; of the frames at fs (the callers') the slots may change (an exception that passes writes there); of the records at ex (iterators) nothing is said -/
structure Un (fs ex : List Addr) (H H' : Hp) (h h' : Heap) : Prop where
  keep : ∀ b o, h.get? b = some o → H b = none → b ∉ fs → b ∉ ex → h'.get? b = some o
  slot : ∀ b o, h.get? b = some o → H b = none → b ∈ fs → b ∉ ex → ∃ sl, h'.get? b = some { o with slots := sl }
  free : ∀ b o, h.get? b = some o → H b = none → b ∉ ex → H' b = none
  there : ∀ b o, h.get? b = some o → b ∉ ex → ∃ o', h'.get? b = some o'
  tups : ∀ b xs, H b = some (.tup xs) → H' b = some (.tup xs)
  frzs : ∀ b o u, H b = some (.frz o u) → H' b = some (.frz o u)
  tbls : ∀ b ps, H b = some (.tbl ps) → ∃ more, H' b = some (.tbl (ps ++ more))
section
variable {fs fs' ex ex' : List Addr} {H H1 H2 : Hp} {h h1 h2 h' : Heap} {a x e : Addr} {o : HO}
theorem Un.any (u : Un fs ex H H1 h h1) {b : Addr} {ob : Obj} (q : h.get? b = some ob) (n : H b = none) (hx : b ∉ ex) : ∃ sl, h1.get? b = some { ob with slots := sl } := by
  by_cases hb : b ∈ fs
  · exact u.slot b ob q n hb hx
  · exact ⟨ob.slots, u.keep b ob q n hb hx⟩
theorem Un.trans (a : Un fs ex H H1 h h1) (b : Un fs ex H1 H2 h1 h2) : Un fs ex H H2 h h2 where
  keep := fun c ob q n hc hx => b.keep c ob (a.keep c ob q n hc hx) (a.free c ob q n hx) hc hx
  slot := fun c ob q n hc hx => by
    obtain ⟨sl, e1⟩ := a.slot c ob q n hc hx
    obtain ⟨sl', e2⟩ := b.slot c _ e1 (a.free c ob q n hx) hc hx
    exact ⟨sl', e2⟩
  free := fun c ob q n hx => by
    obtain ⟨o', e1⟩ := a.there c ob q hx
    exact b.free c o' e1 (a.free c ob q n hx) hx
  there := fun c ob q hx => by
    obtain ⟨o', e1⟩ := a.there c ob q hx
    exact b.there c o' e1 hx
  tups := fun c xs q => b.tups c xs (a.tups c xs q)
  frzs := fun c ob xs q => b.frzs c ob xs (a.frzs c ob xs q)
  tbls := fun c ps q => by
    obtain ⟨m1, e1⟩ := a.tbls c ps q
    obtain ⟨m2, e2⟩ := b.tbls c _ e1
    exact ⟨m1 ++ m2, by rw [e2, Array.append_assoc]⟩
theorem Un.kept (k : ∀ b u, h.get? b = some u → h'.get? b = some u) : Un fs ex H H h h' :=
  ⟨fun b ob q _ _ _ => k b ob q, fun b ob q _ _ _ => ⟨ob.slots, k b ob q⟩, fun _ _ _ n _ => n, fun b ob q _ => ⟨ob, k b ob q⟩, fun _ _ q => q, fun _ _ _ q => q, fun _ ps q => ⟨#[], by rw [q]; simp⟩⟩
theorem Un.refl : Un fs ex H H h h := Un.kept fun _ _ q => q
theorem Un.laid (k : ∀ b u, h.get? b = some u → h'.get? b = some u) (hp : h.objs.size ≤ a) (hn : H a = none) : Un fs ex H (upd H a o) h h' where
  keep := fun b u q _ _ _ => k b u q
  slot := fun b u q _ _ _ => ⟨u.slots, k b u q⟩
  free := fun b u q n _ => by rw [upd_ne (Nat.ne_of_lt (Nat.lt_of_lt_of_le (Heap.lt_size q) hp))]; exact n
  there := fun b u q _ => ⟨u, k b u q⟩
  tups := fun b xs q => by rw [upd_ne (ne_of_none q hn)]; exact q
  frzs := fun b u xs q => by rw [upd_ne (ne_of_none q hn)]; exact q
  tbls := fun b ps q => ⟨#[], by rw [upd_ne (ne_of_none q hn), q]; simp⟩
theorem Un.write (mu : Mut (H x)) (he : e = x ∨ H e = some (.own x)) (k : ∀ b u, b ≠ e → h.get? b = some u → h'.get? b = some u) (heo : ∃ u, h'.get? e = some u) : Un fs ex H (upd H x o) h h' := by
  have hx : ∀ b, H b = none → b ≠ x := fun b n z => by subst z; rw [n] at mu; exact mu
  have hb : ∀ b, H b = none → b ≠ e := fun b n z => by
    subst z
    rcases he with r | r
    · exact hx b n r
    · rw [n] at r; cases r
  have hm : ∀ b u, H b = some u → ¬ Mut (some u) → b ≠ x := fun b u q nm z => by subst z; rw [q] at mu; exact nm mu
  refine ⟨fun b u q n _ _ => k b u (hb b n) q, fun b u q n _ _ => ⟨u.slots, k b u (hb b n) q⟩, fun b u q n _ => by rw [upd_ne (hx b n)]; exact n, fun b u q _ => ?_,
    fun b xs q => by rw [upd_ne (hm b _ q fun z => z)]; exact q, fun b u xs q => by rw [upd_ne (hm b _ q fun z => z)]; exact q, fun b ps q => ⟨#[], by rw [upd_ne (hm b _ q fun z => z), q]; simp⟩⟩
  by_cases hbe : b = e
  · subst hbe; exact heo
  · exact ⟨u, k b u hbe q⟩
theorem Un.mono (u : Un fs ex H H1 h h1) (hs : ∀ b ∈ fs, b ∈ fs') (hx : ∀ b ∈ ex, b ∈ ex') : Un fs' ex' H H1 h h1 :=
  ⟨fun b ob q n hb he => u.keep b ob q n (fun z => hb (hs b z)) fun z => he (hx b z), fun _ _ q n _ he => u.any q n fun z => he (hx _ z), fun b ob q n he => u.free b ob q n fun z => he (hx b z), fun b ob q he => u.there b ob q fun z => he (hx b z), u.tups, u.frzs, u.tbls⟩
end

/-! ### the heap without what is tracked -/
def trk (h : Heap) (H : Hp) : List Addr := (List.range h.objs.size).filter fun a => (H a).isSome
def hidT (h : Heap) (H : Hp) : Heap := PySem.W.hideAll h (trk h H)
theorem hidT_size (h : Heap) (H : Hp) : (hidT h H).objs.size = h.objs.size := PySem.W.hideAll_size _ _
theorem hidT_get {h : Heap} {H : Hp} {b : Addr} {o : Obj} (e : h.get? b = some o) (n : H b = none) : (hidT h H).get? b = some o :=
  PySem.W.hideAll_get _ e fun hm => by
    have q : (H b).isSome = true := (List.mem_filter.mp hm).2
    rw [n] at q; simp at q
theorem of_hidT {h : Heap} {H : Hp} {b : Addr} {o : Obj} (e : (hidT h H).get? b = some o) : h.get? b = some o ∧ H b = none := by
  have e' : h.get? b = some o := PySem.W.of_hideAll (trk h H) e
  refine ⟨e', ?_⟩
  cases q : H b with
  | none => rfl
  | some x =>
    have hm : b ∈ trk h H := List.mem_filter.mpr ⟨List.mem_range.mpr (Heap.lt_size e'), by simp [q]⟩
    have z : (hidT h H).get? b = none := PySem.W.hideAll_none (trk h H) hm
    rw [z] at e; cases e

/-! ### OpenK's ledger, filled with every new object but one -/
def allNews (g h : Heap) (L : Addr) : List (Addr × Obj) := (List.range h.objs.size).filterMap fun a => if a = L ∨ (g.get? a).isSome = true then none else (h.get? a).map fun o => (a, o)
def rest (g h : Heap) (L d : Addr) : List (Addr × Obj) := (allNews g h L).filter fun p => decide (p.1 ≠ d)
end L2

namespace L2
open PySem PySem.Spec PyProof.Rows

/-- the module's facts, over the base: the heap at the law's entry without what is tracked there -/
structure Mod (K : PySem.W.Frag) (mg : Str → Option Value) (base : Heap) : Prop where
  kin : K.In base
  glob : base.Ns mainGlobals mg
  blt : ∃ mb, base.Ns builtinsNs mb ∧ ∀ x : Str, x ≠ "__name__" → mb x = bootBuiltins x
  nolimit : base.NoLimit

/-- the context: a def's body (or a comprehension's block) running. base: fixed through the whole law; s₀, H₀: the entry; outer: the frames whose slots others may change (a def's callers); stack: all frames that run;
   ex: iterators that were made ahead of the entry and are walked here (a comprehension's); fn: the names whose cells were made at the entry (a def: all; a comprehension's block: its own); calm: not within an except suite; pn: pins that every state bears; xe: what is wanted of an exception that leaves the code -/
structure Cx where
  prog : Program
  w : World
  K : PySem.W.Frag
  mg : Str → Option Value
  base : Heap
  A : Around
  N : List Str
  s_0 : Shared
  H_0 : Hp
  env : Env
  outer : List Env
  stack : List Env
  ex : List Addr
  fn : Str → Bool
  calm : Bool
  pn : List (Addr × Obj)
  xe : Value → Shared → Prop
/-- the callers' frames -/
def frs (l : List Env) : List Addr := l.filterMap (·.frame)
abbrev Cx.fs (X : Cx) : List Addr := frs X.outer

def Vis (sc : Scope) (x : Str) : Prop := sc.names.lookup x = some .local ∨ sc.names.lookup x = some .cell ∨ sc.names.lookup x = some .free
def Loc (sc : Scope) (x : Str) : Prop := sc.names.lookup x = some .local ∨ sc.names.lookup x = some .cell
def Look (env : Env) (h : Heap) (m : Str → Option Value) (x : Str) (u : Value) : Prop :=
  (env.kindOf x = some .local ∧ m x = some u) ∨ ((env.kindOf x = some .cell ∨ env.kindOf x = some .free) ∧ ∃ c, env.cells.lookup x = some c ∧ h.IsCell c (some u))

structure Cx.Ok (X : Cx) : Prop where
  mod : Mod X.K X.mg X.base
  kind : X.env.scope.kind = .function
  glob : X.env.globals = mainGlobals
  blt : X.env.builtins = builtinsNs
  above : X.s_0.heap.objs.size ≤ X.env.locals
  inj : ∀ x y c, X.env.cells.lookup x = some c → X.env.cells.lookup y = some c → x = y
  has : ∀ x, (X.env.kindOf x = some .cell ∨ X.env.kindOf x = some .free) → ∃ c, X.env.cells.lookup x = some c
  cab : ∀ x c, X.fn x = true → X.env.cells.lookup x = some c → X.s_0.heap.objs.size ≤ c
  hd : X.calm = true → X.A.handled = none
  frames : X.A.frames = some X.stack
  stk : X.stack = X.outer ∨ (X.stack = X.env :: X.outer ∧ X.env.frame = some X.env.locals)
  exf : ∀ b ∈ X.ex, b ≠ X.env.locals ∧ ∀ x c, X.env.cells.lookup x = some c → c ≠ b
  bs : ∀ b o, X.base.get? b = some o → X.s_0.heap.get? b = some o ∧ X.H_0 b = none
  bsz : X.base.objs.size ≤ X.s_0.heap.objs.size
  noex : ∀ b o, X.base.get? b = some o → b ∉ X.ex
  exfs : ∀ b ∈ X.ex, b ∉ X.fs
  funs : X.s_0.heap.FunFrames X.base X.outer
  frf : ∀ b ∈ X.fs, X.H_0 b = none

structure Inv (X : Cx) (pins : List (Addr × Obj)) (σ : List (Option V)) (H : Hp) (s : Shared) : Prop where
  ok : X.Ok
  os : s.os = X.s_0.os
  bare : AllBare s.gens
  base : Un X.fs X.ex X.H_0 H X.s_0.heap s.heap
  loc : ∃ m, s.heap.Ns X.env.locals m ∧ ∀ (i : Nat) (x : Str) (v : V), X.N[i]? = some x → σ[i]? = some (some v) → Vis X.env.scope x → ∃ u, RelV v u ∧ Look X.env s.heap m x u
  cell : ∀ x c, X.env.cells.lookup x = some c → ∃ v, s.heap.IsCell c v
  free : H X.env.locals = none
  freeC : ∀ x c, X.env.cells.lookup x = some c → H c = none
  pin : ∀ p ∈ X.pn ++ pins, s.heap.get? p.1 = some p.2 ∧ H p.1 = none ∧ p.1 ≠ X.env.locals ∧ p.1 ∉ X.fs ∧ ∀ v, p.2.data ≠ .cell v
  hok : HOk X.prog X.w H s.heap
  len : σ.length = X.N.length

section
variable {X : Cx} {pins : List (Addr × Obj)} {σ : List (Option V)} {H H' : Hp} {s : Shared} {h' : Heap}

theorem Cx.Ok.nofr (ok : X.Ok) {b : Addr} {o : Obj} (e : X.base.get? b = some o) : b ∉ X.fs := fun hb => by
  have := (ok.funs.mem hb).1
  rw [e] at this; cases this
theorem Inv.bs (I : Inv X pins σ H s) : ∀ b o, X.base.get? b = some o → s.heap.get? b = some o ∧ H b = none := fun b o e =>
  ⟨I.base.keep b o (I.ok.bs b o e).1 (I.ok.bs b o e).2 (I.ok.nofr e) (I.ok.noex b o e), I.base.free b o (I.ok.bs b o e).1 (I.ok.bs b o e).2 (I.ok.noex b o e)⟩
theorem Inv.bk (I : Inv X pins σ H s) : ∀ b o, X.base.get? b = some o → s.heap.get? b = some o := fun b o e => (I.bs b o e).1
theorem Inv.mod (I : Inv X pins σ H s) : Mod X.K X.mg X.base := I.ok.mod
theorem Inv.kIn (I : Inv X pins σ H s) : X.K.In s.heap := I.ok.mod.kin.keeps I.bk
theorem Inv.nolimit (I : Inv X pins σ H s) : s.heap.NoLimit := I.ok.mod.nolimit.keeps I.bk
theorem Inv.lt (I : Inv X pins σ H s) : X.env.locals < s.heap.objs.size := let ⟨_, hn, _⟩ := I.loc; hn.lt
theorem Inv.sz (I : Inv X pins σ H s) : X.s_0.heap.objs.size ≤ s.heap.objs.size := Nat.le_trans I.ok.above (Nat.le_of_lt I.lt)
theorem Inv.nofs (I : Inv X pins σ H s) {a : Addr} (h : s.heap.objs.size ≤ a) : a ∉ X.fs := fun hb => by
  obtain ⟨_, o, ho, _⟩ := I.ok.funs.mem hb
  exact absurd (Nat.lt_of_lt_of_le (Heap.lt_size ho) (Nat.le_trans I.sz h)) (Nat.lt_irrefl _)
theorem Inv.cne (I : Inv X pins σ H s) : ∀ x c, X.env.cells.lookup x = some c → c ≠ X.env.locals := fun x c e z => by
  obtain ⟨v, o, ho, hd⟩ := I.cell x c e
  obtain ⟨m, ⟨o', es, ep, ho', hd', _⟩, _⟩ := I.loc
  rw [z, ho'] at ho; cases ho; rw [hd'] at hd; cases hd
theorem Inv.funs (I : Inv X pins σ H s) : s.heap.FunFrames X.base X.outer := by
  have all : ∀ (l : List Env), (∀ b ∈ frs l, b ∈ X.fs) → X.s_0.heap.FunFrames X.base l → s.heap.FunFrames X.base l := by
    intro l
    induction l with
    | nil => intro _ _; trivial
    | cons env r ih =>
      intro hs hl
      obtain ⟨hk, ⟨L, o, hf, hn, ho, hd⟩, hr⟩ := hl
      have hL : L ∈ X.fs := hs L (by unfold frs; rw [List.filterMap_cons, hf]; exact List.mem_cons_self)
      obtain ⟨sl, e⟩ := I.base.slot L o ho (I.ok.frf L hL) hL fun z => I.ok.exfs L z hL
      exact ⟨hk, ⟨L, _, hf, hn, e, hd⟩, ih (fun b hb => hs b (by unfold frs; rw [List.filterMap_cons, hf]; exact List.mem_cons_of_mem _ hb)) hr⟩
  exact all X.outer (fun _ hb => hb) I.ok.funs

/-- the frames that run, for a call -/
theorem Inv.stack (I : Inv X pins σ H s) : s.heap.FunFrames X.base X.stack := by
  rcases I.ok.stk with e | ⟨e, hf⟩
  · rw [e]; exact I.funs
  · rw [e]
    obtain ⟨m, hn, _⟩ := I.loc
    refine .cons (by rw [I.ok.kind]; decide) hf hn ?_ I.funs
    exact Heap.get?_none_of_le (Nat.le_trans I.ok.bsz I.ok.above)
theorem Inv.stkSub (I : Inv X pins σ H s) : ∀ b ∈ frs X.stack, b ∈ X.env.locals :: X.fs := fun b hb => by
  rcases I.ok.stk with e | ⟨e, hf⟩
  · rw [e] at hb; exact List.mem_cons_of_mem _ hb
  · rw [e] at hb
    unfold frs at hb
    rw [List.filterMap_cons, hf] at hb
    exact hb
theorem Inv.stkFree (I : Inv X pins σ H s) : ∀ b ∈ frs X.stack, H b = none := fun b hb => by
  rcases List.mem_cons.mp (I.stkSub b hb) with e | hb
  · rw [e]; exact I.free
  · obtain ⟨_, o, ho, _⟩ := I.ok.funs.mem hb
    exact I.base.free b o ho (I.ok.frf b hb) fun z => I.ok.exfs b z hb

/-- THE STEP: the untracked objects but the frame and the records at ch are kept (the callers' frames up to slots), the frame's map is kept, the new abstract heap is held -/
theorem Inv.step {g' : Array GenState} {t' : Nat} {d' : Drawn} {ch : List Addr} (I : Inv X pins σ H s)
    (hch : ∀ b ∈ ch, (b ∈ X.ex ∨ X.s_0.heap.objs.size ≤ b) ∧ b ≠ X.env.locals ∧ (∀ x c, X.env.cells.lookup x = some c → c ≠ b) ∧ ∀ p ∈ X.pn ++ pins, p.1 ≠ b)
    (keep : ∀ b o, b ≠ X.env.locals → b ∉ X.fs → b ∉ ch → s.heap.get? b = some o → H b = none → h'.get? b = some o)
    (slot : ∀ b o, b ≠ X.env.locals → b ∈ X.fs → b ∉ ch → s.heap.get? b = some o → H b = none → ∃ sl, h'.get? b = some { o with slots := sl }) (free : ∀ b o, b ∉ ch → s.heap.get? b = some o → H b = none → H' b = none)
    (there : ∀ b o, b ∉ ch → s.heap.get? b = some o → ∃ o', h'.get? b = some o')
    (tups : ∀ b xs, H b = some (.tup xs) → H' b = some (.tup xs)) (frzs : ∀ b o u, H b = some (.frz o u) → H' b = some (.frz o u)) (tbls : ∀ b ps, H b = some (.tbl ps) → ∃ more, H' b = some (.tbl (ps ++ more)))
    (ns : ∀ m, s.heap.Ns X.env.locals m → h'.Ns X.env.locals m) (hok : HOk X.prog X.w H' h') (hg : AllBare g') :
    Inv X pins σ H' { s with heap := h', gens := g', drawn := d', toks := t' } := by
  have neL : ∀ b o, X.s_0.heap.get? b = some o → b ≠ X.env.locals := fun b o e => Nat.ne_of_lt (Nat.lt_of_lt_of_le (Heap.lt_size e) I.ok.above)
  have neC : ∀ b o, X.s_0.heap.get? b = some o → b ∉ X.ex → b ∉ ch := fun b o e hx hb => by
    rcases (hch b hb).1 with z | z
    · exact hx z
    · exact absurd (Nat.lt_of_lt_of_le (Heap.lt_size e) z) (Nat.lt_irrefl _)
  have cellK : ∀ x c, X.env.cells.lookup x = some c → ∀ v, s.heap.IsCell c v → h'.IsCell c v := fun x c e v ⟨o, ho, hd⟩ => by
    have nch : c ∉ ch := fun z => (hch c z).2.2.1 x c e rfl
    by_cases hc : c ∈ X.fs
    · obtain ⟨sl, q⟩ := slot c o (I.cne x c e) hc nch ho (I.freeC x c e)
      exact ⟨_, q, hd⟩
    · exact ⟨o, keep c o (I.cne x c e) hc nch ho (I.freeC x c e), hd⟩
  refine ⟨I.ok, I.os, hg, ⟨fun b o e n hb hx => ?_, fun b o e n hb hx => ?_, fun b o e n hx => ?_, fun b o e hx => ?_, fun b xs e => tups b xs (I.base.tups b xs e), fun b o xs e => frzs b o xs (I.base.frzs b o xs e), fun b ps e => ?_⟩, ?_, fun x c e => ?_, ?_, fun x c e => ?_, fun p hp => ?_, hok, I.len⟩
  · exact keep b o (neL b o e) hb (neC b o e hx) (I.base.keep b o e n hb hx) (I.base.free b o e n hx)
  · obtain ⟨sl, e1⟩ := I.base.slot b o e n hb hx
    obtain ⟨sl', e2⟩ := slot b _ (neL b o e) hb (neC b o e hx) e1 (I.base.free b o e n hx)
    exact ⟨sl', e2⟩
  · obtain ⟨o', e1⟩ := I.base.there b o e hx
    exact free b o' (neC b o e hx) e1 (I.base.free b o e n hx)
  · obtain ⟨o', e1⟩ := I.base.there b o e hx
    exact there b o' (neC b o e hx) e1
  · obtain ⟨m1, e1⟩ := I.base.tbls b ps e
    obtain ⟨m2, e2⟩ := tbls b _ e1
    exact ⟨m1 ++ m2, by rw [e2, Array.append_assoc]⟩
  · obtain ⟨m, hn, hl⟩ := I.loc
    refine ⟨m, ns m hn, fun i x v e1 e2 e3 => ?_⟩
    obtain ⟨u, r, l⟩ := hl i x v e1 e2 e3
    refine ⟨u, r, ?_⟩
    rcases l with l | ⟨k, c, e, z⟩
    · exact .inl l
    · exact .inr ⟨k, c, e, cellK x c e _ z⟩
  · obtain ⟨v, z⟩ := I.cell x c e
    exact ⟨v, cellK x c e v z⟩
  · obtain ⟨m, ⟨o, _, _, ho, _⟩, _⟩ := I.loc
    exact free _ o (fun z => (hch _ z).2.1 rfl) ho I.free
  · obtain ⟨v, o, ho, hd⟩ := I.cell x c e
    exact free c o (fun z => (hch c z).2.2.1 x c e rfl) ho (I.freeC x c e)
  · obtain ⟨e, n, ne, nf, d⟩ := I.pin p hp
    have nch : p.1 ∉ ch := fun z => (hch p.1 z).2.2.2 p hp rfl
    exact ⟨keep p.1 p.2 ne nf nch e n, free p.1 p.2 nch e n, ne, nf, d⟩
/-- .. where the frame's own object is kept too -/
theorem Inv.un {t' : Nat} (I : Inv X pins σ H s) (u : Un X.fs [] H H' s.heap h') (hok : HOk X.prog X.w H' h') : Inv X pins σ H' { s with heap := h', toks := t' } := by
  obtain ⟨m, ⟨o, es, ep, ho, r⟩, _⟩ := id I.loc
  obtain ⟨sl, hL⟩ := u.any ho I.free (by simp)
  exact I.step (g' := s.gens) (d' := s.drawn) (ch := []) (fun _ z => nomatch z) (fun b o _ hb _ e n => u.keep b o e n hb (by simp)) (fun b o _ hb _ e n => u.slot b o e n hb (by simp)) (fun b o _ e n => u.free b o e n (by simp)) (fun b o _ e => u.there b o e (by simp)) u.tups u.frzs u.tbls (fun m' hm => by
    obtain ⟨o', es', ep', ho', r'⟩ := hm
    rw [ho] at ho'; cases ho'
    exact ⟨_, es', ep', hL, r'⟩) hok I.bare
/-- behind a call (or a comprehension's block): the slots of this frame may have changed too, the records at ch may have turned -/
theorem Inv.call {g' : Array GenState} {t' : Nat} {d' : Drawn} {ch : List Addr} (I : Inv X pins σ H s) (u : Un (frs X.stack) ch H H' s.heap h') (hok : HOk X.prog X.w H' h') (hg : AllBare g')
    (hch : ∀ b ∈ ch, (b ∈ X.ex ∨ X.s_0.heap.objs.size ≤ b) ∧ b ≠ X.env.locals ∧ (∀ x c, X.env.cells.lookup x = some c → c ≠ b) ∧ ∀ p ∈ X.pn ++ pins, p.1 ≠ b) :
    Inv X pins σ H' { s with heap := h', gens := g', drawn := d', toks := t' } := by
  obtain ⟨m, ⟨o, es, ep, ho, r⟩, _⟩ := id I.loc
  obtain ⟨sl, hL⟩ := u.any ho I.free fun z => (hch _ z).2.1 rfl
  exact I.step (ch := ch) hch (fun b o hL hb hc e n => u.keep b o e n (fun z => (List.mem_cons.mp (I.stkSub b z)).elim hL hb) hc) (fun b o _ _ hc e n => u.any e n hc) (fun b o hc e n => u.free b o e n hc) (fun b o hc e => u.there b o e hc) u.tups u.frzs u.tbls (fun m' hm => by
    obtain ⟨o', es', ep', ho', r'⟩ := hm
    rw [ho] at ho'; cases ho'
    exact ⟨_, es', ep', hL, r'⟩) hok hg
/-- an untracked record of ours (an iterator) has turned -/
theorem Inv.turned {t' : Nat} {it : Addr} (I : Inv X pins σ H s) (k : ∀ b o, b ≠ it → s.heap.get? b = some o → h'.get? b = some o) (hn : H it = none) (hL : it ≠ X.env.locals)
    (h1 : it ∈ X.ex ∨ X.s_0.heap.objs.size ≤ it) (h2 : ∀ x c, X.env.cells.lookup x = some c → c ≠ it) (h3 : ∀ p ∈ X.pn ++ pins, p.1 ≠ it) : Inv X pins σ H { s with heap := h', toks := t' } := by
  have nit : ∀ b u, H b = some u → b ≠ it := fun b u e z => by rw [z, hn] at e; cases e
  refine I.step (g' := s.gens) (d' := s.drawn) (ch := [it]) (fun b hb => ?_) (fun b o _ _ hc e _ => k b o (fun z => hc (by simp [z])) e) (fun b o _ _ hc e _ => ⟨o.slots, k b o (fun z => hc (by simp [z])) e⟩) (fun _ _ _ _ n => n)
    (fun b o hc e => ⟨o, k b o (fun z => hc (by simp [z])) e⟩) (fun _ _ e => e) (fun _ _ _ e => e) (fun b ps e => ⟨#[], by rw [e]; simp⟩) (fun m hm => ?_) (fun b u e => ?_) I.bare
  · have e : b = it := by simpa using hb
    subst e
    exact ⟨h1, hL, h2, h3⟩
  · obtain ⟨o, es, ep, ho, r⟩ := hm
    exact ⟨o, es, ep, k _ o (Ne.symm hL) ho, r⟩
  · refine (I.hok b u e).stay (fun c v hc q => k c v ?_ q) (fun _ q => q) fun _ _ q => q
    rcases hc with z | z
    · rw [z]; exact nit b u e
    · exact nit c _ z
theorem Inv.tok (I : Inv X pins σ H s) (t : Nat) : Inv X pins σ H { s with toks := t } := I.un (h' := s.heap) (t' := t) Un.refl I.hok
/-- all objects kept -/
theorem Inv.kept {t' : Nat} (I : Inv X pins σ H s) (k : ∀ b u, s.heap.get? b = some u → h'.get? b = some u) : Inv X pins σ H { s with heap := h', toks := t' } := I.un (Un.kept k) (I.hok.kept k)
/-- a new object laid and tracked -/
theorem Inv.laid {a : Addr} {o : HO} {t' : Nat} (I : Inv X pins σ H s) (k : ∀ b u, s.heap.get? b = some u → h'.get? b = some u) (hp : s.heap.objs.size ≤ a) (new : ObjOk X.prog X.w (upd H a o) h' a o) :
    Inv X pins σ (upd H a o) { s with heap := h', toks := t' } := I.un (Un.laid k hp (I.hok.fresh hp)) (I.hok.laid k hp new)
/-- an object written -/
theorem Inv.write {x e : Addr} {o : HO} {t' : Nat} (I : Inv X pins σ H s) (mu : Mut (H x)) (he : e = x ∨ H e = some (.own x)) (k : ∀ b u, b ≠ e → s.heap.get? b = some u → h'.get? b = some u) (heo : ∃ u, h'.get? e = some u)
    (new : ObjOk X.prog X.w (upd H x o) h' x o) : Inv X pins σ (upd H x o) { s with heap := h', toks := t' } := I.un (Un.write mu he k heo) (I.hok.write mu he k heo new)
/-- forgetting slots, pins -/
theorem Inv.weak {σ' : List (Option V)} (I : Inv X pins σ H s) (hl : σ'.length = σ.length) (w : ∀ (i : Nat) v, σ'[i]? = some (some v) → σ[i]? = some (some v)) : Inv X pins σ' H s :=
  ⟨I.ok, I.os, I.bare, I.base, let ⟨m, hn, hl'⟩ := I.loc; ⟨m, hn, fun i x v e1 e2 e3 => hl' i x v e1 (w i v e2) e3⟩, I.cell, I.free, I.freeC, I.pin, I.hok, hl.trans I.len⟩
theorem Inv.pins_of {pins' : List (Addr × Obj)} (I : Inv X pins σ H s) (h : ∀ p ∈ pins', s.heap.get? p.1 = some p.2 ∧ H p.1 = none ∧ p.1 ≠ X.env.locals ∧ p.1 ∉ X.fs ∧ ∀ v, p.2.data ≠ .cell v) : Inv X pins' σ H s :=
  ⟨I.ok, I.os, I.bare, I.base, I.loc, I.cell, I.free, I.freeC, fun p hp => (List.mem_append.mp hp).elim (fun z => I.pin p (List.mem_append_left _ z)) (h p), I.hok, I.len⟩

theorem nodup_ix {N : List Str} (hN : N.Nodup) {i j : Nat} {x : Str} (a : N[i]? = some x) (b : N[j]? = some x) : i = j := by
  obtain ⟨h1, e1⟩ := List.getElem?_eq_some_iff.mp a
  obtain ⟨h2, e2⟩ := List.getElem?_eq_some_iff.mp b
  exact (List.getElem_inj hN).mp (e1.trans e2.symm)

/-- a name is stored; what changed -/
theorem store_ok2 {M : Model} {A : Around} {E : Value → Shared → Prop} {i : Nat} {x : Str} {v : V} {u : Value} {Q : Unit → Shared → Prop} (I : Inv X pins σ H s) (hN : X.N.Nodup) (hi : X.N[i]? = some x) (hx : Loc X.env.scope x) (r : RelV v u)
    (h : ∀ s', Inv X pins (σ.set i (some v)) H s' → (∃ a, Heap.SameBut a s.heap s'.heap ∧ (a = X.env.locals ∨ X.env.cells.lookup x = some a)) → Q () s') (hf : X.fn x = true ∨ X.env.scope.names.lookup x = some .local := by first | exact .inl rfl | exact .inr rfl | assumption) : wpAny M A (storeName X.env x u) Q E s := by
  obtain ⟨m, hn, hl⟩ := id I.loc
  have hcls : (X.env.scope.kind == .class || (X.env.scope.kind == .module && X.env.locals != X.env.globals)) = false := by rw [I.ok.kind]; rfl
  have hiσ : i < σ.length := by rw [I.len]; exact (List.getElem?_eq_some_iff.mp hi).1
  have cne := I.cne
  have tracked : ∀ {a : Addr} {h' : Heap}, (∃ o, s.heap.get? a = some o ∧ H a = none) → Heap.SameBut a s.heap h' → HOk X.prog X.w H h' := fun {a h'} ha hs b ob e => by
    obtain ⟨_, _, hfree⟩ := ha
    refine (I.hok b ob e).stay (fun c w' hc q => (hs.2 c ?_).trans q) (fun _ q => q) fun _ _ q => q
    rintro rfl
    rcases hc with rfl | hc
    · rw [hfree] at e; cases e
    · rw [hfree] at hc; cases hc
  rcases hx with hk | hk
  · refine wpAny_storeName_local hk hn (fun h' hn' hs => ?_) hcls
    obtain ⟨oL, _, _, hoL, _⟩ := id hn
    refine h _ ⟨I.ok, I.os, I.bare, ⟨fun b o e n hb hx => ?_, fun b o e n hb hx => ?_, I.base.free, fun b o e hx => ?_, I.base.tups, I.base.frzs, I.base.tbls⟩, ⟨_, hn', fun j y v' e1 e2 e3 => ?_⟩, fun y c e => ?_, I.free, I.freeC, fun p hp => ?_, tracked ⟨oL, hoL, I.free⟩ hs, by simpa using I.len⟩ ⟨_, hs, .inl rfl⟩
    · exact (hs.2 b (Nat.ne_of_lt (Nat.lt_of_lt_of_le (Heap.lt_size e) I.ok.above))).trans (I.base.keep b o e n hb hx)
    · obtain ⟨sl, e1⟩ := I.base.slot b o e n hb hx
      exact ⟨sl, (hs.2 b (Nat.ne_of_lt (Nat.lt_of_lt_of_le (Heap.lt_size e) I.ok.above))).trans e1⟩
    · obtain ⟨o', e1⟩ := I.base.there b o e hx
      exact ⟨o', (hs.2 b (Nat.ne_of_lt (Nat.lt_of_lt_of_le (Heap.lt_size e) I.ok.above))).trans e1⟩
    · by_cases hj : j = i
      · subst hj
        rw [hi] at e1; cases e1
        rw [List.getElem?_set_self hiσ] at e2
        cases e2
        exact ⟨u, r, .inl ⟨hk, by simp⟩⟩
      · rw [List.getElem?_set_ne (Ne.symm hj)] at e2
        obtain ⟨u', r', q⟩ := hl j y v' e1 e2 e3
        refine ⟨u', r', ?_⟩
        rcases q with ⟨k, e⟩ | ⟨k, c, e, z⟩
        · refine .inl ⟨k, ?_⟩
          have : y ≠ x := fun e => hj (nodup_ix hN e1 (e ▸ hi))
          simp [this, e]
        · exact .inr ⟨k, c, e, z.sameBut hs (cne y c e)⟩
    · obtain ⟨w', z⟩ := I.cell y c e
      exact ⟨w', z.sameBut hs (cne y c e)⟩
    · obtain ⟨e, n, ne, nf, d⟩ := I.pin p hp
      exact ⟨(hs.2 p.1 ne).trans e, n, ne, nf, d⟩
  · have hfn : X.fn x = true := by
      rcases hf with z | z
      · exact z
      · rw [z] at hk; cases hk
    obtain ⟨c, hc⟩ := I.ok.has x (.inl hk)
    obtain ⟨w', z⟩ := I.cell x c hc
    refine wpAny_storeName_cell I.ok.kind hk hc z (fun h' hc' hs => ?_)
    obtain ⟨oc, hoc, hocd⟩ := id z
    refine h { s with heap := h' } ⟨I.ok, I.os, I.bare, ⟨fun b o e n hb hx => ?_, fun b o e n hb hx => ?_, I.base.free, fun b o e hx => ?_, I.base.tups, I.base.frzs, I.base.tbls⟩, ⟨m, hn.sameBut hs (Ne.symm (cne x c hc)), fun j y v' e1 e2 e3 => ?_⟩, fun y c' e => ?_, I.free, I.freeC, fun p hp => ?_, tracked ⟨oc, hoc, I.freeC x c hc⟩ hs, by simpa using I.len⟩ ⟨c, hs, .inr hc⟩
    · exact (hs.2 b (Nat.ne_of_lt (Nat.lt_of_lt_of_le (Heap.lt_size e) (I.ok.cab x c hfn hc)))).trans (I.base.keep b o e n hb hx)
    · obtain ⟨sl, e1⟩ := I.base.slot b o e n hb hx
      exact ⟨sl, (hs.2 b (Nat.ne_of_lt (Nat.lt_of_lt_of_le (Heap.lt_size e) (I.ok.cab x c hfn hc)))).trans e1⟩
    · obtain ⟨o', e1⟩ := I.base.there b o e hx
      exact ⟨o', (hs.2 b (Nat.ne_of_lt (Nat.lt_of_lt_of_le (Heap.lt_size e) (I.ok.cab x c hfn hc)))).trans e1⟩
    · by_cases hj : j = i
      · subst hj
        rw [hi] at e1; cases e1
        rw [List.getElem?_set_self hiσ] at e2
        cases e2
        exact ⟨u, r, .inr ⟨.inl hk, c, hc, hc'⟩⟩
      · rw [List.getElem?_set_ne (Ne.symm hj)] at e2
        obtain ⟨u', r', q⟩ := hl j y v' e1 e2 e3
        refine ⟨u', r', ?_⟩
        rcases q with q | ⟨k, c', e, z'⟩
        · exact .inl q
        · refine .inr ⟨k, c', e, z'.sameBut hs ?_⟩
          rintro rfl
          exact hj (nodup_ix hN e1 (I.ok.inj _ _ _ e hc ▸ hi))
    · by_cases hcc : c' = c
      · subst hcc; exact ⟨_, hc'⟩
      · obtain ⟨w2, z2⟩ := I.cell y c' e
        exact ⟨w2, z2.sameBut hs hcc⟩
    · obtain ⟨e, n, ne, nf, d⟩ := I.pin p hp
      refine ⟨(hs.2 p.1 ?_).trans e, n, ne, nf, d⟩
      intro q
      rw [q, hoc] at e
      have q' : oc = p.2 := Option.some.inj e
      exact d w' (by rw [← q']; exact hocd)
theorem store_ok {M : Model} {A : Around} {E : Value → Shared → Prop} {i : Nat} {x : Str} {v : V} {u : Value} {Q : Unit → Shared → Prop} (I : Inv X pins σ H s) (hN : X.N.Nodup) (hi : X.N[i]? = some x) (hx : Loc X.env.scope x) (r : RelV v u)
    (h : ∀ s', Inv X pins (σ.set i (some v)) H s' → Q () s') (hf : X.fn x = true ∨ X.env.scope.names.lookup x = some .local := by first | exact .inl rfl | exact .inr rfl | assumption) : wpAny M A (storeName X.env x u) Q E s :=
  store_ok2 I hN hi hx r (fun s' I' _ => h s' I') hf
/-- behind a call or a block, the state as it is -/
theorem Inv.call' {s' : Shared} {ch : List Addr} (I : Inv X pins σ H s) (ho : s'.os = s.os) (u : Un (frs X.stack) ch H H' s.heap s'.heap) (hok : HOk X.prog X.w H' s'.heap) (hg : AllBare s'.gens)
    (hch : ∀ b ∈ ch, (b ∈ X.ex ∨ X.s_0.heap.objs.size ≤ b) ∧ b ≠ X.env.locals ∧ (∀ x c, X.env.cells.lookup x = some c → c ≠ b) ∧ ∀ p ∈ X.pn ++ pins, p.1 ≠ b) : Inv X pins σ H' s' := by
  obtain ⟨h', g', d', t', o'⟩ := s'
  have e : o' = s.os := ho
  subst e
  exact I.call (g' := g') (t' := t') (d' := d') u hok hg hch
end

/-! ### the judgements -/
/-- an exception: its class, its own dict's address (where it has one), the abstract heap behind it -/
abbrev XK := Value → Option Addr → Hp → Prop
abbrev St := List (Option V)
abbrev VK := V → Hp → Prop
/-- an expression's reading; a test's; an argument list's -/
abbrev TE := St → Hp → VK → Prop
abbrev TT := St → Hp → (Bool → Hp → Prop) → Prop
abbrev TA := St → Hp → (List V → Hp → Prop) → Prop
/-- what is wanted behind a statement -/
structure Ends where
  nx : St → Hp → Prop
  rt : VK
  bk : St → Hp → Prop := fun _ _ => False
  ct : St → Hp → Prop := fun _ _ => False
abbrev TS := Ends → St → Hp → Prop

def EP (X : Cx) (pins : List (Addr × Obj)) (σ : St) (Q : VK) (u : Value) (s' : Shared) : Prop := ∃ v H', Inv X pins σ H' s' ∧ RelV v u ∧ Q v H'
def TP (X : Cx) (pins : List (Addr × Obj)) (σ : St) (Q : Bool → Hp → Prop) (b : Bool) (s' : Shared) : Prop := ∃ H', Inv X pins σ H' s' ∧ Q b H'
def AP (X : Cx) (pins : List (Addr × Obj)) (σ : St) (Q : List V → Hp → Prop) (us : List Value) (s' : Shared) : Prop := ∃ vs H', Inv X pins σ H' s' ∧ Vals vs us ∧ Q vs H'
def SP (X : Cx) (pins : List (Addr × Obj)) (D : Ends) (f : Flow) (s' : Shared) : Prop :=
  match f with
  | .next => ∃ σ' H', Inv X pins σ' H' s' ∧ D.nx σ' H'
  | .brk => ∃ σ' H', Inv X pins σ' H' s' ∧ D.bk σ' H'
  | .cont => ∃ σ' H', Inv X pins σ' H' s' ∧ D.ct σ' H'
  | .ret u => ∃ v σ' H', Inv X pins σ' H' s' ∧ RelV v u ∧ D.rt v H'

def PE (X : Cx) (e : Expr) (t : TE) : Prop :=
  ∀ (pins : List (Addr × Obj)) (s : Shared) (σ : St) (H : Hp) (Q : VK), Inv X pins σ H s → t σ H Q → wpAny (model X.prog X.w) X.A (eval e X.env) (EP X pins σ Q) X.xe s
def PT (X : Cx) (e : Expr) (t : TT) : Prop :=
  ∀ (pins : List (Addr × Obj)) (s : Shared) (σ : St) (H : Hp) (Q : Bool → Hp → Prop), Inv X pins σ H s → t σ H Q → wpAny (model X.prog X.w) X.A (isTrue e X.env (eval e X.env)) (TP X pins σ Q) X.xe s
/-- a test whatever its 'whole' is (and, or) -/
def PW (X : Cx) (e : Expr) (t : TT) : Prop :=
  ∀ (whole : Sem Value) (pins : List (Addr × Obj)) (s : Shared) (σ : St) (H : Hp) (Q : Bool → Hp → Prop), Inv X pins σ H s → t σ H Q → wpAny (model X.prog X.w) X.A (isTrue e X.env whole) (TP X pins σ Q) X.xe s
theorem PW.pt {X : Cx} {e : Expr} {t : TT} (h : PW X e t) : PT X e t := h _
/-- an argument list (no star), from the left -/
def PA (X : Cx) (es : List Expr) (t : TA) : Prop :=
  ∀ (pos : Pos) (pins : List (Addr × Obj)) (s : Shared) (σ : St) (H : Hp) (Q : List V → Hp → Prop), Inv X pins σ H s → t σ H Q → wpAny (model X.prog X.w) X.A (spliced (backTo pos (starEach es X.env))) (AP X pins σ Q) X.xe s
def PS (X : Cx) (st : Stmt) (t : TS) : Prop :=
  ∀ (pins : List (Addr × Obj)) (s : Shared) (σ : St) (H : Hp) (D : Ends), Inv X pins σ H s → t D σ H → wpAny (model X.prog X.w) X.A (exec st X.env) (SP X pins D) X.xe s
def PSs (X : Cx) (st : List Stmt) (t : TS) : Prop :=
  ∀ (pins : List (Addr × Obj)) (s : Shared) (σ : St) (H : Hp) (D : Ends), Inv X pins σ H s → t D σ H → wpAny (model X.prog X.w) X.A (execs st X.env) (SP X pins D) X.xe s
/-- weaken the end -/
theorem thn {α : Type} {t : Sem α} {Q Q' : α → Shared → Prop} {M : Model} {A : Around} {E : Value → Shared → Prop} {s : Shared} (h : wpAny M A t Q E s) (hQ : ∀ a s, Q a s → Q' a s) : wpAny M A t Q' E s := wpAny_mono h hQ fun _ _ x => x
end L2

namespace L2
open PySem PySem.Spec PyProof.Rows
section
variable {X : Cx}

/-! ### names and constants -/
def tVar (i : Nat) : TE := fun σ H Q => ∃ v, σ[i]? = some (some v) ∧ Q v H
def tC (v : V) : TE := fun _ H Q => Q v H
theorem pe_var {i : Nat} {x : Str} {pos : Pos} (hN : X.N[i]? = some x) (hv : Vis X.env.scope x) (hd : (x == ("__debug__" : Str)) = false := by decide) (hcd : (x == ("__classdict__" : Str)) = false := by decide) : PE X (.Name x pos) (tVar i) := by
  intro pins s σ H Q I h
  obtain ⟨v, e, h⟩ := h
  obtain ⟨m, hn, hl⟩ := I.loc
  obtain ⟨u, r, l⟩ := hl i x v hN e hv
  have fin : EP X pins σ Q u s := ⟨v, H, I, r, h⟩
  rcases l with ⟨hk, hm⟩ | ⟨hk, c, hc, hcell⟩
  · exact wpAny_Name (wpAny_loadName_local I.ok.kind hk hn hm fin) hd
  · rcases hk with hk | hk
    · exact wpAny_Name (wpAny_loadName_cell I.ok.kind hk hc hcell fin) hd
    · exact wpAny_Name (wpAny_loadName_free I.ok.kind hk hc hcell fin hcd) hd
theorem pe_int {i j pos} : PE X (.Constant (.int i) j pos) (tC (.int i)) := fun _ _ _ H _ I h => wpAny_Constant_int ⟨.int i, H, I.tok _, ⟨_, rfl⟩, h⟩
theorem pe_bl {b j pos} : PE X (.Constant (.bool b) j pos) (tC (.bl b)) := fun _ _ _ H _ I h => Constant_bool ⟨.bl b, H, I, rfl, h⟩
theorem pe_non {j pos} : PE X (.Constant .none j pos) (tC .non) := fun _ _ _ H _ I h => Constant_none ⟨.non, H, I, rfl, h⟩
theorem pe_str {x j pos} : PE X (.Constant (.str x) j pos) (tC (.str x)) := fun _ _ _ H _ I h => Calls.Constant_str ⟨.str x, H, I.tok _, ⟨_, rfl⟩, h⟩

/-- a global name of the def -/
def Gl (X : Cx) (x : Str) : Prop := X.env.kindOf x = some .globalImplicit
theorem ld_glob {E : Value → Shared → Prop} {pins : List (Addr × Obj)} {s : Shared} {σ : St} {H : Hp} {x : Str} {u : Value} {pos : Pos} {Q : Value → Shared → Prop} (I : Inv X pins σ H s) (hg : Gl X x) (hm : X.mg x = some u) (h : Q u s)
    (hd : (x == ("__debug__" : Str)) = false := by decide) : wpAny (model X.prog X.w) X.A (eval (.Name x pos) X.env) Q E s :=
  Calls.Name_function_global I.ok.kind hg (Calls.loadGlobal_global (by rw [I.ok.glob]; exact I.mod.glob.keeps I.bk) hm h) hd
theorem ld_blt {E : Value → Shared → Prop} {pins : List (Addr × Obj)} {s : Shared} {σ : St} {H : Hp} {x : Str} {u : Value} {pos : Pos} {Q : Value → Shared → Prop} (I : Inv X pins σ H s) (hg : Gl X x) (hm : X.mg x = none) (hv : bootBuiltins x = some u) (h : Q u s)
    (hn : x ≠ "__name__" := by decide) (hd : (x == ("__debug__" : Str)) = false := by decide) : wpAny (model X.prog X.w) X.A (eval (.Name x pos) X.env) Q E s := by
  obtain ⟨mb, h1, h2⟩ := I.mod.blt
  exact Calls.Name_function_global I.ok.kind hg (Calls.loadGlobal_builtin (by rw [I.ok.glob]; exact I.mod.glob.keeps I.bk) hm (by rw [I.ok.blt]; exact h1.keeps I.bk) ((h2 x hn).trans hv) h) hd
/-- a module's constant, a class, a function, as a value -/
theorem pe_glob {x : Str} {v : V} {u : Value} {pos : Pos} (hg : Gl X x) (hm : X.mg x = some u) (r : RelV v u) (hd : (x == ("__debug__" : Str)) = false := by decide) : PE X (.Name x pos) (tC v) :=
  fun _ _ _ H _ I h => ld_glob I hg hm ⟨v, H, I, r, h⟩ hd
theorem pe_bltn {x : Str} {v : V} {u : Value} {pos : Pos} (hg : Gl X x) (hm : X.mg x = none) (hv : bootBuiltins x = some u) (r : RelV v u) (hn : x ≠ "__name__" := by decide) (hd : (x == ("__debug__" : Str)) = false := by decide) : PE X (.Name x pos) (tC v) :=
  fun _ _ _ H _ I h => ld_blt I hg hm hv ⟨v, H, I, r, h⟩ hn hd

/-! ### arithmetic -/
variable {a b : Expr} {ta tb : TE} {pos : Pos}
/-! ### comparisons -/
def PC (X : Cx) (op : CmpOp) (a b : Expr) (t : TE) : Prop :=
  ∀ (pins : List (Addr × Obj)) (s : Shared) (σ : St) (H : Hp) (Q : VK), Inv X pins σ H s → t σ H Q →
    wpAny (model X.prog X.w) X.A (eval a X.env) (fun v s₁ => wpAny (model X.prog X.w) X.A (eval b X.env) (fun u s₂ => wpAny (model X.prog X.w) X.A (compareOp op v u) (EP X pins σ Q) X.xe s₂) X.xe s₁) X.xe s
theorem nobehind (b : Expr) {op : CmpOp} (h : op ≠ .In) (h2 : op ≠ .NotIn) : behindInMarks op b = false := by
  have e1 : (op == CmpOp.In) = false := by cases op <;> first | rfl | exact absurd rfl h
  have e2 : (op == CmpOp.NotIn) = false := by cases op <;> first | rfl | exact absurd rfl h2
  cases b <;> simp [behindInMarks, e1, e2]
/-- a comparison as a value, as a test -/
def tB (t : TE) : TT := fun σ H Q => t σ H fun x H1 => ∃ c, x = .bl c ∧ Q c H1
theorem pt_cmp {op : CmpOp} {t : TE} (h : PC X op a b t) (h1 : behindInMarks op b = false := by first | exact nobehind _ (by decide) (by decide) | rfl) : PT X (.Compare a [op] [b] pos) (tB t) := by
  intro pins s σ H Q I hw
  refine wpAny_isTrue_Compare1 (thn (h pins s σ H _ I hw) fun v s1 h1 => thn h1 fun u s2 h2 => thn h2 fun c s3 ⟨x, H1, I1, r1, q1⟩ => ?_) h1
  obtain ⟨d, rfl, q⟩ := q1
  cases r1
  exact wpAny_truthy_bool ⟨H1, I1, q⟩
/-- an expression whose value is a bool, as a test -/
theorem pt_val {e : Expr} {t : TE} (h : PE X e t) (he : ∀ whole, isTrue e X.env whole = (do let v ← whole; standAt e.pos; holding [v] (truthy v)) := by intro _; rfl) : PT X e (tB t) := by
  intro pins s σ H Q I hw
  refine isTrue_plain (thn (h pins s σ H _ I hw) fun v s1 ⟨x, H1, I1, r1, q1⟩ => ?_) (he _)
  obtain ⟨d, rfl, q⟩ := q1
  cases r1
  exact wpAny_truthy_bool ⟨H1, I1, q⟩

/-! ### and, or, not -/
variable {tA tB' : TT} {rest : List Expr}
def tAnd (t u : TT) : TT := fun σ H Q => t σ H fun c H1 => if c = true then u σ H1 Q else Q false H1
def tOr (t u : TT) : TT := fun σ H Q => t σ H fun c H1 => if c = true then Q true H1 else u σ H1 Q
def tNot (t : TT) : TT := fun σ H Q => t σ H fun c H1 => Q (!c) H1
theorem pw_and1 (ha : PT X a tA) : PW X (.BoolOp .And [a] pos) tA := by
  intro wh pins s σ H Q I h
  refine isTrue_and (thn (ha pins s σ H Q I h) fun c s1 e => ?_)
  cases c with
  | true => exact isTrue_and_nil e
  | false => exact e
theorem pw_or1 (ha : PT X a tA) : PW X (.BoolOp .Or [a] pos) tA := by
  intro wh pins s σ H Q I h
  refine isTrue_or (thn (ha pins s σ H Q I h) fun c s1 e => ?_)
  cases c with
  | false => exact isTrue_or_nil e
  | true => exact e
theorem pw_and (ha : PT X a tA) (hb : PW X (.BoolOp .And (b :: rest) pos) tB') : PW X (.BoolOp .And (a :: b :: rest) pos) (tAnd tA tB') := by
  intro wh pins s σ H Q I h
  refine isTrue_and (thn (ha pins s σ H _ I h) fun c s1 ⟨H1, I1, q1⟩ => ?_)
  cases c with
  | true => exact hb wh pins s1 σ H1 Q I1 q1
  | false => exact ⟨H1, I1, q1⟩
theorem pw_or (ha : PT X a tA) (hb : PW X (.BoolOp .Or (b :: rest) pos) tB') : PW X (.BoolOp .Or (a :: b :: rest) pos) (tOr tA tB') := by
  intro wh pins s σ H Q I h
  refine isTrue_or (thn (ha pins s σ H _ I h) fun c s1 ⟨H1, I1, q1⟩ => ?_)
  cases c with
  | true => exact ⟨H1, I1, q1⟩
  | false => exact hb wh pins s1 σ H1 Q I1 q1
theorem pt_not (ha : PT X a tA) : PT X (.UnaryOp .Not a pos) (tNot tA) := by
  intro pins s σ H Q I h
  exact isTrue_not (ha pins s σ H (fun c H1 => Q (!c) H1) I h)
/-- .. as values (bools) -/
def tAndV (ta tb : TE) : TE := fun σ H Q => ta σ H fun x H1 => ∃ c, x = .bl c ∧ if c = true then tb σ H1 Q else Q (.bl false) H1
def tOrV (ta tb : TE) : TE := fun σ H Q => ta σ H fun x H1 => ∃ c, x = .bl c ∧ if c = true then Q (.bl true) H1 else tb σ H1 Q
def tNotV (ta : TE) : TE := fun σ H Q => ta σ H fun x H1 => ∃ c, x = .bl c ∧ Q (.bl (!c)) H1
theorem pe_one {op} {t : TE} (h : PE X a t) : PE X (.BoolOp op [a] pos) t := fun pins s σ H Q I hw => BoolOp_one (h pins s σ H Q I hw)
theorem pe_and (ha : PE X a ta) (hb : PE X (.BoolOp .And (b :: rest) pos) tb) : PE X (.BoolOp .And (a :: b :: rest) pos) (tAndV ta tb) := by
  intro pins s σ H Q I h
  refine BoolOp_and (thn (ha pins s σ H _ I h) fun v s1 ⟨x, H1, I1, r1, q1⟩ => ?_)
  obtain ⟨c, rfl, q1⟩ := q1
  cases r1
  refine wpAny_truthy_bool ?_
  cases c with
  | true => exact hb pins s1 σ H1 Q I1 q1
  | false => exact ⟨.bl false, H1, I1, rfl, q1⟩
theorem pe_or (ha : PE X a ta) (hb : PE X (.BoolOp .Or (b :: rest) pos) tb) : PE X (.BoolOp .Or (a :: b :: rest) pos) (tOrV ta tb) := by
  intro pins s σ H Q I h
  refine BoolOp_or (thn (ha pins s σ H _ I h) fun v s1 ⟨x, H1, I1, r1, q1⟩ => ?_)
  obtain ⟨c, rfl, q1⟩ := q1
  cases r1
  refine wpAny_truthy_bool ?_
  cases c with
  | false => exact hb pins s1 σ H1 Q I1 q1
  | true => exact ⟨.bl true, H1, I1, rfl, q1⟩
theorem pe_not (ha : PE X a ta) : PE X (.UnaryOp .Not a pos) (tNotV ta) := by
  intro pins s σ H Q I h
  refine UnaryOp_ (thn (ha pins s σ H _ I h) fun v s1 ⟨x, H1, I1, r1, q1⟩ => ?_)
  obtain ⟨c, rfl, q1⟩ := q1
  cases r1
  exact not_of (wpAny_truthy_bool ⟨.bl (!c), H1, I1, rfl, q1⟩)
/-- a if t else b -/
def tIf (t : TT) (ta tb : TE) : TE := fun σ H Q => t σ H fun c H1 => if c = true then ta σ H1 Q else tb σ H1 Q
theorem pe_ifExp {c : Expr} (hc : PT X c tA) (ha : PE X a ta) (hb : PE X b tb) : PE X (.IfExp c a b pos) (tIf tA ta tb) := by
  intro pins s σ H Q I h
  refine wpAny_IfExp (thn (hc pins s σ H _ I h) fun d s1 ⟨H1, I1, q1⟩ => ?_)
  cases d with
  | true => exact ha pins s1 σ H1 Q I1 q1
  | false => exact hb pins s1 σ H1 Q I1 q1
end
end L2

namespace L2
open PySem PySem.Spec PyProof.Rows

/-! ### a list, a tuple that is read: tracked, frozen, or an object of the module -/
def SqL (K : PySem.W.Frag) (H : Hp) (a : Addr) (xs : List V) : Prop :=
  Rd H a (.lst xs) ∨
    ∃ (o : Obj) (its : Array Value) (n : Nat), K.lookup a = some o ∧ o.cls = .type "list" ∧ o.dict = none ∧ o.data = .seq its n ∧ its.size ≤ sizeLine ∧ Vals xs its.toList
def SqT (K : PySem.W.Frag) (H : Hp) (a : Addr) (xs : List V) : Prop :=
  Rd H a (.tup xs) ∨
    ∃ (o : Obj) (its : Array Value) (n : Nat), K.lookup a = some o ∧ o.cls = .type "tuple" ∧ o.data = .seq its n ∧ its.size ≤ sizeLine ∧ Vals xs its.toList
def absV : Value → Option V
  | .none => some .non
  | .bool b => some (.bl b)
  | .int i _ => some (.int i)
  | .str x _ => some (.str x)
  | .bytes b _ => some (.byt b)
  | .float b _ => some (.flt b)
  | .ref a => some (.ref a)
  | .type n => some (.ty n)
  | _ => none
theorem RelV.abs {x : V} {u : Value} (r : RelV x u) : absV u = some x := by
  cases x with
  | non => cases r; rfl
  | bl _ => cases r; rfl
  | int _ => obtain ⟨t, rfl⟩ := r; rfl
  | str _ => obtain ⟨t, rfl⟩ := r; rfl
  | byt _ => obtain ⟨t, rfl⟩ := r; rfl
  | flt _ => obtain ⟨t, rfl⟩ := r; rfl
  | ref _ => cases r; rfl
  | ty _ => cases r; rfl
theorem RelV.inj {x y : V} {u : Value} (r : RelV x u) (q : RelV y u) : x = y := Option.some.inj (r.abs.symm.trans q.abs)
theorem Vals.inj : ∀ {xs ys : List V} {us : List Value}, Vals xs us → Vals ys us → xs = ys
  | _, _, _, .nil, .nil => rfl
  | _, _, _, .cons r t, .cons r' t' => by rw [r.inj r', Vals.inj t t']
section
variable {X : Cx} {pins : List (Addr × Obj)} {σ : St} {H : Hp} {s : Shared} {a : Addr} {xs ys : List V}
theorem SqL.of {K : PySem.W.Frag} (h : H a = some (.lst xs)) : SqL K H a xs := .inl (.inl h)
theorem SqT.of {K : PySem.W.Frag} (h : H a = some (.tup xs)) : SqT K H a xs := .inl (.inl h)
theorem Inv.list (I : Inv X pins σ H s) (h : SqL X.K H a xs) : ∃ its : List Value, Vals xs its ∧ PlainL s.heap a its.toArray ∧ xs.length ≤ sizeLine := by
  rcases h with h | ⟨o, its, n, hk, hc, hd, hs, hz, r⟩
  · obtain ⟨z, its, n, r, e⟩ := h.ok I.hok
    exact ⟨its, r, ⟨_, n, e, rfl, rfl, rfl⟩, z⟩
  · refine ⟨its.toList, r, ⟨o, n, I.kIn a o hk, hc, hd, by simpa using hs⟩, ?_⟩
    have e := r.length
    simp only [Array.length_toList] at e
    omega
theorem Inv.tuple (I : Inv X pins σ H s) (h : SqT X.K H a xs) : ∃ its : List Value, Vals xs its ∧ IsTup s.heap a its.toArray ∧ xs.length ≤ sizeLine := by
  rcases h with h | ⟨o, its, n, hk, hc, hs, hz, r⟩
  · obtain ⟨z, its, r, p⟩ := h.ok I.hok
    exact ⟨its, r, p, z⟩
  · refine ⟨its.toList, r, ⟨o, I.kIn a o hk, hc, n, by simpa using hs⟩, ?_⟩
    have e := r.length
    simp only [Array.length_toList] at e
    omega
theorem Inv.list_inj (I : Inv X pins σ H s) (h : SqL X.K H a xs) (h' : SqL X.K H a ys) : xs = ys := by
  obtain ⟨its, r, ⟨o, n, e, _, _, d⟩, _⟩ := I.list h
  obtain ⟨its', r', ⟨o', n', e', _, _, d'⟩, _⟩ := I.list h'
  rw [e] at e'; cases e'
  rw [d] at d'
  injection d' with d1 _
  have : its = its' := by simpa using congrArg Array.toList d1
  subst this
  exact r.inj r'
theorem Inv.tuple_inj (I : Inv X pins σ H s) (h : SqT X.K H a xs) (h' : SqT X.K H a ys) : xs = ys := by
  obtain ⟨its, r, ⟨o, e, _, n, d⟩, _⟩ := I.tuple h
  obtain ⟨its', r', ⟨o', e', _, n', d'⟩, _⟩ := I.tuple h'
  rw [e] at e'; cases e'
  rw [d] at d'
  injection d' with d1 _
  have : its = its' := by simpa using congrArg Array.toList d1
  subst this
  exact r.inj r'
end

/-! ### another wish about exceptions -/
abbrev Cx.wish (X : Cx) (E : Value → Shared → Prop) : Cx := { X with xe := E }
/-- no exception leaves -/
abbrev Cx.nox (X : Cx) : Cx := X.wish fun _ _ => False
theorem Cx.Ok.wish {X : Cx} (ok : X.Ok) (E : Value → Shared → Prop) : (X.wish E).Ok :=
  ⟨ok.mod, ok.kind, ok.glob, ok.blt, ok.above, ok.inj, ok.has, ok.cab, ok.hd, ok.frames, ok.stk, ok.exf, ok.bs, ok.bsz, ok.noex, ok.exfs, ok.funs, ok.frf⟩
theorem Cx.Ok.unwish {X : Cx} {E : Value → Shared → Prop} (ok : (X.wish E).Ok) : X.Ok :=
  ⟨ok.mod, ok.kind, ok.glob, ok.blt, ok.above, ok.inj, ok.has, ok.cab, ok.hd, ok.frames, ok.stk, ok.exf, ok.bs, ok.bsz, ok.noex, ok.exfs, ok.funs, ok.frf⟩
section
variable {X : Cx} {pins : List (Addr × Obj)} {σ : St} {H : Hp} {s : Shared} {E : Value → Shared → Prop}
theorem Inv.wish (I : Inv X pins σ H s) (E : Value → Shared → Prop) : Inv (X.wish E) pins σ H s := ⟨I.ok.wish E, I.os, I.bare, I.base, I.loc, I.cell, I.free, I.freeC, I.pin, I.hok, I.len⟩
theorem Inv.unwish (I : Inv (X.wish E) pins σ H s) : Inv X pins σ H s := ⟨I.ok.unwish, I.os, I.bare, I.base, I.loc, I.cell, I.free, I.freeC, I.pin, I.hok, I.len⟩
theorem SP.unwish {D : Ends} {f : Flow} {s' : Shared} (h : SP (X.wish E) pins D f s') : SP X pins D f s' := by
  cases f with
  | next => obtain ⟨σ', H', I, q⟩ := h; exact ⟨σ', H', I.unwish, q⟩
  | brk => obtain ⟨σ', H', I, q⟩ := h; exact ⟨σ', H', I.unwish, q⟩
  | cont => obtain ⟨σ', H', I, q⟩ := h; exact ⟨σ', H', I.unwish, q⟩
  | ret u => obtain ⟨v, σ', H', I, r, q⟩ := h; exact ⟨v, σ', H', I.unwish, r, q⟩
theorem PE.nox {e : Expr} {t : TE} (h : PE X.nox e t) : PE X e t := fun pins s σ H Q I hw =>
  wpAny_mono (h pins s σ H Q (I.wish _) hw) (fun _ _ ⟨v, H', I', r, q⟩ => ⟨v, H', I'.unwish, r, q⟩) fun _ _ z => False.elim z
theorem PT.nox {e : Expr} {t : TT} (h : PT X.nox e t) : PT X e t := fun pins s σ H Q I hw =>
  wpAny_mono (h pins s σ H Q (I.wish _) hw) (fun _ _ ⟨H', I', q⟩ => ⟨H', I'.unwish, q⟩) fun _ _ z => False.elim z
theorem PSs.nox {st : List Stmt} {t : TS} (h : PSs X.nox st t) : PSs X st t := fun pins s σ H D I hw =>
  wpAny_mono (h pins s σ H D (I.wish _) hw) (fun _ _ q => q.unwish) fun _ _ z => False.elim z
end

/-! ### blocks and small statements -/
section
variable {X : Cx} {st : Stmt} {rest : List Stmt} {t u : TS} {e : Expr} {te : TE} {pos : Pos}
def tNext : TS := fun D σ H => D.nx σ H
def tSeq (t u : TS) : TS := fun D σ H => t { D with nx := u D } σ H
theorem pss_nil : PSs X [] tNext := fun _ _ σ H _ I h => wpAny_execs_nil ⟨σ, H, I, h⟩
theorem pss_cons (h1 : PS X st t) (h2 : PSs X rest u) : PSs X (st :: rest) (tSeq t u) := by
  intro pins s σ H D I h
  refine wpAny_execs_cons (thn (h1 pins s σ H { D with nx := u D } I h) fun f s1 q => ?_)
  cases f with
  | next =>
    obtain ⟨σ', H', I', q⟩ := q
    exact h2 pins s1 σ' H' D I' q
  | ret v => exact q
  | brk => exact q
  | cont => exact q
theorem pss_one (h1 : PS X st t) : PSs X [st] t := by
  intro pins s σ H D I h
  refine wpAny_execs_cons (thn (h1 pins s σ H D I h) fun f s1 q => ?_)
  cases f with
  | next => exact wpAny_execs_nil q
  | ret v => exact q
  | brk => exact q
  | cont => exact q
/-- in a def's body nothing is shown -/
theorem Inv.quiet {pins : List (Addr × Obj)} {σ : St} {H : Hp} {s : Shared} (I : Inv X pins σ H s) : interactive X.env = false := by simp [interactive, I.ok.kind]
/-- an expression whose value is dropped -/
def tDrop (te : TE) : TS := fun D σ H => te σ H fun _ H1 => D.nx σ H1
theorem ps_expr (he : PE X e te) (hs : swapsWith e none pos.line X.env = pure false := by rfl) : PS X (.Expr e pos) (tDrop te) := by
  intro pins s σ H D I h
  exact wpAny_Expr_any (thn (he pins s σ H _ I h) fun v s1 ⟨x, H1, I1, r1, q1⟩ => ⟨σ, H1, I1, q1⟩) I.quiet hs
def tRet (te : TE) : TS := fun D σ H => te σ H D.rt
theorem ps_ret (he : PE X e te) : PS X (.Return (some e) pos) (tRet te) := by
  intro pins s σ H D I h
  exact wpAny_Return_some (thn (he pins s σ H _ I h) fun v s1 ⟨x, H1, I1, r1, q1⟩ => ⟨x, σ, H1, I1, r1, q1⟩)
def tIfS (c : TT) (t u : TS) : TS := fun D σ H => c σ H fun b H1 => if b = true then t D σ H1 else u D σ H1
theorem ps_if {c : Expr} {a b : List Stmt} {tc : TT} (hc : PT X c tc) (ha : PSs X a t) (hb : PSs X b u) : PS X (.If c a b pos) (tIfS tc t u) := by
  intro pins s σ H D I h
  refine wpAny_If (thn (hc pins s σ H _ I h) fun d s1 ⟨H1, I1, q1⟩ => ?_)
  cases d with
  | true => exact ha pins s1 σ H1 D I1 q1
  | false => exact hb pins s1 σ H1 D I1 q1
end

/-! ### targets -/
abbrev TG := V → St → Hp → (St → Hp → Prop) → Prop
def PG (X : Cx) (target : Expr) (t : TG) : Prop :=
  ∀ (pins : List (Addr × Obj)) (s : Shared) (σ : St) (H : Hp) (v : V) (u : Value) (Q : St → Hp → Prop), Inv X pins σ H s → RelV v u → t v σ H Q →
    wpAny (model X.prog X.w) X.A (assign target X.env u) (fun _ s' => ∃ σ' H', Inv X pins σ' H' s' ∧ Q σ' H') X.xe s
/-- o[i] = v, by values -/
abbrev TSet := V → V → V → Hp → (Hp → Prop) → Prop
def PSet (X : Cx) (t : TSet) : Prop :=
  ∀ (pins : List (Addr × Obj)) (s : Shared) (σ : St) (H : Hp) (o i v : V) (ov iv u : Value) (Q : Hp → Prop), Inv X pins σ H s → RelV o ov → RelV i iv → RelV v u → t o i v H Q →
    wpAny (model X.prog X.w) X.A (setItem ov iv u) (fun _ s' => ∃ H', Inv X pins σ H' s' ∧ Q H') X.xe s
section
variable {X : Cx} {pos : Pos}
def gName (i : Nat) : TG := fun v σ H Q => Q (σ.set i (some v)) H
theorem pg_name {i : Nat} {x : Str} (hN : X.N.Nodup) (hi : X.N[i]? = some x) (hx : Loc X.env.scope x) (hf : X.fn x = true ∨ X.env.scope.names.lookup x = some .local := by first | exact .inl rfl | exact .inr rfl | assumption) : PG X (.Name x pos) (gName i) := by
  intro pins s σ H v u Q I r h
  exact wpAny_assign_Name (store_ok I hN hi hx r (fun s' I' => ⟨_, H, I', h⟩) hf)
/-- o[i] = .. -/
def gSub (to ti : TE) (t : TSet) : TG := fun v σ H Q => to σ H fun o H1 => ti σ H1 fun i H2 => t o i v H2 fun H3 => Q σ H3
theorem pg_sub {o i : Expr} {to ti : TE} {t : TSet} (ho : PE X o to) (hi : PE X i ti) (hs : PSet X t)
    (ha : ∀ v, assign (.Subscript o i pos) X.env v = (do
      let ov ← holding [v] (eval o X.env)
      let iv ← holding [v, ov] (eval i X.env)
      standAt pos
      holding [v, ov, iv] (setItem ov iv v)
      release [v, ov, iv] []) := by intro _; rfl) : PG X (.Subscript o i pos) (gSub to ti t) := by
  intro pins s σ H v u Q I r h
  rw [ha]
  refine wpAny_bind (wpAny_holding (thn (ho pins s σ H _ I h) fun ov s1 ⟨x, H1, I1, r1, q1⟩ => ?_))
  refine wpAny_bind (wpAny_holding (thn (hi pins s1 σ H1 _ I1 q1) fun iv s2 ⟨y, H2, I2, r2, q2⟩ => ?_))
  refine wpAny_bind (wpAny_standAt (wpAny_bind (wpAny_holding (thn (hs pins s2 σ H2 x y v ov iv u _ I2 r1 r2 r q2) fun _ s3 ⟨H3, I3, q3⟩ => ?_))))
  exact wpAny_release ⟨σ, H3, I3, q3⟩
/-- target = value -/
def tAsg (te : TE) (g : TG) : TS := fun D σ H => te σ H fun x H1 => g x σ H1 D.nx
theorem ps_asg {tg e : Expr} {te : TE} {g : TG} (he : PE X e te) (hg : PG X tg g) (hs : swapsWithSole [tg] e pos.line X.env = pure false := by rfl) (hw : swappedStores [tg] e X.env = pure none := by rfl)
    (h1 : (assignEach [tg] X.env).map (·.2) = [assign tg X.env] := by rfl) : PS X (.Assign [tg] e pos) (tAsg te g) := by
  intro pins s σ H D I h
  refine wpAny_Assign_stores (thn (he pins s σ H _ I h) fun v s1 ⟨x, H1, I1, r1, q1⟩ => ?_) hs hw
  rw [h1]
  exact thn (hg pins s1 σ H1 x v _ I1 r1 q1) fun _ s2 q => q
/-- name = value -/
theorem ps_set {i : Nat} {x : Str} {e : Expr} {te : TE} {pos' : Pos} (hN : X.N.Nodup) (hi : X.N[i]? = some x) (hx : Loc X.env.scope x) (he : PE X e te) (hs : swapsWith e (some (.Name x pos')) pos.line X.env = pure false := by rfl) (hf : X.fn x = true ∨ X.env.scope.names.lookup x = some .local := by first | exact .inl rfl | exact .inr rfl | assumption) :
    PS X (.Assign [.Name x pos'] e pos) (tAsg te (gName i)) := by
  intro pins s σ H D I h
  refine wpAny_Assign_Name (thn (he pins s σ H _ I h) fun v s1 ⟨y, H1, I1, r1, q1⟩ => ?_) hs
  exact store_ok I1 hN hi hx r1 (fun s2 I2 => ⟨_, H1, I2, q1⟩) hf
/-- a, b = x, y with plain local names: stored from the right; the pair itself is not tracked (the opening rows as in PyProof/Rows/TupAssign.lean:23) -/
def tPar (i j : Nat) (ta : TA) : TS := fun D σ H => ta σ H fun vs H1 => ∃ v w, vs = [v, w] ∧ D.nx ((σ.set i (some v)).set j (some w)) H1
theorem ps_par {i j : Nat} {x y : Str} {a b : Expr} {ta : TA} {px py pt : Pos} {kt k2 pt2} (hc : X.calm = true) (hN : X.N.Nodup) (hi : X.N[i]? = some x) (hj : X.N[j]? = some y) (hij : i ≠ j)
    (hx : X.env.scope.names.lookup x = some .local) (hy : X.env.scope.names.lookup y = some .local) (ha : PA X [a, b] ta)
    (hw : swappedStores [.Tuple [.Name x px, .Name y py] kt pt] (.Tuple [a, b] k2 pt2) X.env = pure (some [x, y]))
    (hs : swapsWithSole [.Tuple [.Name x px, .Name y py] kt pt] (.Tuple [a, b] k2 pt2) pos.line X.env = pure false := by rfl) :
    PS X (.Assign [.Tuple [.Name x px, .Name y py] kt pt] (.Tuple [a, b] k2 pt2) pos) (tPar i j ta) := by
  intro pins s σ H D I h
  rw [exec_Assign_arm]
  refine wpAny_bind (wpAny_standAt ?_)
  rw [hs]
  refine wpAny_bind (wpAny_pure ?_)
  rw [if_neg (by decide)]
  refine wpAny_bind (Tuple_ (thn (ha _ pins s σ H _ I h) fun us s1 ⟨vs, H1, I1, r1, q1⟩ => ?_))
  obtain ⟨v, w, e1, q1⟩ := q1
  subst e1
  obtain ⟨u1, u2, rfl, rv, rw'⟩ : ∃ u1 u2, us = [u1, u2] ∧ RelV v u1 ∧ RelV w u2 := by
    cases r1 with
    | cons p q =>
      cases q with
      | cons p' q' =>
        cases q'
        exact ⟨_, _, rfl, p, p'⟩
  refine wpAny_newObj_type ?_ (by show 2 ≤ sizeLine; decide)
  have I2 : Inv X pins σ H1 { s1 with heap := s1.heap.push { cls := .type "tuple", data := .seq [u1, u2].toArray } } := I1.kept (t' := s1.toks) fun b o e => Heap.get?_push_of_some _ e
  rw [hw]
  refine wpAny_bind (wpAny_pure ?_)
  show wpAny (model X.prog X.w) X.A (do rule "assign.swapped-stores"; let items ← unpackItems (.ref s1.heap.objs.size) 2 none; assignInOrder [fun v => bindName X.env y v, fun v => bindName X.env x v] items.reverse; pure Flow.next) _ _ _
  refine wpAny_bind (wpAny_rule (wpAny_bind (unpackItems_tuple (items := #[u1, u2]) (I.ok.hd hc) (IsTup.new s1.heap _) fun h' hx' => ?_)))
  have I3 := I2.kept (h' := h') (t' := s1.toks) fun b o e => hx' b o (Nat.ne_of_lt (Heap.lt_size e)) e
  show wpAny _ _ (assignInOrder [fun v => bindName X.env y v, fun v => bindName X.env x v] [u2, u1] >>= fun _ => pure Flow.next) _ _ _
  refine wpAny_bind (assignInOrder_cons (wpAny_bindName (store_ok I3 hN hj (.inl hy) rw' (fun s2 I4 => ?_) (.inr hy))))
  refine assignInOrder_cons (wpAny_bindName (store_ok I4 hN hi (.inl hx) rv (fun s3 I5 => assignInOrder_nil (wpAny_pure ?_)) (.inr hx)))
  rw [List.set_comm _ _ (Ne.symm hij)] at I5
  exact ⟨_, H1, I5, q1⟩
end

/-! ### while -/
section
variable {X : Cx} {pos : Pos}
/-- the invariant W with its measure -/
def tWhile (c : TT) (tb : TS) : TS := fun D σ H => ∃ W : Nat → St → Hp → Prop, (∃ m, W m σ H) ∧ ∀ m σ H, W m σ H →
  c σ H fun b H1 => if b = true then ∃ N : St → Hp → Prop, (∀ σ' H', N σ' H' → ∃ m', m' < m ∧ W m' σ' H') ∧ tb { D with nx := N, ct := N, bk := D.nx } σ H1 else D.nx σ H1
theorem ps_while {c : Expr} {body : List Stmt} {tc : TT} {tb : TS} (hp : PassesOwn (model X.prog X.w) X.A X.env X.xe) (hc : PT X c tc) (hb : PSs X body tb) : PS X (.While c body [] pos) (tWhile tc tb) := by
  intro pins s σ H D I h
  obtain ⟨W, ⟨m0, w0⟩, turn⟩ := h
  refine wpAny_While (codeAny_whileLoop (fun n s' => ∃ σ' H', Inv X pins σ' H' s' ∧ W n σ' H') ?_ m0 ⟨σ, H, I, w0⟩)
  rintro n s1 ⟨σ1, H1, I1, w1⟩
  refine wpAny_passesOwn hp (thn (hc pins s1 σ1 H1 _ I1 (turn n σ1 H1 w1)) fun b s2 ⟨H2, I2, q2⟩ => ?_)
  cases b with
  | true =>
    obtain ⟨N, hN, q2⟩ := q2
    rw [if_pos rfl]
    refine wpAny_passesOwn hp (thn (hb pins s2 σ1 H2 _ I2 q2) fun f s3 q3 => ?_)
    cases f with
    | next =>
      obtain ⟨σ3, H3, I3, n3⟩ := q3
      obtain ⟨m', hm, w3⟩ := hN σ3 H3 n3
      exact ⟨m', hm, σ3, H3, I3, w3⟩
    | cont =>
      obtain ⟨σ3, H3, I3, n3⟩ := q3
      obtain ⟨m', hm, w3⟩ := hN σ3 H3 n3
      exact ⟨m', hm, σ3, H3, I3, w3⟩
    | brk => exact q3
    | ret v => exact q3
  | false =>
    rw [if_neg Bool.false_ne_true]
    exact wpAny_execs_nil ⟨σ1, H2, I2, q2⟩
end

/-! ### what a loop or a comprehension walks -/
/-- at turn i: it yields x (the heap may grow), or it stops -/
structure It where
  go : Nat → Hp → Prop
  yld : Nat → Hp → V → Hp → Prop
  stop : Nat → Hp → Prop
/-- the iterator's own objects may turn: they are not the frame's, not pinned, younger than the entry (or a comprehension's own) -/
def FpOk (X : Cx) (pins : List (Addr × Obj)) (H : Hp) (b : Addr) : Prop :=
  H b = none ∧ b ≠ X.env.locals ∧ b ∉ X.fs ∧ (b ∈ X.ex ∨ X.s_0.heap.objs.size ≤ b) ∧ (∀ x c, X.env.cells.lookup x = some c → c ≠ b) ∧ ∀ p ∈ X.pn ++ pins, p.1 ≠ b
theorem Inv.fpOk {X : Cx} {pins : List (Addr × Obj)} {σ : St} {H H' : Hp} {s : Shared} {b : Addr} (I : Inv X pins σ H s) (hb : s.heap.objs.size ≤ b) (hn : H' b = none) : FpOk X pins H' b := by
  refine ⟨hn, Nat.ne_of_gt (Nat.lt_of_lt_of_le I.lt hb), I.nofs hb, .inr (Nat.le_trans I.sz hb), fun x c e z => ?_, fun p hp z => ?_⟩
  · obtain ⟨v, q⟩ := I.cell x c e
    exact absurd (Nat.lt_of_lt_of_le q.lt (by rw [z]; exact hb)) (Nat.lt_irrefl _)
  · exact absurd (Nat.lt_of_lt_of_le (Heap.lt_size (I.pin p hp).1) (by rw [z]; exact hb)) (Nat.lt_irrefl _)
structure Turn (P : Program) (w : World) (K : PySem.W.Frag) (tg : Expr) (J : It) (fp : List Addr) (it : Addr) (tn : Nat → Heap → Prop) : Prop where
  mem : it ∈ fp
  obj : ∀ i h, tn i h → ∀ b ∈ fp, ∃ o, h.get? b = some o ∧ ∀ v, o.data ≠ .cell v
  keep : ∀ i h h', tn i h → (∀ b ∈ fp, ∀ o, h.get? b = some o → h'.get? b = some o) → tn i h'
  item : ∀ (X : Cx), X.prog = P → X.w = w → X.K = K → X.calm = true → ∀ (i : Nat) (pins : List (Addr × Obj)) (s : Shared) (σ : St) (H : Hp) (E : Value → Shared → Prop), Inv X pins σ H s → (∀ b ∈ fp, FpOk X pins H b) → tn i s.heap → J.go i H →
    wpAny (model P w) X.A (pyNext (.ref it)) (fun r s1 => ∃ u, r = some u ∧
      wpAny (model P w) X.A (letOwnedTupleGo tg (.ref it) u) (fun _ s2 => ∃ x H', Inv X pins σ H' s2 ∧ RelV x u ∧ J.yld i H x H' ∧ tn (i + 1) s2.heap ∧ ∀ b ∈ fp, H' b = none) E s1) E s
  done : ∀ (X : Cx), X.prog = P → X.w = w → X.K = K → X.calm = true → ∀ (i : Nat) (pins : List (Addr × Obj)) (s : Shared) (σ : St) (H : Hp) (E : Value → Shared → Prop), Inv X pins σ H s → (∀ b ∈ fp, FpOk X pins H b) → tn i s.heap → J.stop i H →
    wpAny (model P w) X.A (pyNext (.ref it)) (fun r s1 => r = none ∧ Inv X pins σ H s1) E s
  self : ∀ (A : Around) (i : Nat) (s : Shared) (Q : Value → Shared → Prop) (E : Value → Shared → Prop), tn i s.heap → Q (.ref it) s → wpAny (model P w) A (pyIter (.ref it)) Q E s
abbrev TI := St → Hp → (It → Hp → Prop) → Prop
/-- an iterator has come -/
def PIE (X : Cx) (pins : List (Addr × Obj)) (σ : St) (tg : Expr) (R : It → Hp → Prop) (itv : Value) (s2 : Shared) : Prop :=
  ∃ (it : Addr) (fp : List Addr) (tn : Nat → Heap → Prop) (J : It) (H' : Hp), itv = .ref it ∧ Inv X pins σ H' s2 ∧ Turn X.prog X.w X.K tg J fp it tn ∧ tn 0 s2.heap ∧ (∀ b ∈ fp, FpOk X pins H' b) ∧ R J H'
def PI (X : Cx) (tg iter : Expr) (wi : TI) : Prop :=
  ∀ (pins : List (Addr × Obj)) (s : Shared) (σ : St) (H : Hp) (R : It → Hp → Prop), Inv X pins σ H s → wi σ H R →
    wpAny (model X.prog X.w) X.A (eval iter X.env) (fun v s1 => wpAny (model X.prog X.w) X.A (pyIter v) (PIE X pins σ tg R) X.xe s1) X.xe s

/-- the step ahead of the store is nothing for an iterator that keeps no tuple -/
theorem go_of {M : Model} {A : Around} {E : Value → Shared → Prop} {s : Shared} {tg : Expr} {it : Addr} {u : Value} {o : Obj} {n : String} {vs : Array Value} {Q : Unit → Shared → Prop} (ho : s.heap.get? it = some o) (hc : o.cls = .type n) (hd : o.data = .fields vs)
    (hn : ["enumerate", "zip", "dict_itemiterator", "dict_reverseitemiterator", "odict_iterator", "itertools.zip_longest", "itertools.pairwise"].contains n = false) (hQ : Q () s) : wpAny M A (letOwnedTupleGo tg (.ref it) u) Q E s := by
  unfold letOwnedTupleGo
  cases tg <;> first
    | exact wpAny_pure hQ
    | (cases u <;> first
        | exact wpAny_pure hQ
        | (refine wpAny_bind (wpAny_load ho ?_)
           rw [hc, hd]
           show wpAny M A (if (["enumerate", "zip", "dict_itemiterator", "dict_reverseitemiterator", "odict_iterator", "itertools.zip_longest", "itertools.pairwise"].contains n && vs[0]? == some (rawInt _)) = true then _ else _) Q E s
           rw [if_neg (by intro h; rw [hn, Bool.false_and] at h; cases h)]
           exact wpAny_pure hQ))

/-- the list at a, as it stands at each turn (a loop may append to it) -/
def Itl (K : PySem.W.Frag) (a : Addr) : It :=
  ⟨fun i H => ∃ xs x, SqL K H a xs ∧ xs[i]? = some x, fun i H x H' => H' = H ∧ ∀ xs, SqL K H a xs → xs[i]? = some x, fun i H => ∃ xs, SqL K H a xs ∧ xs.length ≤ i⟩
def Itt (K : PySem.W.Frag) (a : Addr) : It :=
  ⟨fun i H => ∃ xs x, SqT K H a xs ∧ xs[i]? = some x, fun i H x H' => H' = H ∧ ∀ xs, SqT K H a xs → xs[i]? = some x, fun i H => ∃ xs, SqT K H a xs ∧ xs.length ≤ i⟩
/-- lo, lo + 1, .. (n of them) -/
def Itr (lo : Int) (n : Nat) : It := ⟨fun i _ => i < n, fun i H x H' => H' = H ∧ x = .int (lo + i), fun i _ => n ≤ i⟩
theorem turn_list {P : Program} {w : World} {K : PySem.W.Frag} {tg : Expr} (a it : Addr) : Turn P w K tg (Itl K a) [it] it (fun i h => h.IsListIter it a i) where
  mem := by simp
  obj := fun i h st b hb => by
    have e : b = it := by simpa using hb
    subst e
    obtain ⟨o, e, c, d⟩ := st
    exact ⟨o, e, fun v z => by rw [d] at z; cases z⟩
  keep := fun i h h' st k => st.at fun o e => k it (by simp) o e
  item := by
    intro X hP hw hK hc i pins s σ H E I hf st hg
    subst hP hw hK
    obtain ⟨xs, x, hq, hx⟩ := hg
    obtain ⟨its, rv, p, hz⟩ := I.list hq
    obtain ⟨u, hu, ru⟩ := rv.get hx
    obtain ⟨f0, f1, f2, f3, f4, f5⟩ := hf it (by simp)
    refine wpAny_pyNext_list_item st p.isList (x := u) (by simpa using hu) fun h' st' sb => ?_
    have I1 : Inv X pins σ H { s with heap := h' } := I.turned (t' := s.toks) (fun b o hb e => (sb.2 b hb).trans e) f0 f1 f3 f4 f5
    obtain ⟨o, e, c, d⟩ := id st'
    exact ⟨u, rfl, go_of (s := { s with heap := h' }) e c d (by decide) ⟨x, H, I1, ru, ⟨rfl, fun ys hy => by rw [I.list_inj hy hq]; exact hx⟩, st', fun b hb => (hf b hb).1⟩⟩
  done := by
    intro X hP hw hK hc i pins s σ H E I hf st hg
    subst hP hw hK
    obtain ⟨xs, hq, hx⟩ := hg
    obtain ⟨its, rv, p, hz⟩ := I.list hq
    obtain ⟨f0, f1, f2, f3, f4, f5⟩ := hf it (by simp)
    have hl := rv.length
    exact wpAny_pyNext_list_end (I.ok.hd hc) st p.isList (by simp; omega) fun h' eb => ⟨rfl, I.turned (t' := s.toks) (fun b o hb e => eb b o hb e) f0 f1 f3 f4 f5⟩
  self := fun _ _ _ _ _ st h => wpAny_pyIter_listiter st h
theorem turn_tuple {P : Program} {w : World} {K : PySem.W.Frag} {tg : Expr} (a it : Addr) : Turn P w K tg (Itt K a) [it] it (fun i h => h.IsTupleIter it a i) where
  mem := by simp
  obj := fun i h st b hb => by
    have e : b = it := by simpa using hb
    subst e
    obtain ⟨o, e, c, d⟩ := st
    exact ⟨o, e, fun v z => by rw [d] at z; cases z⟩
  keep := fun i h h' st k => st.at fun o e => k it (by simp) o e
  item := by
    intro X hP hw hK hc i pins s σ H E I hf st hg
    subst hP hw hK
    obtain ⟨xs, x, hq, hx⟩ := hg
    obtain ⟨its, rv, p, hz⟩ := I.tuple hq
    obtain ⟨u, hu, ru⟩ := rv.get hx
    obtain ⟨f0, f1, f2, f3, f4, f5⟩ := hf it (by simp)
    refine wpAny_pyNext_tuple_item st (show s.heap.IsTuple a its.toArray from p) (x := u) (by simpa using hu) fun h' st' sb => ?_
    have I1 : Inv X pins σ H { s with heap := h' } := I.turned (t' := s.toks) (fun b o hb e => (sb.2 b hb).trans e) f0 f1 f3 f4 f5
    obtain ⟨o, e, c, d⟩ := id st'
    exact ⟨u, rfl, go_of (s := { s with heap := h' }) e c d (by decide) ⟨x, H, I1, ru, ⟨rfl, fun ys hy => by rw [I.tuple_inj hy hq]; exact hx⟩, st', fun b hb => (hf b hb).1⟩⟩
  done := by
    intro X hP hw hK hc i pins s σ H E I hf st hg
    subst hP hw hK
    obtain ⟨xs, hq, hx⟩ := hg
    obtain ⟨its, rv, p, hz⟩ := I.tuple hq
    obtain ⟨f0, f1, f2, f3, f4, f5⟩ := hf it (by simp)
    have hl := rv.length
    exact wpAny_pyNext_tuple_end (I.ok.hd hc) st (show s.heap.IsTuple a its.toArray from p) (by simp; omega) fun h' eb => ⟨rfl, I.turned (t' := s.toks) (fun b o hb e => eb b o hb e) f0 f1 f3 f4 f5⟩
  self := fun _ _ _ _ _ st h => wpAny_pyIter_tupleiter st h
theorem turn_range {P : Program} {w : World} {K : PySem.W.Frag} {tg : Expr} (it : Addr) (lo : Int) (n : Nat) : Turn P w K tg (Itr lo n) [it] it (fun i h => IsRangeIter h it (lo + (i : Nat) * 1) ((n : Int) - (i : Nat)) 1) where
  mem := by simp
  obj := fun i h st b hb => by
    have e : b = it := by simpa using hb
    subst e
    exact ⟨_, st, fun v z => by
      have z' : Data.fields _ = Data.cell v := z
      cases z'⟩
  keep := fun i h h' st k => k it (by simp) _ st
  item := by
    intro X hP hw hK hc i pins s σ H E I hf st hg
    subst hP hw hK
    obtain ⟨f0, f1, f2, f3, f4, f5⟩ := hf it (by simp)
    have W := Walks.range (prog := X.prog) (w := X.w) (I.ok.hd hc) it lo 1 n
    refine W.item i s _ _ hg st fun v h' tk hv st' kk => ?_
    obtain ⟨t, rfl⟩ := hv
    have I1 : Inv X pins σ H { s with heap := h', toks := tk } := I.turned (fun b o hb e => kk b o (by simpa using hb) e) f0 f1 f3 f4 f5
    refine ⟨_, rfl, go_of (s := { s with heap := h', toks := tk }) (n := "range_iterator") st' rfl rfl (by decide) ⟨.int (lo + i), H, I1, ⟨t, ?_⟩, ⟨rfl, rfl⟩, st', fun b hb => (hf b hb).1⟩⟩
    rw [Int.mul_one]
  done := by
    intro X hP hw hK hc i pins s σ H E I hf st hg
    subst hP hw hK
    obtain ⟨f0, f1, f2, f3, f4, f5⟩ := hf it (by simp)
    exact wpAny_pyNext_range_end (I.ok.hd hc) st (by have : n ≤ i := hg; omega) fun h' eb => ⟨rfl, I.turned (t' := s.toks) (fun b o hb e => eb b o hb e) f0 f1 f3 f4 f5⟩
  self := fun _ _ _ _ _ st h => wpAny_pyIter_rangeiter st h
end L2

namespace L2
open PySem PySem.Spec PyProof.Rows
section
variable {X : Cx} {tg : Expr}
def iList (K : PySem.W.Frag) (tl : TE) : TI := fun σ H R => tl σ H fun x H1 => ∃ a, x = .ref a ∧ (∃ xs, SqL K H1 a xs) ∧ R (Itl K a) H1
def iTup (K : PySem.W.Frag) (tl : TE) : TI := fun σ H R => tl σ H fun x H1 => ∃ a, x = .ref a ∧ (∃ xs, SqT K H1 a xs) ∧ R (Itt K a) H1
theorem pi_list {l : Expr} {tl : TE} (hl : PE X l tl) : PI X tg l (iList X.K tl) := by
  intro pins s σ H R I h
  refine thn (hl pins s σ H _ I h) fun v s1 ⟨x, H1, I1, r1, q1⟩ => ?_
  obtain ⟨a, e, ⟨xs, hq⟩, q⟩ := q1
  subst e
  cases r1
  obtain ⟨its, rv, p, hz⟩ := I1.list hq
  refine wpAny_pyIter_list p.isList ?_
  refine ⟨s1.heap.objs.size, [s1.heap.objs.size], _, _, H1, rfl, I1.kept (t' := s1.toks) fun b o e => Heap.get?_push_of_some _ e, turn_list a _, ⟨_, Heap.get?_push_size _ rfl, rfl, rfl⟩, fun b hb => ?_, q⟩
  have e : b = s1.heap.objs.size := by simpa using hb
  subst e
  exact I1.fpOk (Nat.le_refl _) (I1.hok.fresh (Nat.le_refl _))
theorem pi_tup {l : Expr} {tl : TE} (hl : PE X l tl) : PI X tg l (iTup X.K tl) := by
  intro pins s σ H R I h
  refine thn (hl pins s σ H _ I h) fun v s1 ⟨x, H1, I1, r1, q1⟩ => ?_
  obtain ⟨a, e, ⟨xs, hq⟩, q⟩ := q1
  subst e
  cases r1
  obtain ⟨its, rv, p, hz⟩ := I1.tuple hq
  refine wpAny_pyIter_tuple (show s1.heap.IsTuple a its.toArray from p) ?_
  refine ⟨s1.heap.objs.size, [s1.heap.objs.size], _, _, H1, rfl, I1.kept (t' := s1.toks) fun b o e => Heap.get?_push_of_some _ e, turn_tuple a _, ⟨_, Heap.get?_push_size _ rfl, rfl, rfl⟩, fun b hb => ?_, q⟩
  have e : b = s1.heap.objs.size := by simpa using hb
  subst e
  exact I1.fpOk (Nat.le_refl _) (I1.hok.fresh (Nat.le_refl _))
/-- a range object just made, walked -/
theorem range_it {pins : List (Addr × Obj)} {σ : St} {H : Hp} {s : Shared} {R : It → Hp → Prop} {E : Value → Shared → Prop} {lo hi : Int} {t u v : Tok} {tk : Nat} (I : Inv X pins σ H s) (h1 : -(2 ^ 62) ≤ lo) (h2 : lo < 2 ^ 62) (h3 : -(2 ^ 62) ≤ hi) (h4 : hi < 2 ^ 62)
    (q : R (Itr lo (hi - lo).toNat) H) : wpAny (model X.prog X.w) X.A (pyIter (.ref s.heap.objs.size)) (PIE X pins σ tg R) E { s with heap := s.heap.push { cls := .type "range", data := .fields #[.int lo t, .int hi u, .int 1 v] }, toks := tk } := by
  refine wpAny_pyIter_range (IsRange.new ..) (small_one h1 h2 h3 h4) ?_
  have I1 : Inv X pins σ H { s with heap := s.heap.push { cls := .type "range", data := .fields #[.int lo t, .int hi u, .int 1 v] }, toks := tk } := I.kept fun b o e => Heap.get?_push_of_some _ e
  refine ⟨(s.heap.push { cls := .type "range", data := .fields #[.int lo t, .int hi u, .int 1 v] }).objs.size, [(s.heap.push { cls := .type "range", data := .fields #[.int lo t, .int hi u, .int 1 v] }).objs.size], _, _, H, rfl,
    I1.kept (t' := tk) fun b o e => Heap.get?_push_of_some _ e, turn_range _ lo (hi - lo).toNat, ?_, fun b hb => ?_, q⟩
  · have e1 : lo + ((0 : Nat) : Int) * 1 = lo := by simp
    have e2 : (((hi - lo).toNat : Nat) : Int) - ((0 : Nat) : Int) = Builtin.Range.rangeSize lo hi 1 := by rw [rangeSize_one]; split <;> omega
    show IsRangeIter _ _ (lo + ((0 : Nat) : Int) * 1) ((((hi - lo).toNat : Nat) : Int) - ((0 : Nat) : Int)) 1
    rw [e1, e2]
    exact Heap.get?_push_size _ rfl
  · have e : b = (s.heap.push { cls := .type "range", data := .fields #[.int lo t, .int hi u, .int 1 v] }).objs.size := by simpa using hb
    subst e
    exact I1.fpOk (Nat.le_refl _) (I1.hok.fresh (Nat.le_refl _))
def iRng1 (ta : TA) : TI := fun σ H R => ta σ H fun vs H1 => ∃ j : Int, vs = [.int j] ∧ -(2 ^ 62) ≤ j ∧ j < 2 ^ 62 ∧ R (Itr 0 j.toNat) H1
theorem pi_range1 {a : Expr} {ta : TA} {p pos : Pos} (hg : Gl X "range") (hm : X.mg "range" = none) (ha : PA X [a] ta) (hs : starEach [a] X.env = [(false, eval a X.env)] := by rfl) : PI X tg (.Call (.Name "range" p) [a] [] pos) (iRng1 ta) := by
  intro pins s σ H R I h
  refine Call_ (ld_blt I hg hm boot_range (PyProof.Rows.callWith_type1 (thn (ha pos pins s σ H _ I h) fun us s1 ⟨vs, H1, I1, r1, q1⟩ => ?_) hs rfl))
  obtain ⟨j, e, q1, q2, q⟩ := q1
  subst e
  cases r1 with
  | cons r rr =>
    cases rr
    obtain ⟨t, rfl⟩ := r
    exact call_range_1 (range_it I1 (by omega) (by omega) q1 q2 (by simpa using q))
/-! ### for -/
/-- W: the invariant by the turn and a measure; N: what the body is to reach -/
def tFor (wi : TI) (g : TG) (tb : TS) : TS := fun D σ H => wi σ H fun J H1 => ∃ W : Nat → Nat → St → Hp → Prop, (∃ m, W 0 m σ H1) ∧ ∀ i m σ H, W i m σ H →
  (J.stop i H ∧ D.nx σ H) ∨ (J.go i H ∧ ∃ N : St → Hp → Prop, (∀ σ' H', N σ' H' → ∃ m', m' < m ∧ W (i + 1) m' σ' H') ∧ ∀ x H', J.yld i H x H' → g x σ H' fun σ2 H2 => tb { D with nx := N, ct := N, bk := D.nx } σ2 H2)
/-- the records at fp as they stand -/
def pinsAt (fp : List Addr) (h : Heap) : List (Addr × Obj) := fp.filterMap fun b => (h.get? b).map fun o => (b, o)
theorem mem_pinsAt {fp : List Addr} {h : Heap} {b : Addr} {o : Obj} (hb : b ∈ fp) (e : h.get? b = some o) : (b, o) ∈ pinsAt fp h := List.mem_filterMap.mpr ⟨b, hb, by rw [e]; rfl⟩
theorem of_pinsAt {fp : List Addr} {h : Heap} {p : Addr × Obj} (hp : p ∈ pinsAt fp h) : p.1 ∈ fp ∧ h.get? p.1 = some p.2 := by
  obtain ⟨b, hb, e⟩ := List.mem_filterMap.mp hp
  cases q : h.get? b with
  | none => rw [q] at e; cases e
  | some o =>
    rw [q] at e
    have e' : (b, o) = p := Option.some.inj e
    subst e'
    exact ⟨hb, q⟩
theorem Inv.pinned {pins : List (Addr × Obj)} {σ : St} {H : Hp} {s : Shared} {fp : List Addr} (I : Inv X pins σ H s) (hf : ∀ b ∈ fp, FpOk X pins H b) (ho : ∀ b ∈ fp, ∃ o, s.heap.get? b = some o ∧ ∀ v, o.data ≠ .cell v) : Inv X (pins ++ pinsAt fp s.heap) σ H s :=
  I.pins_of fun p hp => (List.mem_append.mp hp).elim (fun z => I.pin p (List.mem_append_right _ z)) fun z => by
    obtain ⟨hb, e⟩ := of_pinsAt z
    obtain ⟨f0, f1, f2, _⟩ := hf p.1 hb
    obtain ⟨o, e', d⟩ := ho p.1 hb
    rw [e] at e'; cases e'
    exact ⟨e, f0, f1, f2, d⟩
theorem Inv.unpinned {pins pl : List (Addr × Obj)} {σ : St} {H : Hp} {s : Shared} (I : Inv X (pins ++ pl) σ H s) : Inv X pins σ H s := I.pins_of fun p hp => I.pin p (List.mem_append_right _ (List.mem_append_left _ hp))
theorem ps_for {iter : Expr} {body : List Stmt} {wi : TI} {g : TG} {tb : TS} {pos : Pos} (hp : PassesOwn (model X.prog X.w) X.A X.env X.xe) (hc : X.calm = true) (hi : PI X tg iter wi) (hg : PG X tg g) (hb : PSs X body tb)
    (hs : ∀ x, foldedSetIterable iter X.env x = pure x := by intro _; rfl) : PS X (.For tg iter body [] pos) (tFor wi g tb) := by
  intro pins s σ H D I h
  refine wpAny_For (thn (hi pins s σ H _ I h) fun v s1 h1 => thn h1 fun itv s2 h2 => ?_) hs
  obtain ⟨it, fp, tn, J, H2, e, I2, T, st2, f2, W, ⟨m0, w0⟩, turn⟩ := h2
  subst e
  -- what stays true of the iterator's objects through the loop
  have stat : ∀ {H' : Hp}, (∀ b ∈ fp, H' b = none) → ∀ b ∈ fp, FpOk X pins H' b := fun hn b hb => ⟨hn b hb, (f2 b hb).2⟩
  refine codeAny_forLoop_any (fun n s' => ∃ i σ' H', Inv X pins σ' H' s' ∧ tn i s'.heap ∧ (∀ b ∈ fp, H' b = none) ∧ W i n σ' H') ?_ m0 ⟨0, σ, H2, I2, st2, fun b hb => (f2 b hb).1, w0⟩
  rintro n s3 ⟨i, σ3, H3, I3, st3, fr3, w3⟩
  rcases turn i n σ3 H3 w3 with ⟨stop, qn⟩ | ⟨go, N, hN, step⟩
  · refine wpAny_passesOwn hp (thn (T.done X rfl rfl rfl hc i pins s3 σ3 H3 X.xe I3 (stat fr3) st3 stop) fun r s4 ⟨hr, I4⟩ => ?_)
    subst hr
    exact wpAny_execs_nil ⟨σ3, H3, I4, qn⟩
  · refine wpAny_passesOwn hp (thn (T.item X rfl rfl rfl hc i pins s3 σ3 H3 X.xe I3 (stat fr3) st3 go) fun r s4 ⟨u, hr, h4⟩ => ?_)
    subst hr
    refine wpAny_passesOwn hp (thn h4 fun _ s5 ⟨x, H5, I5, r5, y5, st5, fr5⟩ => ?_)
    have I5' := I5.pinned (stat fr5) (T.obj _ _ st5)
    refine wpAny_passesOwn hp (thn (hg _ s5 σ3 H5 x u _ I5' r5 (step x H5 y5)) fun _ s6 ⟨σ6, H6, I6, q6⟩ => ?_)
    refine wpAny_passesOwn hp (thn (hb _ s6 σ6 H6 _ I6 q6) fun f s7 q7 => ?_)
    have again : ∀ {σ7 : St} {H7 : Hp}, Inv X (pins ++ pinsAt fp s5.heap) σ7 H7 s7 → N σ7 H7 → ∃ m, m < n ∧ ∃ i σ' H', Inv X pins σ' H' s7 ∧ tn i s7.heap ∧ (∀ b ∈ fp, H' b = none) ∧ W i m σ' H' := fun {σ7 H7} I7 n7 => by
      obtain ⟨m', hm, w7⟩ := hN σ7 H7 n7
      refine ⟨m', hm, i + 1, σ7, H7, I7.unpinned, T.keep _ _ _ st5 fun b hb o e => (I7.pin (b, o) (List.mem_append_right _ (List.mem_append_right _ (mem_pinsAt hb e)))).1, fun b hb => ?_, w7⟩
      obtain ⟨o, e, d⟩ := T.obj _ _ st5 b hb
      exact (I7.pin (b, o) (List.mem_append_right _ (List.mem_append_right _ (mem_pinsAt hb e)))).2.1
    cases f with
    | next => obtain ⟨σ7, H7, I7, n7⟩ := q7; exact again I7 n7
    | cont => obtain ⟨σ7, H7, I7, n7⟩ := q7; exact again I7 n7
    | brk => obtain ⟨σ7, H7, I7, q7⟩ := q7; exact ⟨σ7, H7, I7.unpinned, q7⟩
    | ret v => obtain ⟨x7, σ7, H7, I7, r7, q7⟩ := q7; exact ⟨x7, σ7, H7, I7.unpinned, r7, q7⟩
end

/-! ### the forms one uses -/
/-- over a list that the body leaves as it is -/
theorem for_list {K : PySem.W.Frag} {a : Addr} {xs : List V} {g : TG} {tb : TS} {D : Ends} {σ : St} {H : Hp} (Pv : Nat → St → Hp → Prop) (h0 : Pv 0 σ H) (hl : ∀ i σ H, i ≤ xs.length → Pv i σ H → SqL K H a xs)
    (hs : ∀ i x σ H, xs[i]? = some x → Pv i σ H → g x σ H fun σ2 H2 => tb { D with nx := Pv (i + 1), ct := Pv (i + 1), bk := D.nx } σ2 H2) (hd : ∀ σ H, Pv xs.length σ H → D.nx σ H) :
    ∃ W : Nat → Nat → St → Hp → Prop, (∃ m, W 0 m σ H) ∧ ∀ i m σ H, W i m σ H →
      ((Itl K a).stop i H ∧ D.nx σ H) ∨ ((Itl K a).go i H ∧ ∃ N : St → Hp → Prop, (∀ σ' H', N σ' H' → ∃ m', m' < m ∧ W (i + 1) m' σ' H') ∧ ∀ x H', (Itl K a).yld i H x H' → g x σ H' fun σ2 H2 => tb { D with nx := N, ct := N, bk := D.nx } σ2 H2) := by
  refine ⟨fun i m σ H => m = xs.length - i ∧ i ≤ xs.length ∧ Pv i σ H, ⟨xs.length, by simp, Nat.zero_le _, h0⟩, ?_⟩
  rintro i m σ H ⟨rfl, hi, p⟩
  have q := hl i σ H hi p
  by_cases hlt : i < xs.length
  · refine .inr ⟨⟨xs, xs[i], q, by simp [hlt]⟩, Pv (i + 1), fun σ' H' p' => ⟨xs.length - (i + 1), by omega, rfl, hlt, p'⟩, fun x H' y => ?_⟩
    obtain ⟨e, y⟩ := y
    subst e
    exact hs i x σ _ (y xs q) p
  · have e : i = xs.length := by omega
    subst e
    exact .inl ⟨⟨xs, q, Nat.le_refl _⟩, hd σ H p⟩
theorem for_range {lo : Int} {n : Nat} {g : TG} {tb : TS} {D : Ends} {σ : St} {H : Hp} (Pv : Nat → St → Hp → Prop) (h0 : Pv 0 σ H)
    (hs : ∀ i σ H, i < n → Pv i σ H → g (.int (lo + i)) σ H fun σ2 H2 => tb { D with nx := Pv (i + 1), ct := Pv (i + 1), bk := D.nx } σ2 H2) (hd : ∀ σ H, Pv n σ H → D.nx σ H) :
    ∃ W : Nat → Nat → St → Hp → Prop, (∃ m, W 0 m σ H) ∧ ∀ i m σ H, W i m σ H →
      ((Itr lo n).stop i H ∧ D.nx σ H) ∨ ((Itr lo n).go i H ∧ ∃ N : St → Hp → Prop, (∀ σ' H', N σ' H' → ∃ m', m' < m ∧ W (i + 1) m' σ' H') ∧ ∀ x H', (Itr lo n).yld i H x H' → g x σ H' fun σ2 H2 => tb { D with nx := N, ct := N, bk := D.nx } σ2 H2) := by
  refine ⟨fun i m σ H => m = n - i ∧ i ≤ n ∧ Pv i σ H, ⟨n, by simp, Nat.zero_le _, h0⟩, ?_⟩
  rintro i m σ H ⟨rfl, hi, p⟩
  by_cases hlt : i < n
  · refine .inr ⟨hlt, Pv (i + 1), fun σ' H' p' => ⟨n - (i + 1), by omega, rfl, hlt, p'⟩, fun x H' y => ?_⟩
    obtain ⟨e, y⟩ := y
    subst e y
    exact hs i σ _ hlt p
  · have e : i = n := by omega
    subst e
    exact .inl ⟨Nat.le_refl _, hd σ H p⟩
end L2

namespace L2
open PySem PySem.Spec PyProof.Rows

abbrev R2 := V → V → Hp → VK → Prop
/-- a two-place operation on values: f is binaryOp op, inplaceOp op or compareOp op -/
def OpR (X : Cx) (f : Value → Value → Sem Value) (r : R2) : Prop :=
  ∀ (pins : List (Addr × Obj)) (s : Shared) (σ : St) (H : Hp) (x y : V) (v u : Value) (Q : VK), Inv X pins σ H s → RelV x v → RelV y u → r x y H Q →
    wpAny (model X.prog X.w) X.A (f v u) (EP X pins σ Q) X.xe s
/-- a one-place operation -/
def UnR (X : Cx) (f : Value → Sem Value) (r : V → Hp → VK → Prop) : Prop :=
  ∀ (pins : List (Addr × Obj)) (s : Shared) (σ : St) (H : Hp) (x : V) (v : Value) (Q : VK), Inv X pins σ H s → RelV x v → r x H Q →
    wpAny (model X.prog X.w) X.A (f v) (EP X pins σ Q) X.xe s
/-- a call of a value that is known (a builtin, a type) with values -/
def CallR (X : Cx) (f : Value) (r : List V → Hp → VK → Prop) : Prop :=
  ∀ (pins : List (Addr × Obj)) (s : Shared) (σ : St) (H : Hp) (xs : List V) (us : List Value) (Q : VK), Inv X pins σ H s → Vals xs us → r xs H Q →
    wpAny (model X.prog X.w) X.A (call f us) (EP X pins σ Q) X.xe s
def tOp (r : R2) (ta tb : TE) : TE := fun σ H Q => ta σ H fun x H1 => tb σ H1 fun y H2 => r x y H2 Q
def tUn (r : V → Hp → VK → Prop) (ta : TE) : TE := fun σ H Q => ta σ H fun x H1 => r x H1 Q
/-- ints in, under C, and a value out -/
def rI (C : Int → Int → Prop) (g : Int → Int → V) : R2 := fun x y H Q => ∃ i j, x = .int i ∧ y = .int j ∧ C i j ∧ Q (g i j) H
def rI0 (g : Int → Int → V) : R2 := fun x y H Q => ∃ i j, x = .int i ∧ y = .int j ∧ Q (g i j) H
def rU (g : Int → V) : V → Hp → VK → Prop := fun x H Q => ∃ i, x = .int i ∧ Q (g i) H

section
variable {X : Cx} {a b c : Expr} {ta tb tc : TE} {pos : Pos}

theorem binT (ha : PE X a ta) (hb : PE X b tb) {pins : List (Addr × Obj)} {s : Shared} {σ : St} {H : Hp} {R : V → V → Hp → Prop} (I : Inv X pins σ H s)
    (h : ta σ H fun x H1 => tb σ H1 fun y H2 => R x y H2) {Q : Value → Shared → Prop} {f : Value → Value → Sem Value}
    (hf : ∀ v u s2 x y H2, Inv X pins σ H2 s2 → RelV x v → RelV y u → R x y H2 → wpAny (model X.prog X.w) X.A (f v u) Q X.xe s2) :
    wpAny (model X.prog X.w) X.A (eval a X.env) (fun v s₁ => wpAny (model X.prog X.w) X.A (eval b X.env) (fun u s₂ => wpAny (model X.prog X.w) X.A (f v u) Q X.xe s₂) X.xe s₁) X.xe s := by
  refine thn (ha pins s σ H _ I h) fun v s1 ⟨x, H1, I1, r1, q1⟩ => ?_
  refine thn (hb pins s1 σ H1 _ I1 q1) fun u s2 ⟨y, H2, I2, r2, q2⟩ => ?_
  exact hf v u s2 x y H2 I2 r1 r2 q2

theorem pe_op {op : Operator} {r : R2} (ho : OpR X (binaryOp op) r) (ha : PE X a ta) (hb : PE X b tb) : PE X (.BinOp a op b pos) (tOp r ta tb) := by
  intro pins s σ H Q I h
  exact wpAny_BinOp (binT ha hb I h fun v u s2 x y H2 I2 rx ry q => ho pins s2 σ H2 x y v u Q I2 rx ry q)
theorem pe_un {op : UnaryOp} {r : V → Hp → VK → Prop} (ho : UnR X (unaryOp op) r) (ha : PE X a ta) : PE X (.UnaryOp op a pos) (tUn r ta) := by
  intro pins s σ H Q I h
  exact UnaryOp_ (thn (ha pins s σ H _ I h) fun v s1 ⟨x, H1, I1, r1, q1⟩ => ho pins s1 σ H1 x v Q I1 r1 q1)
/-! ### ints -/
theorem opI {f : Value → Value → Sem Value} {C : Int → Int → Prop} {g : Int → Int → Int}
    (rule : ∀ (i j : Int) (t u : Tok) (s : Shared) (Q : Value → Shared → Prop) (E : Value → Shared → Prop), C i j → Q (.int (g i j) s.toks) { s with toks := s.toks + 1 } → wpAny (model X.prog X.w) X.A (f (.int i t) (.int j u)) Q E s) :
    OpR X f (rI C fun i j => .int (g i j)) := by
  intro pins s σ H x y v u Q I rx ry h
  obtain ⟨i, j, rfl, rfl, hc, q⟩ := h
  obtain ⟨t, rfl⟩ := rx
  obtain ⟨t', rfl⟩ := ry
  exact rule i j t t' s _ _ hc ⟨.int (g i j), H, I.tok _, ⟨_, rfl⟩, q⟩
theorem opI0 {f : Value → Value → Sem Value} {g : Int → Int → Int}
    (rule : ∀ (i j : Int) (t u : Tok) (s : Shared) (Q : Value → Shared → Prop) (E : Value → Shared → Prop), Q (.int (g i j) s.toks) { s with toks := s.toks + 1 } → wpAny (model X.prog X.w) X.A (f (.int i t) (.int j u)) Q E s) :
    OpR X f (rI0 fun i j => .int (g i j)) := by
  intro pins s σ H x y v u Q I rx ry h
  obtain ⟨i, j, rfl, rfl, q⟩ := h
  obtain ⟨t, rfl⟩ := rx
  obtain ⟨t', rfl⟩ := ry
  exact rule i j t t' s _ _ ⟨.int (g i j), H, I.tok _, ⟨_, rfl⟩, q⟩
theorem opB0 {f : Value → Value → Sem Value} {g : Int → Int → Bool}
    (rule : ∀ (i j : Int) (t u : Tok) (s : Shared) (Q : Value → Shared → Prop) (E : Value → Shared → Prop), Q (.bool (g i j)) s → wpAny (model X.prog X.w) X.A (f (.int i t) (.int j u)) Q E s) :
    OpR X f (rI0 fun i j => .bl (g i j)) := by
  intro pins s σ H x y v u Q I rx ry h
  obtain ⟨i, j, rfl, rfl, q⟩ := h
  obtain ⟨t, rfl⟩ := rx
  obtain ⟨t', rfl⟩ := ry
  exact rule i j t t' s _ _ ⟨.bl (g i j), H, I, rfl, q⟩

def CPow (i j : Int) : Prop := 0 ≤ j ∧ j ≤ 1000000 ∧ i.natAbs < 2 ^ 64
def CMul (i j : Int) : Prop := (-(2 ^ 64) < i ∧ i < 2 ^ 64) ∨ (-(2 ^ 64) < j ∧ j < 2 ^ 64)
theorem CMul.ok {i j : Int} (h : CMul i j) : IntMulOk i j := by
  rcases h with ⟨h1, h2⟩ | ⟨h1, h2⟩
  · exact .of_left (intBits_le_64 h1 h2)
  · exact .of_right (intBits_le_64 h1 h2)
theorem op_add : OpR X (binaryOp .Add) (rI0 fun i j => .int (i + j)) := opI0 fun _ _ _ _ _ _ _ q => add_int q
theorem op_sub : OpR X (binaryOp .Sub) (rI0 fun i j => .int (i - j)) := opI0 fun _ _ _ _ _ _ _ q => sub_int q
theorem op_mul : OpR X (binaryOp .Mult) (rI CMul fun i j => .int (i * j)) := opI fun _ _ _ _ _ _ _ hc q => mul_int q hc.ok
/-- % by a positive divisor of any size -/
theorem op_mod : OpR X (binaryOp .Mod) (rI (fun _ j => 0 < j) fun i j => .int (i % j)) := opI fun i j _ _ _ _ _ hc q => by
  have h1 : (0 : Int) < j := hc
  exact mod_int' (by omega) (by rw [Int.fmod_eq_emod_of_nonneg i (by omega)]; exact q)
theorem op_pow : OpR X (binaryOp .Pow) (rI CPow fun i j => .int (i ^ j.toNat)) := opI fun _ _ _ _ _ _ _ hc q => pow_int_small hc.1 hc.2.1 hc.2.2 q
theorem unI {f : Value → Sem Value} {g : Int → Int}
    (rule : ∀ (i : Int) (t : Tok) (s : Shared) (Q : Value → Shared → Prop) (E : Value → Shared → Prop), Q (.int (g i) s.toks) { s with toks := s.toks + 1 } → wpAny (model X.prog X.w) X.A (f (.int i t)) Q E s) :
    UnR X f (rU fun i => .int (g i)) := by
  intro pins s σ H x v Q I rx h
  obtain ⟨i, rfl, q⟩ := h
  obtain ⟨t, rfl⟩ := rx
  exact rule i t s _ _ ⟨.int (g i), H, I.tok _, ⟨_, rfl⟩, q⟩
theorem un_neg : UnR X (unaryOp .USub) (rU fun i => .int (-i)) := unI fun _ _ _ _ _ q => neg_int q
/-! ### bools among ints: n += (a < b) -/
end

/-! ### comparisons -/
/-- the scalars that == tells apart as data does -/
def scal : V → V → Bool
  | .non, .non => true | .non, .int _ => true | .int _, .non => true | .non, .bl _ => true | .bl _, .non => true | .non, .str _ => true | .str _, .non => true
  | .int _, .int _ => true | .bl _, .bl _ => true | .str _, .str _ => true | .byt _, .byt _ => true
  | .int _, .str _ => true | .str _, .int _ => true | .bl _, .str _ => true | .str _, .bl _ => true
  | _, _ => false
def rEq : R2 := fun x y H Q => scal x y = true ∧ Q (.bl (decide (x = y))) H
def rNe : R2 := fun x y H Q => scal x y = true ∧ Q (.bl (!decide (x = y))) H

theorem dec_int {i j : Int} : decide (V.int i = V.int j) = (i == j) := by
  rw [Bool.eq_iff_iff]
  simp
theorem dec_bl {i j : Bool} : decide (V.bl i = V.bl j) = (i == j) := by
  rw [Bool.eq_iff_iff]
  simp
theorem dec_str {i j : Str} : decide (V.str i = V.str j) = (i == j) := by
  rw [Bool.eq_iff_iff]
  simp
theorem dec_byt {i j : Array UInt8} : decide (V.byt i = V.byt j) = (i.toList == j.toList) := by
  rw [Bool.eq_iff_iff]
  cases i
  cases j
  simp

section
variable {X : Cx} {a b c : Expr} {ta tb tc : TE} {pos : Pos}
theorem fin_bl {pins : List (Addr × Obj)} {σ : St} {H : Hp} {s : Shared} {Q : VK} {k k' : Bool} (I : Inv X pins σ H s) (q : Q (.bl k) H) (e : k = k') : EP X pins σ Q (.bool k') s := by
  subst e
  exact ⟨.bl k, H, I, rfl, q⟩
theorem op_eq : OpR X (compareOp .Eq) rEq := by
  intro pins s σ H x y v u Q I rx ry h
  obtain ⟨hs, q⟩ := h
  cases x with
  | non =>
    cases rx
    cases y with
    | non => cases ry; exact PySem.EqNone.eq_none_none (fin_bl I q (by simp))
    | bl j => cases ry; exact PySem.EqNone.eq_none_bool (fin_bl I q (by simp))
    | int j => obtain ⟨t', rfl⟩ := ry; exact PySem.EqNone.eq_none_int (fin_bl I q (by simp))
    | str j => obtain ⟨t', rfl⟩ := ry; exact PySem.EqNone.eq_none_str (fin_bl I q (by simp))
    | _ => exact absurd (show false = true from hs) Bool.false_ne_true
  | bl i =>
    cases rx
    cases y with
    | non => cases ry; exact PySem.EqNone.eq_bool_none (fin_bl I q (by simp))
    | bl j => cases ry; exact eq_bool (fin_bl I q dec_bl)
    | str j => obtain ⟨t', rfl⟩ := ry; exact PySem.EqMixed.eq_bool_str (fin_bl I q (by simp))
    | _ => exact absurd (show false = true from hs) Bool.false_ne_true
  | int i =>
    obtain ⟨t, rfl⟩ := rx
    cases y with
    | non => cases ry; exact PySem.EqNone.eq_int_none (fin_bl I q (by simp))
    | int j => obtain ⟨t', rfl⟩ := ry; exact eq_int (fin_bl I q dec_int)
    | str j => obtain ⟨t', rfl⟩ := ry; exact PySem.EqMixed.eq_int_str (fin_bl I q (by simp))
    | _ => exact absurd (show false = true from hs) Bool.false_ne_true
  | str i =>
    obtain ⟨t, rfl⟩ := rx
    cases y with
    | non => cases ry; exact PySem.EqNone.eq_str_none (fin_bl I q (by simp))
    | bl j => cases ry; exact PySem.EqMixed.eq_str_bool (fin_bl I q (by simp))
    | int j => obtain ⟨t', rfl⟩ := ry; exact PySem.EqMixed.eq_str_int (fin_bl I q (by simp))
    | str j => obtain ⟨t', rfl⟩ := ry; exact eq_str (fin_bl I q dec_str)
    | _ => exact absurd (show false = true from hs) Bool.false_ne_true
  | byt i =>
    obtain ⟨t, rfl⟩ := rx
    cases y with
    | byt j => obtain ⟨t', rfl⟩ := ry; exact PySem.W.eq_bytes (fin_bl I q dec_byt)
    | _ => exact absurd (show false = true from hs) Bool.false_ne_true
  | _ => cases y <;> exact absurd (show false = true from hs) Bool.false_ne_true
theorem op_ne : OpR X (compareOp .NotEq) rNe := by
  intro pins s σ H x y v u Q I rx ry h
  obtain ⟨hs, q⟩ := h
  cases x with
  | non =>
    cases rx
    cases y with
    | non => cases ry; exact PySem.EqNone.ne_none_none (fin_bl I q (by simp))
    | bl j => cases ry; exact PySem.EqNone.ne_none_bool (fin_bl I q (by simp))
    | int j => obtain ⟨t', rfl⟩ := ry; exact PySem.EqNone.ne_none_int (fin_bl I q (by simp))
    | str j => obtain ⟨t', rfl⟩ := ry; exact PySem.EqNone.ne_none_str (fin_bl I q (by simp))
    | _ => exact absurd (show false = true from hs) Bool.false_ne_true
  | bl i =>
    cases rx
    cases y with
    | non => cases ry; exact PySem.EqNone.ne_bool_none (fin_bl I q (by simp))
    | bl j => cases ry; exact ne_bool (fin_bl I q (congrArg not dec_bl))
    | str j => obtain ⟨t', rfl⟩ := ry; exact PySem.EqMixed.ne_bool_str (fin_bl I q (by simp))
    | _ => exact absurd (show false = true from hs) Bool.false_ne_true
  | int i =>
    obtain ⟨t, rfl⟩ := rx
    cases y with
    | non => cases ry; exact PySem.EqNone.ne_int_none (fin_bl I q (by simp))
    | int j => obtain ⟨t', rfl⟩ := ry; exact ne_int (fin_bl I q (congrArg not dec_int))
    | str j => obtain ⟨t', rfl⟩ := ry; exact PySem.EqMixed.ne_int_str (fin_bl I q (by simp))
    | _ => exact absurd (show false = true from hs) Bool.false_ne_true
  | str i =>
    obtain ⟨t, rfl⟩ := rx
    cases y with
    | non => cases ry; exact PySem.EqNone.ne_str_none (fin_bl I q (by simp))
    | bl j => cases ry; exact PySem.EqMixed.ne_str_bool (fin_bl I q (by simp))
    | int j => obtain ⟨t', rfl⟩ := ry; exact PySem.EqMixed.ne_str_int (fin_bl I q (by simp))
    | str j => obtain ⟨t', rfl⟩ := ry; exact ne_str (fin_bl I q (congrArg not dec_str))
    | _ => exact absurd (show false = true from hs) Bool.false_ne_true
  | byt i =>
    obtain ⟨t, rfl⟩ := rx
    cases y with
    | byt j => obtain ⟨t', rfl⟩ := ry; exact PySem.W.ne_bytes (fin_bl I q (congrArg not dec_byt))
    | _ => exact absurd (show false = true from hs) Bool.false_ne_true
  | _ => cases y <;> exact absurd (show false = true from hs) Bool.false_ne_true

theorem op_lt : OpR X (compareOp .Lt) (rI0 fun i j => .bl (decide (i < j))) := opB0 fun _ _ _ _ _ _ _ q => lt_int q
theorem op_le : OpR X (compareOp .LtE) (rI0 fun i j => .bl (decide (i ≤ j))) := opB0 fun _ _ _ _ _ _ _ q => le_int q
theorem op_gt : OpR X (compareOp .Gt) (rI0 fun i j => .bl (decide (j < i))) := opB0 fun _ _ _ _ _ _ _ q => gt_int q
theorem op_ge : OpR X (compareOp .GtE) (rI0 fun i j => .bl (decide (j ≤ i))) := opB0 fun _ _ _ _ _ _ _ q => ge_int q
/-- is None, is not None: the right side a value none -/
theorem op_isN : OpR X (compareOp .Is) (fun x y H Q => y = .non ∧ Q (.bl (decide (x = .non))) H) := by
  intro pins s σ H x y v u Q I rx ry h
  obtain ⟨rfl, q⟩ := h
  cases ry
  refine is_none_gen (fin_bl I q ?_)
  cases x <;> first
    | (cases rx; rfl)
    | (obtain ⟨t, rfl⟩ := rx; rfl)
/-- two rules for one operation: by cases -/
theorem OpR.or {f : Value → Value → Sem Value} {r r' : R2} (h : OpR X f r) (h' : OpR X f r') : OpR X f (fun x y H Q => r x y H Q ∨ r' x y H Q) := by
  intro pins s σ H x y v u Q I rx ry q
  rcases q with q | q
  · exact h pins s σ H x y v u Q I rx ry q
  · exact h' pins s σ H x y v u Q I rx ry q

theorem nomark (b : Expr) {op : CmpOp} (h : op ≠ .In := by decide) (h2 : op ≠ .NotIn := by decide) : behindInMarks op b = false := by
  have e1 : (op == CmpOp.In) = false := by cases op <;> first | rfl | exact absurd rfl h
  have e2 : (op == CmpOp.NotIn) = false := by cases op <;> first | rfl | exact absurd rfl h2
  cases b <;> simp [behindInMarks, e1, e2]
/-- a comparison as a value; hm: nomark b, or (for in, not in) by with_unfolding_all rfl -/
theorem pe_cmpR {op : CmpOp} {r : R2} (ho : OpR X (compareOp op) r) (ha : PE X a ta) (hb : PE X b tb) (hm : behindInMarks op b = false) : PE X (.Compare a [op] [b] pos) (tOp r ta tb) := by
  intro pins s σ H Q I h
  exact wpAny_Compare1 (binT ha hb I h fun v u s2 x y H2 I2 rx ry q => ho pins s2 σ H2 x y v u Q I2 rx ry q) hm
/-- a reading of a value as a test -/
def tTest (t : TE) : TT := fun σ H Q => t σ H fun x H' => ∃ k, x = .bl k ∧ Q k H'
theorem pt_cmpR {op : CmpOp} {r : R2} (ho : OpR X (compareOp op) r) (ha : PE X a ta) (hb : PE X b tb) (hm : behindInMarks op b = false) : PT X (.Compare a [op] [b] pos) (tTest (tOp r ta tb)) := by
  intro pins s σ H Q I h
  refine wpAny_isTrue_Compare1 (thn (ha pins s σ H _ I h) fun v s1 ⟨x, H1, I1, r1, q1⟩ => thn (hb pins s1 σ H1 _ I1 q1) fun u s2 ⟨y, H2, I2, r2, q2⟩ =>
    thn (ho pins s2 σ H2 x y v u _ I2 r1 r2 q2) fun c s3 ⟨z, H3, I3, r3, k, e, q3⟩ => ?_) hm
  subst e
  cases r3
  exact wpAny_truthy_bool ⟨H3, I3, q3⟩
/-- a op1 b op2 c -/
def tChain (r r' : R2) (ta tb tc : TE) : TE := fun σ H Q => ta σ H fun x H1 => tb σ H1 fun y H2 => r x y H2 fun z H3 => ∃ k, z = .bl k ∧
  (if k = true then tc σ H3 fun w' H4 => r' y w' H4 Q else Q (.bl false) H3)
theorem pe_chain {op op' : CmpOp} {r r' : R2} (ho : OpR X (compareOp op) r) (ho' : OpR X (compareOp op') r') (ha : PE X a ta) (hb : PE X b tb) (hc : PE X c tc)
    (hm : lastMarks [op, op'] [b, c] = false := by with_unfolding_all rfl) : PE X (.Compare a [op, op'] [b, c] pos) (tChain r r' ta tb tc) := by
  intro pins s σ H Q I h
  refine Compare_chain (thn (ha pins s σ H _ I h) fun v s1 ⟨x, H1, I1, r1, q1⟩ => chain_link (thn (hb pins s1 σ H1 _ I1 q1) fun u s2 ⟨y, H2, I2, r2, q2⟩ =>
    thn (ho pins s2 σ H2 x y v u _ I2 r1 r2 q2) fun d s3 ⟨z, H3, I3, r3, k, e, q3⟩ => ?_)) hm
  subst e
  cases r3
  refine wpAny_truthy_bool ?_
  cases k with
  | false => exact ite_ff ⟨.bl false, H3, I3, rfl, q3⟩
  | true => exact ite_tt (chain_last (thn (hc pins s3 σ H3 _ I3 q3) fun w' s4 ⟨z', H4, I4, r4, q4⟩ => ho' pins s4 σ H4 y z' u w' Q I4 r2 r4 q4))
/-! ### truth -/
theorem line63 : (sizeLine : Nat) < 2 ^ 63 := by rw [sizeLine_eq]; decide
/-! ### strs and bytes -/
theorem op_add_str : OpR X (binaryOp .Add) (fun x y H Q => ∃ i j, x = .str i ∧ y = .str j ∧ i.length + j.length ≤ sizeLine ∧ Q (.str (i ++ j)) H) := by
  intro pins s σ H x y v u Q I rx ry h
  obtain ⟨i, j, rfl, rfl, hz, q⟩ := h
  obtain ⟨t, rfl⟩ := rx
  obtain ⟨t', rfl⟩ := ry
  exact add_str (fun t' tk => ⟨.str (i ++ j), H, I.tok _, ⟨_, rfl⟩, q⟩) hz
/-! ### scalar builtins, by CallR -/
theorem vals1 {x : V} {us : List Value} (r : Vals [x] us) : ∃ u, us = [u] ∧ RelV x u := by
  cases r with
  | cons r1 r2 => cases r2; exact ⟨_, rfl, r1⟩
theorem vals2 {x y : V} {us : List Value} (r : Vals [x, y] us) : ∃ u w', us = [u, w'] ∧ RelV x u ∧ RelV y w' := by
  cases r with
  | cons r1 r2 =>
    cases r2 with
    | cons r3 r4 => cases r4; exact ⟨_, _, rfl, r1, r3⟩
theorem call_max2 (hc : X.calm = true) : CallR X (.builtin "max") (fun xs H Q => ∃ i j, xs = [.int i, .int j] ∧ Q (.int (if j > i then j else i)) H) := by
  intro pins s σ H xs us Q I r h
  obtain ⟨i, j, rfl, q⟩ := h
  obtain ⟨u, w', rfl, ⟨t, rfl⟩, ⟨t', rfl⟩⟩ := vals2 r
  refine max_two_ints (I.ok.hd hc) fun h' tk k => ⟨_, H, I.kept k, ?_, q⟩
  by_cases hj : j > i
  · rw [if_pos hj, if_pos hj]; exact ⟨_, rfl⟩
  · rw [if_neg hj, if_neg hj]; exact ⟨_, rfl⟩
theorem call_min2 (hc : X.calm = true) : CallR X (.builtin "min") (fun xs H Q => ∃ i j, xs = [.int i, .int j] ∧ Q (.int (if j < i then j else i)) H) := by
  intro pins s σ H xs us Q I r h
  obtain ⟨i, j, rfl, q⟩ := h
  obtain ⟨u, w', rfl, ⟨t, rfl⟩, ⟨t', rfl⟩⟩ := vals2 r
  refine min_two_ints (I.ok.hd hc) fun h' tk k => ⟨_, H, I.kept k, ?_, q⟩
  by_cases hj : j < i
  · rw [if_pos hj, if_pos hj]; exact ⟨_, rfl⟩
  · rw [if_neg hj, if_neg hj]; exact ⟨_, rfl⟩
theorem call_int1 : CallR X (.type "int") (fun xs H Q => (∃ i, xs = [.int i] ∧ Q (.int i) H) ∨ ∃ k, xs = [.bl k] ∧ Q (.int (if k then 1 else 0)) H) := by
  intro pins s σ H xs us Q I r h
  rcases h with ⟨i, rfl, q⟩ | ⟨k, rfl, q⟩
  · obtain ⟨u, rfl, t, rfl⟩ := vals1 r
    exact call_int_int ⟨.int i, H, I, ⟨_, rfl⟩, q⟩
  · obtain ⟨u, rfl, r1⟩ := vals1 r
    cases r1
    exact call_int_bool ⟨.int (if k then 1 else 0), H, I.tok _, ⟨_, rfl⟩, q⟩
end
end L2

namespace L2
open PySem PySem.Spec PyProof.Rows

/-! ### an instance, its attributes a map -/
structure ObjM (h : Heap) (x dx C : Addr) (mA : Str → Option Value) : Prop where
  obj : h.get? x = some (PySem.W.instObj C dx)
  ns : h.Ns1 dx mA
  ne : dx ≠ x

theorem lookIn_ns {h : Heap} {dx : Addr} {mA : Str → Option Value} (n : h.Ns1 dx mA) : ∃ od, h.get? dx = some od ∧ ∀ name, PySem.W.lookIn name od = some (mA name) := by
  obtain ⟨o, es, ep, ho, hd, hk, _, hm⟩ := n
  refine ⟨o, ho, fun name => ?_⟩
  have e := hm name
  unfold nsFind findBy at e
  rw [← Array.find?_toList] at e
  unfold PySem.W.lookIn
  rw [hd]
  dsimp only
  split
  · rename_i y q
    rw [q] at e
    exact congrArg some e
  · rename_i q
    rw [q] at e
    have a : es.toList.any (·.refKey) = false := by
      rw [List.any_eq_false]
      intro y hy
      obtain ⟨z, t, hkey⟩ := hk y (Array.mem_toList_iff.mp hy)
      simp [DictEntry.refKey, hkey]
    have a' : ¬ es.toList.any (·.refKey) = true := by rw [a]; exact Bool.false_ne_true
    rw [if_neg a']
    exact congrArg some e

theorem ObjM.look {h : Heap} {x dx C : Addr} {mA : Str → Option Value} (I : ObjM h x dx C mA) : ∃ od, PySem.W.InstAt h x (PySem.W.instObj C dx) C (some od) ∧ ∀ name, PySem.W.lookIn name od = some (mA name) :=
  let ⟨od, ho, hl⟩ := lookIn_ns I.ns
  ⟨od, ⟨I.obj, rfl, rfl, ho⟩, hl⟩

section
variable {prog : Program} {w : World} {A : Around} {E : Value → Shared → Prop} {s : Shared} {K : PySem.W.Frag} {x dx C f : Addr} {mA : Str → Option Value} {name : Str} {v : Value}

end

/-! ### the attributes as a list of pairs -/
def putF (f : Str) (v : V) : List (Str × V) → List (Str × V)
  | [] => [(f, v)]
  | (g, x) :: r => if g = f then (g, v) :: r else (g, x) :: putF f v r
section
variable {P : Program} {w : World} {H H' : Hp} {h h' : Heap} {a C dx : Addr} {fs fs' : List (Str × V)}
theorem ins_get (hok : HOk P w H h) (e : H a = some (.ins C dx fs)) : ∃ mA, ObjM h a dx C mA ∧ (∀ f, RelO (fs.lookup f) (mA f)) ∧ PySem.Within mA (fs.map (·.1)) ∧ fs.length ≤ 1000 ∧ H dx = some (.own a) := by
  obtain ⟨d, z, ne, ob, mA, n, r, q⟩ := (show ObjOk P w H h a (.ins C dx fs) from hok a _ e)
  exact ⟨mA, ⟨ob, n, ne⟩, r, q, z, d⟩
end

/-! ### what of the text a class must have -/
structure Cls (K : PySem.W.Frag) (C : Addr) : Prop where
  pg : PySem.W.plainGet K C Str.empty = true
  hd : PySem.W.hasDictIn K C = true
  po : PySem.W.plainOver K C = true
  sa : PySem.W.findIn K (.ref C) "__setattr__" = some (some (.builtin "object.__setattr__"))
theorem Cls.get {K : PySem.W.Frag} {C : Addr} (c : Cls K C) (f : Str) : PySem.W.plainGet K C f = true := c.pg
/-- a constant of the class -/
structure Con (K : PySem.W.Frag) (C : Addr) (f : Str) (v : V) (u : Value) : Prop where
  at_ : PySem.W.findIn K (.ref C) f = some (some u)
  rel : RelV v u
  get : PySem.W.specialIn K u "__get__" = some none
  cp : PySem.W.copiedNames.contains f = false
/-- a method: a plain def of the class or of one above it -/
structure Meth (K : PySem.W.Frag) (C : Addr) (m : Str) (f : Addr) : Prop where
  at_ : PySem.W.findIn K (.ref C) m = some (some (.ref f))
  fn : PySem.W.isFn K (.ref f) = true
  kp : PySem.W.keepIn K (.ref f) = true

section
variable {X : Cx} {pins : List (Addr × Obj)} {σ : St} {H : Hp} {s : Shared} {a C dx : Addr} {fs : List (Str × V)} {f : Str} {v : V} {A : Around} {E : Value → Shared → Prop}

/-- a new instance, tracked, without attributes -/
theorem Inv.made (I : Inv X pins σ H s) : Inv X pins σ (upd (upd H s.heap.objs.size (.own (s.heap.objs.size + 1))) (s.heap.objs.size + 1) (.ins C s.heap.objs.size []))
    { s with heap := (s.heap.push PySem.W.emptyDict).push (PySem.W.instObj C s.heap.objs.size) } := by
  have e1 : (s.heap.push PySem.W.emptyDict).get? s.heap.objs.size = some PySem.W.emptyDict := Heap.get?_push_size s.heap rfl
  have e2 : ((s.heap.push PySem.W.emptyDict).push (PySem.W.instObj C s.heap.objs.size)).get? (s.heap.objs.size + 1) = some (PySem.W.instObj C s.heap.objs.size) := by
    have := Heap.get?_push_size (s.heap.push PySem.W.emptyDict) (o := PySem.W.instObj C s.heap.objs.size) rfl
    rwa [Heap.size_push] at this
  have e3 : (s.heap.push PySem.W.emptyDict).Ns s.heap.objs.size (fun _ => none) := ⟨PySem.W.emptyDict, #[], _, e1, rfl, (fun e he => absurd he (by simp)), fun _ => rfl⟩
  have I1 := I.laid (a := s.heap.objs.size) (o := .own (s.heap.objs.size + 1)) (h' := s.heap.push PySem.W.emptyDict) (t' := s.toks) (fun b u q => Heap.get?_push_of_some _ q) (Nat.le_refl _) ⟨_, e1⟩
  refine I1.laid (a := s.heap.objs.size + 1) (o := .ins C s.heap.objs.size []) (t' := s.toks) (fun b u q => Heap.get?_push_of_some _ q) (Nat.le_of_eq (Heap.size_push _ _)) ?_
  have ne : s.heap.objs.size ≠ s.heap.objs.size + 1 := Nat.ne_of_lt (Nat.lt_succ_self _)
  refine ⟨by rw [upd_ne ne, upd_same], Nat.zero_le _, ne, e2, fun _ => none, (Heap.Ns1.of_empty e3).at fun o q => Heap.get?_push_of_some _ q, fun _ => True.intro, fun y hy => absurd rfl hy⟩

end

/-! ### readings and rules -/
section
variable {X : Cx} {o e value : Expr} {f : Str} {pos pos' tpos : Pos} {ta tv : TE}
end

/-! ### isinstance -/
section
variable {X : Cx} {pins : List (Addr × Obj)} {σ : St} {H : Hp} {s : Shared} {A : Around} {E : Value → Shared → Prop} {Q : Value → Shared → Prop} {c : Value} {b : Bool}
/-- the type of a value, as the fragment's deciders take it; for an instance its class -/
inductive TyOf (K : PySem.W.Frag) (H : Hp) : V → Value → Prop where
  | non : TyOf K H .non (.type "NoneType")
  | bl (x : Bool) : TyOf K H (.bl x) (.type "bool")
  | int (i : Int) : TyOf K H (.int i) (.type "int")
  | str (x : Str) : TyOf K H (.str x) (.type "str")
  | flt (x : UInt64) : TyOf K H (.flt x) (.type "float")
  | lst {a : Addr} {xs : List V} (e : H a = some (.lst xs)) : TyOf K H (.ref a) (.type "list")
  | frz {a : Addr} {o : Obj} {xs : List V} (e : H a = some (.frz o (.lst xs))) : TyOf K H (.ref a) (.type "list")
  | tup {a : Addr} {xs : List V} (e : H a = some (.tup xs)) : TyOf K H (.ref a) (.type "tuple")
  | dK {a : Addr} {kvs : List (Key × V)} (e : H a = some (.dK kvs)) : TyOf K H (.ref a) (.type "dict")
  | dT {a : Addr} {kvs : List (List Key × V)} (e : H a = some (.dT kvs)) : TyOf K H (.ref a) (.type "dict")
  | ins {a C dx : Addr} {fs : List (Str × V)} (e : H a = some (.ins C dx fs)) (cl : Cls K C) (ha : PySem.W.findIn K (.ref C) "__class__" = some (some (.builtin "object.__class__")))
      (hn : PySem.W.specialIn K (.builtin "object.__class__") "__get__" = some (some (.builtin "getset_descriptor.__get__"))) (htk : PySem.W.takesIn K (.builtin "object.__class__") = some true)
      (hm : PySem.W.mroIn K C (.type "object") = some true) : TyOf K H (.ref a) (.ref C)
/-- isinstance(x, c) for one class c, a built-in or an own one: kitOne's answer -/
theorem isinst_ok {x : V} {u t : Value} (I : Inv X pins σ H s) (rx : RelV x u) (ty : TyOf X.K H x t) (e : PySem.W.kitOne X.K t c = some b) (h : ∀ tk, Q (.bool b) { s with toks := tk }) :
    wpAny (model X.prog X.w) A (call (.builtin "isinstance") [u, c]) Q E s := by
  cases ty with
  | non => cases (show u = Value.none from rx); exact PySem.W.kia_one PySem.W.kitx_none I.kIn True.intro e (fun z => nomatch z) h
  | bl y => cases (show u = Value.bool y from rx); exact PySem.W.kia_one PySem.W.kitx_bool I.kIn True.intro e (fun z => nomatch z) h
  | int i => obtain ⟨t, q⟩ := (show ∃ t, u = Value.int i t from rx); cases q; exact PySem.W.kia_one PySem.W.kitx_int I.kIn True.intro e (fun z => nomatch z) h
  | str y => obtain ⟨t, q⟩ := (show ∃ t, u = Value.str y t from rx); cases q; exact PySem.W.kia_one PySem.W.kitx_str I.kIn True.intro e (fun z => nomatch z) h
  | flt y => obtain ⟨t, q⟩ := (show ∃ t, u = Value.float y t from rx); cases q; exact PySem.W.kia_one PySem.W.kitx_float I.kIn True.intro e (fun z => nomatch z) h
  | @lst a xs ea =>
    cases (show u = Value.ref a from rx)
    obtain ⟨_, _, n, _, h1⟩ := (show ObjOk X.prog X.w H s.heap a (.lst xs) from I.hok a _ ea)
    exact PySem.W.kia_one PySem.W.kitx_list I.kIn ⟨_, h1, rfl⟩ e (fun z => nomatch z) h
  | @frz a ob xs ea =>
    cases (show u = Value.ref a from rx)
    obtain ⟨_, _, _, n, _, h1⟩ := (show ObjOk X.prog X.w H s.heap a (.frz ob (.lst xs)) from I.hok a _ ea)
    exact PySem.W.kia_one PySem.W.kitx_list I.kIn ⟨_, h1, rfl⟩ e (fun z => nomatch z) h
  | @tup a xs ea =>
    cases (show u = Value.ref a from rx)
    obtain ⟨_, _, _, p⟩ := (show ObjOk X.prog X.w H s.heap a (.tup xs) from I.hok a _ ea)
    obtain ⟨o, h1, h2, _⟩ := p
    exact PySem.W.kia_one PySem.W.kitx_tuple I.kIn ⟨o, h1, h2⟩ e (fun z => nomatch z) h
  | @dK a kvs ea =>
    cases (show u = Value.ref a from rx)
    obtain ⟨_, _, vs, _, p⟩ := (show ObjOk X.prog X.w H s.heap a (.dK kvs) from I.hok a _ ea)
    obtain ⟨o, es, ep, h1, h2, _⟩ := p
    exact PySem.W.kia_one PySem.W.kitx_dict I.kIn ⟨o, h1, h2.1⟩ e (fun z => nomatch z) h
  | @dT a kvs ea =>
    cases (show u = Value.ref a from rx)
    obtain ⟨_, _, xs, _, o, es, ep, h1, h2, _⟩ := (show ObjOk X.prog X.w H s.heap a (.dT kvs) from I.hok a _ ea)
    exact PySem.W.kia_one PySem.W.kitx_dict I.kIn ⟨o, h1, h2.1⟩ e (fun z => nomatch z) h
  | @ins a C dx fs ea cl ha hn htk hm =>
    cases (show u = Value.ref a from rx)
    obtain ⟨mA, O, _⟩ := ins_get I.hok ea
    obtain ⟨od, J, _⟩ := O.look
    exact PySem.W.kia_one (PySem.W.kitx_own (cl.get _) cl.hd ha hn htk hm) I.kIn J e (fun z => nomatch z) h
end
end L2

namespace L2
open PySem PySem.Spec PyProof.Rows

/-! ### room -/
structure Room (k : Nat) (A : Around) : Prop where
  hd : A.handled = none
  gd : A.guards = some []
  dp : A.depth + 3 * k + 5 < recursionLimit
  un : A.units + 16 * k + 200 < cLine
theorem Room.mono {j k : Nat} {A : Around} (r : Room k A) (h : j ≤ k) : Room j A := ⟨r.hd, r.gd, by have := r.dp; omega, by have := r.un; omega⟩
theorem Room.deeper {k : Nat} {A : Around} (r : Room (k + 1) A) (env : Env) : Room k (A.deeper env) :=
  ⟨r.hd, r.gd, by have := r.dp; show A.depth + 1 + 3 * k + 5 < _; omega, by have := r.un; show A.units + 3 + 16 * k + 200 < _; omega⟩
theorem Room.in1 {k : Nat} {A : Around} (r : Room (k + 1) A) : Room k A.in1 :=
  ⟨r.hd, r.gd, by have := r.dp; show A.depth + 3 * k + 5 < _; omega, by have := r.un; show A.units + 1 + 16 * k + 200 < _; omega⟩
theorem Room.depth {k : Nat} {A : Around} (r : Room k A) : A.depth < recursionLimit := by have := r.dp; omega
theorem Room.units {k : Nat} {A : Around} (r : Room k A) : A.units + 64 < cLine := by have := r.un; omega
/-! ### argument lists and displays -/
def tNil : TA := fun _ H Q => Q [] H
def tCons (ta : TE) (tr : TA) : TA := fun σ H Q => ta σ H fun x H1 => tr σ H1 fun xs H2 => Q (x :: xs) H2
section
variable {X : Cx} {e : Expr} {es : List Expr} {te : TE} {t : TA} {pos : Pos}
theorem pa_nil : PA X [] tNil := fun _ _ _ _ H Q I h => Calls.spliced_nil ⟨[], H, I, .nil, h⟩
theorem pa_cons (ha : PE X e te) (hr : PA X es t) (hs : starEach (e :: es) X.env = (false, eval e X.env) :: starEach es X.env := by rfl) : PA X (e :: es) (tCons te t) := by
  intro pos pins s σ H Q I h
  rw [hs]
  show wpAny _ _ (spliced ((false, eval e X.env) :: backTo pos (starEach es X.env))) _ _ s
  refine Calls.spliced_cons (thn (ha pins s σ H _ I h) fun u s1 ⟨x, H1, I1, r1, q1⟩ => ?_)
  exact thn (hr pos pins s1 σ H1 _ I1 q1) fun us s2 ⟨xs, H2, I2, r2, q2⟩ => ⟨x :: xs, H2, I2, .cons r1 r2, q2⟩

/-- a tuple, a list of written items -/
def tTup (t : TA) : TE := fun σ H Q => t σ H fun xs H1 => xs.length ≤ sizeLine ∧ ∀ p, H1 p = none → Q (.ref p) (upd H1 p (.tup xs))
def tLst (t : TA) : TE := fun σ H Q => t σ H fun xs H1 => xs.length ≤ sizeLine ∧ ∀ p, H1 p = none → Q (.ref p) (upd H1 p (.lst xs))
theorem pe_tup {x1} (h : PA X es t) : PE X (.Tuple es x1 pos) (tTup t) := by
  intro pins s σ H Q I hq
  refine wpAny_Tuple_spliced (thn (h pos pins s σ H _ I hq) fun us s1 ⟨xs, H1, I1, r, z, q⟩ => ⟨by rw [← r.length]; exact z, ?_⟩)
  have hf : H1 s1.heap.objs.size = none := I1.hok.fresh (Nat.le_refl _)
  refine ⟨.ref s1.heap.objs.size, upd H1 s1.heap.objs.size (.tup xs), I1.laid (t' := s1.toks) (fun b u e => Heap.get?_push_of_some _ e) (Nat.le_refl _) ?_, rfl, q _ hf⟩
  exact ⟨z, us, r, ⟨_, Heap.get?_push_size _ rfl, rfl, _, rfl⟩⟩
theorem pe_lst (h : PA X es t) : PE X (.List es pos) (tLst t) := by
  intro pins s σ H Q I hq
  refine wpAny_List_spliced (thn (h pos pins s σ H _ I hq) fun us s1 ⟨xs, H1, I1, r, z, q⟩ => ⟨by rw [← r.length]; exact z, ?_⟩)
  have hf : H1 s1.heap.objs.size = none := I1.hok.fresh (Nat.le_refl _)
  refine ⟨.ref s1.heap.objs.size, upd H1 s1.heap.objs.size (.lst xs), I1.laid (t' := s1.toks) (fun b u e => Heap.get?_push_of_some _ e) (Nat.le_refl _) ?_, rfl, q _ hf⟩
  exact ⟨z, us, 0, r, Heap.get?_push_size _ rfl⟩
end

/-! ### what a def promises -/
/-- a def's promise: the bound arguments in the parameters' order, the heap, the wanted end, the wanted exception -/
abbrev Sp := List V → Hp → VK → XK → Prop
/-- how an exception lies behind a call (file 08 gives it): the callers' frames, abstract heap and state ahead of the call, the wish, the exception, the state -/
abbrev CXT := List Env → Hp → Shared → XK → Value → Shared → Prop

/-- the state at a call -/
structure Env0 (P : Program) (w : World) (K : PySem.W.Frag) (mg : Str → Option Value) (base : Heap) (A : Around) (outer : List Env) (s : Shared) (H : Hp) : Prop where
  frames : A.frames = some outer
  mod : Mod K mg base
  bs : ∀ b o, base.get? b = some o → s.heap.get? b = some o ∧ H b = none
  bsz : base.objs.size ≤ s.heap.objs.size
  funs : s.heap.FunFrames base outer
  frf : ∀ b ∈ frs outer, H b = none
  hok : HOk P w H s.heap
  bare : AllBare s.gens
/-- a call's end -/
def CE (outer : List Env) (P : Program) (w : World) (H : Hp) (s : Shared) (Q : VK) (u : Value) (s' : Shared) : Prop :=
  ∃ v H', s'.os = s.os ∧ AllBare s'.gens ∧ Un (frs outer) [] H H' s.heap s'.heap ∧ HOk P w H' s'.heap ∧ RelV v u ∧ Q v H'
def CR (CX : CXT) (outer : List Env) (P : Program) (w : World) (H : Hp) (s : Shared) (Q : VK) (E : XK) (r : Result) (s' : Shared) : Prop :=
  match r with
  | .ok (.ret u) => CE outer P w H s Q u s'
  | .ok _ => False
  | .error e => CX outer H s E e s'
structure FnOk (P : Program) (w : World) (K : PySem.W.Frag) (mg : Str → Option Value) (base : Heap) (CX : CXT) (k : Nat) (f : Addr) (fd : FuncData) (ps : List Str) (sp : Sp) : Prop where
  len : ∀ vs H Q E, sp vs H Q E → vs.length = ps.length
  run : ∀ (A : Around) (outer : List Env) (s : Shared) (H : Hp) (args : Args) (us : List Value) (vs : List V) (Q : VK) (E : XK), Room k A → Env0 P w K mg base A outer s H → BindsTo s fd args (ps.zip us) → Vals vs us → sp vs H Q E →
    codeAny (model P w) A (.call (.ref f) args) (CR CX outer P w H s Q E) s
theorem FnOk.mono {P : Program} {w : World} {K : PySem.W.Frag} {mg : Str → Option Value} {base : Heap} {CX : CXT} {j k : Nat} {f : Addr} {fd : FuncData} {ps : List Str} {sp : Sp} (F : FnOk P w K mg base CX j f fd ps sp) (h : j ≤ k) :
    FnOk P w K mg base CX k f fd ps sp := ⟨F.len, fun A outer s H args us vs Q E hr => F.run A outer s H args us vs Q E (hr.mono h)⟩
/-- a weaker promise -/
theorem FnOk.imp {P : Program} {w : World} {K : PySem.W.Frag} {mg : Str → Option Value} {base : Heap} {CX : CXT} {k : Nat} {f : Addr} {fd : FuncData} {ps : List Str} {sp sp' : Sp} (F : FnOk P w K mg base CX k f fd ps sp)
    (h : ∀ vs H Q E, sp' vs H Q E → sp vs H Q E) : FnOk P w K mg base CX k f fd ps sp' :=
  ⟨fun vs H Q E q => F.len vs H Q E (h _ _ _ _ q), fun A outer s H args us vs Q E hr he hb hv hs => F.run A outer s H args us vs Q E hr he hb hv (h _ _ _ _ hs)⟩

theorem Env0.in1 {P : Program} {w : World} {K : PySem.W.Frag} {mg : Str → Option Value} {base : Heap} {A : Around} {outer : List Env} {s : Shared} {H : Hp} (e : Env0 P w K mg base A outer s H) :
    Env0 P w K mg base A.in1 outer s H := ⟨e.frames, e.mod, e.bs, e.bsz, e.funs, e.frf, e.hok, e.bare⟩

section
variable {X : Cx} {pins : List (Addr × Obj)} {σ : St} {H : Hp} {s s' : Shared}
/-- from a body: what a callee wants -/
theorem Inv.env0 (I : Inv X pins σ H s) : Env0 X.prog X.w X.K X.mg X.base X.A X.stack s H :=
  ⟨I.ok.frames, I.ok.mod, I.bs, Nat.le_trans I.ok.bsz I.sz, I.stack, I.stkFree, I.hok, I.bare⟩
/-- behind a call -/
theorem Inv.after {Q : VK} {u : Value} (I : Inv X pins σ H s) (h : CE X.stack X.prog X.w H s Q u s') : EP X pins σ Q u s' := by
  obtain ⟨v, H', os, bare, un, hok, r, q⟩ := h
  obtain ⟨hh, g, d, t, os'⟩ := s'
  obtain rfl : os' = s.os := os
  exact ⟨v, H', I.call (h' := hh) (g' := g) (d' := d) (t' := t) (ch := []) un hok bare (fun b z => absurd z (by simp)), r, q⟩
end

/-! ### calls -/
/-- f(..): the written arguments, then the defaults dvs; E: what is wanted of an exception -/
def tCall (sp : Sp) (dvs : List V) (E : XK) (t : TA) : TE := fun σ H Q => t σ H fun vs H1 => sp (vs ++ dvs) H1 Q E
/-- how the parameters are bound: us the positional arguments, kw the keywords' values by name, ds the defaults that fill up -/
def Binds (K : PySem.W.Frag) (fd : FuncData) (ps : List Str) (ds : List Value) : Prop :=
  ∀ (s : Shared) (us : List Value), K.In s.heap → (us ++ ds).length = ps.length → BindsTo s fd ⟨us, []⟩ (ps.zip (us ++ ds))
/-- every parameter is given -/
theorem Binds.all {K : PySem.W.Frag} {fd : FuncData} {ps : List Str} (h : ∀ us : List Value, us.length = ps.length → bindArgs fd ⟨us, []⟩ = pure (ps.zip us)) : Binds K fd ps [] := fun s us _ hl => by
  rw [List.append_nil] at hl ⊢
  exact .of_eq (h us hl)

/-- an exception of a callee reaches what this body wants of exceptions -/
def Passes (CX : CXT) (X : Cx) (E : XK) : Prop := ∀ (pins : List (Addr × Obj)) (σ : St) (H : Hp) (s : Shared) (e : Value) (s' : Shared), Inv X pins σ H s → CX X.stack H s E e s' → X.xe e s'

section
variable {X : Cx} {CX : CXT} {k : Nat} {f C : Addr} {fd : FuncData} {ps : List Str} {sp : Sp} {dvs : List V} {ds : List Value} {E : XK} {x m : Str} {p pos apos : Pos} {e o : Expr} {es : List Expr} {ta : TE} {t : TA}

/-- the callee runs -/
theorem run_fn {pins : List (Addr × Obj)} {σ : St} {H : Hp} {s : Shared} {Q : VK} {us : List Value} {vs : List V} (F : FnOk X.prog X.w X.K X.mg X.base CX k f fd ps sp) (hr : Room k X.A) (hb : Binds X.K fd ps ds) (hd : Vals dvs ds) (hx : Passes CX X E)
    (I : Inv X pins σ H s) (r : Vals vs us) (h : sp (vs ++ dvs) H Q E) : wpAny (model X.prog X.w) X.A (call (.ref f) us) (EP X pins σ Q) X.xe s := by
  have r2 : Vals (vs ++ dvs) (us ++ ds) := r.append hd
  have hl : (us ++ ds).length = ps.length := by rw [← r2.length]; exact F.len _ _ _ _ h
  refine wpAny_call (codeAny_mono (F.run X.A X.stack s H ⟨us, []⟩ (us ++ ds) (vs ++ dvs) Q E hr I.env0 (hb s us I.kIn hl) r2 h) fun r s' hq => ?_)
  cases r with
  | error e => exact hx pins σ H s e s' I hq
  | ok fl =>
    cases fl with
    | ret u => exact I.after hq
    | next => exact False.elim hq
    | brk => exact False.elim hq
    | cont => exact False.elim hq

theorem pe_call (F : FnOk X.prog X.w X.K X.mg X.base CX k f fd ps sp) (hr : Room k X.A) (hg : Gl X x) (hm : X.mg x = some (.ref f)) (hk : PySem.W.keepIn X.K (.ref f) = true) (hb : Binds X.K fd ps ds) (hd : Vals dvs ds) (hx : Passes CX X E)
    (ha : PA X (e :: es) t) (hdb : (x == ("__debug__" : Str)) = false := by decide) (he : starEach (e :: es) X.env = (false, eval e X.env) :: starEach es X.env := by rfl) (hpl : (backTo pos (starEach es X.env)).any (·.1) = false := by rfl) :
    PE X (.Call (.Name x p) (e :: es) [] pos) (tCall sp dvs E t) := by
  intro pins s σ H Q I h
  refine wpAny_Call_Name_kw (ld_glob I hg hm ?_ hdb)
  refine PySem.W.callWith_K (h₀ := X.base) I.ok.mod.kin hk (thn (ha pos pins s σ H _ I h) fun us s1 ⟨vs, H1, I1, r, q⟩ => ⟨I1.kIn, ?_⟩) he hpl
  exact run_fn F hr hb hd hx I1 r q
/-- what a class must have to be made -/
structure Mk (K : PySem.W.Frag) (C f : Addr) : Prop where
  makes : PySem.W.makesIn K C = true
  init : PySem.W.findIn K (.ref C) "__init__" = some (some (.ref f))
  fn : PySem.W.isFn K (.ref f) = true
  kp : PySem.W.keepIn K (.ref C) = true

end

/-! ### keywords -/
section
variable {X : Cx} {CX : CXT} {k : Nat} {f C : Addr} {fd : FuncData} {ps ks : List Str} {sp : Sp} {E : XK} {x m : Str} {p pos apos kpos : Pos} {e o : Expr} {es : List Expr} {kws : List Keyword} {te ta : TE} {t tk : TA} {nm : Option Str}
/-- how a call with keywords binds: g puts the positional values us and the keywords' values ws (names ks) in the parameters' order, defaults among them -/
structure KBinds (K : PySem.W.Frag) (fd : FuncData) (ps ks : List Str) (g : List Value → List Value → List Value) (gV : List V → List V → List V) : Prop where
  to : ∀ (s : Shared) (us ws : List Value), K.In s.heap → (g us ws).length = ps.length → BindsTo s fd ⟨us, ks.zip ws⟩ (ps.zip (g us ws))
  rel : ∀ {vs : List V} {us : List Value} {zs : List V} {ws : List Value}, Vals vs us → Vals zs ws → Vals (gV vs zs) (g us ws)
variable {g : List Value → List Value → List Value} {gV : List V → List V → List V}
end

/-! ### a def's body keeps its promise -/
/-- names: the parameters first -/
structure FnScope (N P : List Str) (sc : Scope) : Prop where
  kind : sc.kind = .function
  co : sc.isCoroutine = false
  gen : sc.isGenerator = false
  nd : N.Nodup
  pre : N.take P.length = P
  par : ∀ x ∈ P, sc.names.lookup x = some .local ∨ sc.names.lookup x = some .cell
  nofree : ∀ y ∈ sc.names, y.2 ≠ .free

theorem bindL_out {kindOf : Str → Option NameKind} {x : Str} : ∀ {binds : List (Str × Value)} {m : Str → Option Value}, (∀ v, (x, v) ∉ binds) → bindL kindOf binds m x = m x
  | [], _, _ => rfl
  | (n, v) :: r, m, h => by
    unfold bindL
    rw [bindL_out fun w hw => h w (List.mem_cons_of_mem _ hw)]
    split
    · have : x ≠ n := by rintro rfl; exact h v List.mem_cons_self
      simp [this]
    · rfl
theorem bindC_out {kindOf : Str → Option NameKind} {x : Str} : ∀ {binds : List (Str × Value)} {m : Str → Option Value}, (∀ v, (x, v) ∉ binds) → bindC kindOf binds m x = m x
  | [], _, _ => rfl
  | (n, v) :: r, m, h => by
    unfold bindC
    rw [bindC_out fun w hw => h w (List.mem_cons_of_mem _ hw)]
    split
    · rfl
    · have : x ≠ n := by rintro rfl; exact h v List.mem_cons_self
      simp [this]
theorem bindL_get {kindOf : Str → Option NameKind} {x : Str} {v : Value} : ∀ {P : List Str} {vs : List Value} {i : Nat} {m : Str → Option Value}, P.Nodup → P[i]? = some x → vs[i]? = some v → kindOf x = some .local →
    bindL kindOf (P.zip vs) m x = some v
  | [], _, _, _, _, h, _, _ => by simp at h
  | _ :: _, [], _, _, _, _, h, _ => by simp at h
  | p :: P, w :: vs, 0, m, nd, h1, h2, hk => by
    simp at h1 h2; subst h1; subst h2
    show bindL kindOf ((p, w) :: P.zip vs) m p = _
    unfold bindL
    rw [bindL_out fun v hv => (List.nodup_cons.mp nd).1 (List.of_mem_zip hv).1, if_pos hk]
    simp
  | p :: P, w :: vs, i + 1, m, nd, h1, h2, hk => by
    show bindL kindOf ((p, w) :: P.zip vs) m x = _
    unfold bindL
    exact bindL_get (i := i) (List.nodup_cons.mp nd).2 (by simpa using h1) (by simpa using h2) hk
theorem bindC_get {kindOf : Str → Option NameKind} {x : Str} {v : Value} : ∀ {P : List Str} {vs : List Value} {i : Nat} {m : Str → Option Value}, P.Nodup → P[i]? = some x → vs[i]? = some v → kindOf x ≠ some .local →
    bindC kindOf (P.zip vs) m x = some v
  | [], _, _, _, _, h, _, _ => by simp at h
  | _ :: _, [], _, _, _, _, h, _ => by simp at h
  | p :: P, w :: vs, 0, m, nd, h1, h2, hk => by
    simp at h1 h2; subst h1; subst h2
    show bindC kindOf ((p, w) :: P.zip vs) m p = _
    unfold bindC
    rw [bindC_out fun v hv => (List.nodup_cons.mp nd).1 (List.of_mem_zip hv).1, if_neg hk]
    simp
  | p :: P, w :: vs, i + 1, m, nd, h1, h2, hk => by
    show bindC kindOf ((p, w) :: P.zip vs) m x = _
    unfold bindC
    exact bindC_get (i := i) (List.nodup_cons.mp nd).2 (by simpa using h1) (by simpa using h2) hk

/-- the names' values at the entry -/
def start (N : List Str) (vs : List V) : St := vs.map some ++ List.replicate (N.length - vs.length) none

/-- the context of a def's body, at its entry; an exception leaves the frame, then lies as CX says -/
def cxOf (CX : CXT) (P : Program) (w : World) (K : PySem.W.Frag) (mg : Str → Option Value) (base : Heap) (N : List Str) (qual : Str) (scope : Scope) (f : Addr) (cd : Value) (A : Around) (outer : List Env) (s : Shared) (H : Hp) (E : XK) : Cx where
  prog := P
  w := w
  K := K
  mg := mg
  base := base
  A := A.deeper (envOfC qual scope s.heap.objs.size f cd)
  N := N
  s_0 := s
  H_0 := H
  env := envOfC qual scope s.heap.objs.size f cd
  outer := outer
  stack := envOfC qual scope s.heap.objs.size f cd :: outer
  ex := []
  calm := true
  fn := fun _ => true
  pn := []
  xe := fun e s' => wpAny (model P w) (A.deeper (envOfC qual scope s.heap.objs.size f cd)) (leaving (envOfC qual scope s.heap.objs.size f cd) e) (fun _ s'' => CX outer H s E e s'') (fun e' s'' => CX outer H s E e' s'') s'

theorem cell_has {sc : Scope} {n : Nat} {x : Str} (h : sc.names.lookup x = some .cell) : ∃ c, (cellsFrom n sc.names []).lookup x = some c := by
  have q := PySem.W.cellsFrom_some sc.names n [] (.inl h)
  exact Option.isSome_iff_exists.mp q

theorem inv_start {CX : CXT} {P : Program} {w : World} {K : PySem.W.Frag} {mg : Str → Option Value} {base : Heap} {N ps : List Str} {qual : Str} {scope : Scope} {f : Addr} {cd : Value} {A : Around} {outer : List Env} {s s1 : Shared} {H : Hp} {E : XK} {us : List Value} {vs : List V}
    (S : FnScope N ps scope) (hd : A.handled = none) (e0 : Env0 P w K mg base A outer s H) (hl : vs.length = ps.length) (r : Vals vs us)
    (x : InCallC s s.heap.objs.size (bindL (envOfC qual scope s.heap.objs.size f cd).kindOf (ps.zip us) fun _ => none) (cellsFrom (s.heap.objs.size + 1) scope.names []) (bindC (envOfC qual scope s.heap.objs.size f cd).kindOf (ps.zip us) fun _ => none) s1) :
    Inv (cxOf CX P w K mg base N qual scope f cd A outer s H E) [] (start N vs) H s1 := by
  have hpl : ps.length ≤ N.length := by have := congrArg List.length S.pre; rw [List.length_take] at this; omega
  obtain ⟨h1, tk, rfl, hk⟩ := x.done
  have noA : ∀ b : Addr, b ∉ (cxOf CX P w K mg base N qual scope f cd A outer s H E).ex := fun b z => absurd (show b ∈ ([] : List Addr) from z) (by simp)
  refine ⟨⟨e0.mod, S.kind, rfl, rfl, Nat.le_refl _, fun y z c h1 h2 => ?_, fun y hy => ?_, fun y c _ h => ?_, fun _ => hd, Around.frames_deeper e0.frames, .inr ⟨rfl, rfl⟩, fun b z => absurd z (noA b), e0.bs, e0.bsz, fun b _ _ => noA b, fun b z => absurd z (noA b), e0.funs, e0.frf⟩,
    rfl, e0.bare, Un.kept hk, ⟨_, x.toInCall.ns, fun i y v h1 h2 h3 => ?_⟩, fun y c h => ⟨_, x.cell y c h⟩, e0.hok.fresh (Nat.le_refl _), fun y c h => ?_, fun p hp => absurd (show p ∈ ([] : List (Addr × Obj)) from hp) (by simp), e0.hok.kept hk, ?_⟩
  · exact name_of_addr x.apart (PySem.mem_of_lookup h1) (PySem.mem_of_lookup h2)
  · have hy : scope.names.lookup y = some .cell ∨ scope.names.lookup y = some .free := hy
    rcases hy with hy | hy
    · exact cell_has hy
    · exact absurd rfl (S.nofree _ (PySem.mem_of_lookup hy))
  · exact Nat.le_of_lt (x.above y c (PySem.mem_of_lookup h))
  · have hi : i < vs.length := by
      unfold start at h2
      by_cases hi : i < vs.length
      · exact hi
      · rw [List.getElem?_append_right (by simpa using hi)] at h2
        rw [List.getElem?_replicate] at h2
        split at h2 <;> cases h2
    have ha : vs[i]? = some v := by
      unfold start at h2
      rw [List.getElem?_append_left (by simpa using hi), List.getElem?_map] at h2
      cases e : vs[i]? with
      | none => rw [e] at h2; cases h2
      | some a => rw [e] at h2; cases h2; rfl
    obtain ⟨u, hu, rv⟩ := r.get ha
    have hp : ps[i]? = some y := by
      rw [← S.pre, List.getElem?_take_of_lt (by omega)]; exact h1
    have ndP : ps.Nodup := by rw [← S.pre]; exact S.nd.sublist (List.take_sublist _ _)
    refine ⟨u, rv, ?_⟩
    rcases S.par y (List.mem_of_getElem? hp) with k | k
    · exact .inl ⟨k, bindL_get ndP hp hu k⟩
    · obtain ⟨c, e⟩ := cell_has (n := s.heap.objs.size + 1) k
      refine .inr ⟨.inl k, c, e, ?_⟩
      have q := x.cell y c e
      rw [bindC_get ndP hp hu (by show scope.names.lookup y ≠ _; rw [k]; decide)] at q
      exact q
  · exact e0.hok.fresh (Nat.le_of_lt (x.above y c (PySem.mem_of_lookup h)))
  · unfold start
    show _ = N.length
    rw [List.length_append, List.length_map, List.length_replicate]
    omega

/-- THE RULE: a def (or a method) of the text, by its body. The body's reading t is chosen for each entry; it is run at the parameters' values -/
theorem fn_of {CX : CXT} {P : Program} {w : World} {K : PySem.W.Frag} {mg : Str → Option Value} {base : Heap} {k : Nat} {f : Addr} {name qual : Str} {params : Arguments} {body : List Stmt} {scope : Scope} {dV kV doc pm cdv ct oc : Value} {an od : Option Addr}
    {osl : Array (Option Value)} {N ps : List Str} {sp : Sp} (lk : K.lookup f = some ⟨oc, od, .func (PySem.W.fnOf name qual params body scope dV kV doc pm an cdv ct), osl⟩) (hcd : PySem.W.codeIn K cdv qual = true) (S : FnScope N ps scope)
    (len : ∀ vs H Q E, sp vs H Q E → vs.length = ps.length)
    (hbody : ∀ (A : Around) (outer : List Env) (s : Shared) (H : Hp) (vs : List V) (Q : VK) (E : XK), Room k (A.deeper (envOfC qual scope s.heap.objs.size f cdv)) → sp vs H Q E →
      ∃ t, PSs (cxOf CX P w K mg base N qual scope f cdv A outer s H E) body t ∧ t { nx := fun _ H' => Q .non H', rt := Q } (start N vs) H) :
    FnOk P w K mg base CX (k + 1) f (PySem.W.fnOf name qual params body scope dV kV doc pm an cdv ct) ps sp := by
  refine ⟨len, fun A outer s H args us vs Q E hr e0 hb r hsp => ?_⟩
  have hl := len _ _ _ _ hsp
  have KX : K.In s.heap := e0.mod.kin.keeps fun b o e => (e0.bs b o e).1
  have lim : s.heap.NoLimit := e0.mod.nolimit.keeps fun b o e => (e0.bs b o e).1
  have hkind : ∀ y ∈ ps.zip us, scope.names.lookup y.1 = some .local ∨ (scope.names.lookup y.1 = some .cell ∧ ((cellsFrom (s.heap.objs.size + 1) scope.names []).lookup y.1).isSome = true) := fun ⟨n, v⟩ hy => by
    rcases S.par n (List.of_mem_zip hy).1 with q | q
    · exact .inl q
    · exact .inr ⟨q, PySem.W.cellsFrom_some _ _ _ (.inl q)⟩
  refine codeAny_call_function hr.depth (KX _ _ lk) rfl S.co S.gen rfl (PySem.W.codeRec_of KX hcd) (hb _ _ _ _ ?_)
  refine wpAny_newFunctionEnv_cells S.kind hkind fun env he s1 x => ?_
  subst he
  refine ⟨lim.keeps x.toInCall.keep, codeAny_func ?_⟩
  obtain ⟨t, ht, hq⟩ := hbody A outer s H vs Q E (hr.deeper _) hsp
  have I : Inv (cxOf CX P w K mg base N qual scope f cdv A outer s H E) [] (start N vs) H s1 := inv_start S hr.hd e0 hl r x
  refine wpAny_mono (ht [] s1 (start N vs) H _ I hq) (fun fl s' hs => ?_) fun e s' hs => hs
  have fin : ∀ {σ' : St} {H' : Hp} {v : V} {u : Value}, Inv (cxOf CX P w K mg base N qual scope f cdv A outer s H E) [] σ' H' s' → RelV v u → Q v H' → CE outer P w H s Q u s' :=
    fun {σ' H' v u} J rv q => ⟨v, H', J.os, J.bare, J.base, J.hok, rv, q⟩
  cases fl with
  | ret u =>
    obtain ⟨v, σ', H', J, rv, q⟩ := hs
    exact fin J rv q
  | next =>
    obtain ⟨σ', H', J, q⟩ := hs
    exact fin (v := V.non) (u := Value.none) J rfl q
  | brk =>
    obtain ⟨_, _, _, q⟩ := hs
    exact False.elim q
  | cont =>
    obtain ⟨_, _, _, q⟩ := hs
    exact False.elim q
end L2

namespace L2
open PySem PySem.Spec PyProof.Rows
section
variable {X : Cx} {x : Str} {p pos : Pos} {e : Expr} {es : List Expr} {t : TA} {id T : String} {r : List V → Hp → VK → Prop}

def tCB (r : List V → Hp → VK → Prop) (t : TA) : TE := fun σ H Q => t σ H fun vs H1 => r vs H1 Q
/-- f(e, ..), f a built-in function -/
theorem pe_callB (hc : CallR X (.builtin id) r) (hg : Gl X x) (hm : X.mg x = none) (hv : bootBuiltins x = some (.builtin id)) (ha : PA X (e :: es) t) (hn : x ≠ "__name__" := by decide) (hdb : (x == ("__debug__" : Str)) = false := by decide)
    (he : starEach (e :: es) X.env = (false, eval e X.env) :: starEach es X.env := by rfl) (hpl : (backTo pos (starEach es X.env)).any (·.1) = false := by rfl) : PE X (.Call (.Name x p) (e :: es) [] pos) (tCB r t) := by
  intro pins s σ H Q I h
  refine wpAny_Call_Name_kw (ld_blt I hg hm hv ?_ hn hdb)
  exact PyProof.Rows.callWith_builtin1 (thn (ha pos pins s σ H _ I h) fun us s1 ⟨vs, H1, I1, r1, q1⟩ => hc pins s1 σ H1 vs us Q I1 r1 q1) he hpl
/-- T(e, ..), T a built-in type -/
theorem pe_callTy (hc : CallR X (.type T) r) (hg : Gl X x) (hm : X.mg x = none) (hv : bootBuiltins x = some (.type T)) (ha : PA X (e :: es) t) (hn : x ≠ "__name__" := by decide) (hdb : (x == ("__debug__" : Str)) = false := by decide)
    (he : starEach (e :: es) X.env = (false, eval e X.env) :: starEach es X.env := by rfl) (hpl : (backTo pos (starEach es X.env)).any (·.1) = false := by rfl) : PE X (.Call (.Name x p) (e :: es) [] pos) (tCB r t) := by
  intro pins s σ H Q I h
  refine wpAny_Call_Name_kw (ld_blt I hg hm hv ?_ hn hdb)
  exact PyProof.Rows.callWith_type1 (thn (ha pos pins s σ H _ I h) fun us s1 ⟨vs, H1, I1, r1, q1⟩ => hc pins s1 σ H1 vs us Q I1 r1 q1) he hpl
end
end L2

namespace HT
open PySem PyProof.Rows

section
open PySem.SeqAt
open PySem.AutoSeq1 (wpAny_loadPart')
open PySem.MeetsSeq PySem.MeetsSeq2 PySem.MeetsSeq3

end

section
variable {prog : Program} {w : World} {A : Around} {E : Value → Shared → Prop} {s : Shared}

/-- t + u, t not empty -/
theorem cat_tup {t b : Addr} {vs ws : List Value} {Q : Value → Shared → Prop} (ht : IsTup s.heap t vs.toArray) (hb : IsTup s.heap b ws.toArray) (hv : vs ≠ [])
    (h1 : ws = [] → Q (.ref t) s) (h2 : ws ≠ [] → Q (.ref s.heap.objs.size) { s with heap := s.heap.push { cls := .type "tuple", data := .seq (vs ++ ws).toArray } })
    (hsz : vs.length + ws.length ≤ sizeLine) : wpAny (model prog w) A (binaryOp .Add (.ref t) (.ref b)) Q E s := by
  obtain ⟨⟨cls, dd, data, sl⟩, ho, hc, n, hd⟩ := id ht
  obtain ⟨⟨cls2, dd2, data2, sl2⟩, ho2, hc2, n2, hd2⟩ := id hb
  simp only at hc hd hc2 hd2
  subst hc hd hc2 hd2
  have e : vs.toArray ++ ws.toArray = (vs ++ ws).toArray := by simp
  by_cases hw : ws = []
  · exact concat_meets ⟨_, ho, rfl⟩ ⟨_, ho2, rfl⟩ noFill_tuple_add seq_tuple_add PySem.F.slot_tuple_add PySem.F.entry_tuple_add (PySem.F.args_tuple_add_2 _ _)
      (tuple_addW1 t b vs.toArray ws.toArray n n2 dd dd2 sl sl2 (by simpa using hv) (by simp [hw])) ⟨ho, ho2, h1 hw⟩
  · refine concat_meets ⟨_, ho, rfl⟩ ⟨_, ho2, rfl⟩ noFill_tuple_add seq_tuple_add PySem.F.slot_tuple_add PySem.F.entry_tuple_add (PySem.F.args_tuple_add_2 _ _)
      (tuple_addW2 t b vs.toArray ws.toArray n n2 dd dd2 sl sl2 (by simpa using hv) (by simpa using hw) (by rw [List.size_toArray, List.size_toArray]; exact hsz)) ⟨ho, ho2, ?_⟩
    rw [e]
    exact h2 hw

/-! ### t[a:b], not the whole -/
/-- a slice's bound as a place among n (d where it is left out) -/
def sIx (n d : Nat) : Option Int → Nat
  | none => d
  | some v => if v < 0 then (v + (n : Int)).toNat else min v.toNat n
theorem sIx_le (n d : Nat) (hd : d ≤ n) (o : Option Int) : sIx n d o ≤ n := by
  cases o with
  | none => exact hd
  | some v =>
    show (if v < 0 then (v + (n : Int)).toNat else min v.toNat n) ≤ n
    by_cases hv : v < 0
    · rw [if_pos hv]; omega
    · rw [if_neg hv]; exact Nat.min_le_right _ _
theorem clip_eq (v : Int) (n d : Nat) : (if v < 0 then max (v + (n : Int)) 0 else min v (n : Int)) = ((sIx n d (some v) : Nat) : Int) := by
  show (if v < 0 then max (v + (n : Int)) 0 else min v (n : Int)) = (((if v < 0 then (v + (n : Int)).toNat else min v.toNat n) : Nat) : Int)
  by_cases hv : v < 0
  · simp only [if_pos hv]; omega
  · simp only [if_neg hv]; omega
theorem adjust_gen (lo hi : Option Int) (n : Nat) : Builtin.Slice.sliceAdjust lo hi 1 (n : Int) = (((sIx n 0 lo : Nat) : Int), ((sIx n n hi : Nat) : Int)) := by
  have h1 : ¬ ((1 : Int) < 0) := by omega
  unfold Builtin.Slice.sliceAdjust
  simp only [h1, if_false]
  refine Prod.ext ?_ ?_
  · cases lo with
    | none => rfl
    | some v => exact clip_eq v n 0
  · cases hi with
    | none => rfl
    | some v => exact clip_eq v n n
theorem places_gen (i j : Nat) : Builtin.Slice.slicePlaces (i : Int) (j : Int) 1 = j - i := by
  unfold Builtin.Slice.slicePlaces
  have h1 : (1 : Int) > 0 := by omega
  simp only [h1, if_true, Int.ediv_one]
  split <;> omega
theorem slicePart_ {v : Value} {o : Option Int} {Q : Option Int → Shared → Prop} (p : IsPart v o) (h : Q o s) : wpAny (model prog w) A (Builtin.Slice.slicePartIndex v) Q E s := by
  cases p with
  | none => exact slicePart_none h
  | int i t => exact slicePart_int h
theorem sliceApplied_gen {sl : Addr} {vl vu : Value} {lo hi : Option Int} {n : Nat} {Q : Int × Int × Nat → Shared → Prop} (hs : s.heap.IsSliceOf sl vl vu .none) (pl : IsPart vl lo) (pu : IsPart vu hi)
    (h : Q (((sIx n 0 lo : Nat) : Int), 1, sIx n n hi - sIx n 0 lo) s) : wpAny (model prog w) A (Builtin.Slice.sliceApplied (.ref sl) (pure (n : Int))) Q E s := by
  obtain ⟨os, hos, hcs, hds⟩ := id hs
  unfold Builtin.Slice.sliceApplied Builtin.Slice.sliceFields
  refine wpAny_bind (wpAny_bind (wpAny_field hos hds (x := vl) rfl (wpAny_bind (wpAny_field hos hds (x := vu) rfl (wpAny_bind (wpAny_field hos hds (x := .none) rfl (wpAny_pure ?_)))))))
  refine wpAny_bind (slicePart_none ?_)
  show wpAny _ _ (if ((1 : Int) == 0) = true then _ else _) _ _ s
  rw [if_neg (by decide)]
  refine wpAny_bind (slicePart_ pl (wpAny_bind (slicePart_ pu (wpAny_bind (wpAny_pure ?_)))))
  show wpAny _ _ (match Builtin.Slice.sliceAdjust lo hi 1 (n : Int) with | (lo, hi) => pure (lo, (1 : Int), Builtin.Slice.slicePlaces lo hi 1)) _ _ s
  rw [adjust_gen lo hi n]
  show wpAny _ _ (pure (((sIx n 0 lo : Nat) : Int), (1 : Int), Builtin.Slice.slicePlaces ((sIx n 0 lo : Nat) : Int) ((sIx n n hi : Nat) : Int) 1)) _ _ s
  rw [places_gen]
  exact wpAny_pure h
theorem pick_gen (xs : Array Value) (i k : Nat) : ((List.range k).filterMap fun (m : Nat) => xs[((i : Int) + (m : Int) * 1).toNat]?).toArray = ((xs.toList.drop i).take k).toArray := by
  have e : (fun (m : Nat) => xs[((i : Int) + (m : Int) * 1).toNat]?) = fun m => xs[i + m]? := by
    funext m
    have : ((i : Int) + (m : Int) * 1).toNat = i + m := by omega
    rw [this]
  rw [e]
  have := pick_run xs i k
  rw [List.filterMap_map] at this
  have e2 : ((fun x => xs[x]?) ∘ fun x => i + x) = fun m => xs[i + m]? := rfl
  rw [e2] at this
  rw [this]

theorem getItem_tuple_cut {t sl : Addr} {items : Array Value} {vl vu : Value} {lo hi : Option Int} {Q : Value → Shared → Prop} (ht : IsTup s.heap t items) (hs : s.heap.IsSliceOf sl vl vu .none) (pl : IsPart vl lo) (pu : IsPart vu hi)
    (hw : ¬ (sIx items.size 0 lo = 0 ∧ sIx items.size items.size hi = items.size))
    (h : Q (.ref s.heap.objs.size) { s with heap := s.heap.push { cls := .type "tuple", data := .seq ((items.toList.drop (sIx items.size 0 lo)).take (sIx items.size items.size hi - sIx items.size 0 lo)).toArray } })
    (hsz : items.size ≤ sizeLine) : wpAny (model prog w) A (getItem (.ref t) (.ref sl)) Q E s := by
  have htake : sizeOk (.seq ((items.toList.drop (sIx items.size 0 lo)).take (sIx items.size items.size hi - sIx items.size 0 lo)).toArray) := by
    show ((items.toList.drop (sIx items.size 0 lo)).take (sIx items.size items.size hi - sIx items.size 0 lo)).toArray.size ≤ sizeLine
    rw [List.size_toArray, List.length_take, List.length_drop, Array.length_toList]
    omega
  have hj : sIx items.size items.size hi ≤ items.size := sIx_le _ _ (Nat.le_refl _) hi
  obtain ⟨os, hos, hcs, hds⟩ := id hs
  have hTs : s.TypeIs (.ref sl) "slice" := ⟨os, hos, hcs⟩
  unfold getItem
  try with_reducible refine wpAny_holding ?_
  first | refine wpAny_bind (wpAny_pure ?_) | skip
  refine wpAny_bind (wpAny_sequenceKey ht.typeIs (by decide) ?_)
  refine wpAny_bind (wpAny_callSpecial?_slot (name := Str.ofString "__getitem__") ht.typeIs PyProof.Rows.slot_tuple_getitem
    (wpAny_call_entry PyProof.Rows.slot_tuple_getitem ht.typeIs entry_tuple_getitem ?_ (args_tuple_getitem _ _)))
  show wpAny _ _ (Builtin.Tuple.tupleItemsOf (.ref t) >>= _) _ _ s
  refine wpAny_bind (tupleItemsOf_ ht ?_)
  refine wpAny_bind (wpAny_typeOf hTs ?_)
  rw [if_pos (by decide)]
  refine wpAny_bind (sliceApplied_gen hs pl pu ?_)
  have hno : ¬ ((((sIx items.size 0 lo : Nat) : Int) == 0 && (1 : Int) == 1 && (sIx items.size items.size hi - sIx items.size 0 lo) == items.size) = true) := by
    intro q
    rw [Bool.and_eq_true, Bool.and_eq_true] at q
    have q1 : ((sIx items.size 0 lo : Nat) : Int) = 0 := eq_of_beq q.1.1
    have q2 : sIx items.size items.size hi - sIx items.size 0 lo = items.size := eq_of_beq q.2
    exact hw ⟨by omega, by omega⟩
  show wpAny _ _ (if (((sIx items.size 0 lo : Nat) : Int) == 0 && (1 : Int) == 1 && (sIx items.size items.size hi - sIx items.size 0 lo) == items.size) = true then _ else _) _ _ s
  rw [if_neg hno, pick_gen]
  first
    | exact wpAny_bind (m := Builtin.Tuple.tupleExact _) (wpAny_newObj_type (wpAny_pure ⟨_, rfl, wpAny_pure h⟩) htake)
    | exact wpAny_bind (m := Builtin.Tuple.tupleExact _) (wpAny_newObj_type (wpAny_bind (wpAny_pure (wpAny_pure ⟨_, rfl, wpAny_pure h⟩))) htake)
    | exact wpAny_bind (wpAny_bind (m := Builtin.Tuple.tupleExact _) (wpAny_newObj_type (wpAny_pure (wpAny_pure ⟨_, rfl, wpAny_pure h⟩)) htake))
    | exact wpAny_bind (wpAny_bind (m := Builtin.Tuple.tupleExact _) (wpAny_newObj_type (wpAny_pure ⟨_, rfl, wpAny_pure h⟩) htake))
end
end HT

namespace L2
open PySem PySem.Spec PyProof.Rows

/-! ### the parts of a slice -/
abbrev TO := St → Hp → (Option Int → Hp → Prop) → Prop
/-- a slice's part (left out, or an int) -/
def PO (X : Cx) (e : Option Expr) (t : TO) : Prop :=
  ∀ (pins : List (Addr × Obj)) (s : Shared) (σ : St) (H : Hp) (Q : Option Int → Hp → Prop), Inv X pins σ H s → t σ H Q →
    wpAny (model X.prog X.w) X.A (evalPart e X.env) (fun u s' => ∃ o H', Inv X pins σ H' s' ∧ IsPart u o ∧ Q o H') X.xe s
def tNoPart : TO := fun _ H Q => Q none H
def tPart (t : TE) : TO := fun σ H Q => t σ H fun x H1 => ∃ i, x = .int i ∧ Q (some i) H1

section
variable {X : Cx} {e : Expr} {te : TE} {lo hi : Option Expr} {tl th : TO} {pos p2 : Pos}

theorem po_none : PO X none tNoPart := by
  intro pins s σ H Q I h
  rw [evalPart_none]
  exact wpAny_pure ⟨none, H, I, .none, h⟩
theorem po_some (h : PE X e te) : PO X (some e) (tPart te) := by
  intro pins s σ H Q I hw
  rw [evalPart_some]
  refine thn (h pins s σ H _ I hw) fun u s1 ⟨x, H1, I1, r1, q1⟩ => ?_
  obtain ⟨i, rfl, q⟩ := q1
  obtain ⟨t, rfl⟩ := r1
  exact ⟨some i, H1, I1, .int i t, q⟩

/-- what a slice of a value is, by values: the slice object stands at sl -/
def SlR (X : Cx) (r : V → Option Int → Option Int → Hp → VK → Prop) : Prop :=
  ∀ (pins : List (Addr × Obj)) (s : Shared) (σ : St) (H : Hp) (x : V) (v vl vu : Value) (lo hi : Option Int) (sl : Addr) (Q : VK), Inv X pins σ H s → RelV x v → s.heap.IsSliceOf sl vl vu .none → IsPart vl lo → IsPart vu hi → r x lo hi H Q →
    ∃ T id, typeLookup (.type T) "__getitem__" = pure (some (.builtin id)) ∧ s.TypeIs v T ∧ wpAny (model X.prog X.w) X.A (getItem v (.ref sl)) (EP X pins σ Q) X.xe s
theorem SlR.or {r r' : V → Option Int → Option Int → Hp → VK → Prop} (h : SlR X r) (h' : SlR X r') : SlR X (fun x lo hi H Q => r x lo hi H Q ∨ r' x lo hi H Q) := by
  intro pins s σ H x v vl vu lo hi sl Q I rx hs pl pu q
  rcases q with q | q
  · exact h pins s σ H x v vl vu lo hi sl Q I rx hs pl pu q
  · exact h' pins s σ H x v vl vu lo hi sl Q I rx hs pl pu q
def tSl (r : V → Option Int → Option Int → Hp → VK → Prop) (te : TE) (tl th : TO) : TE := fun σ H Q => te σ H fun x H1 => tl σ H1 fun l H2 => th σ H2 fun u H3 => r x l u H3 Q
/-- a[lo:hi], any a -/
theorem pe_slice {r : V → Option Int → Option Int → Hp → VK → Prop} (hr : SlR X r) (he : PE X e te) (hl : PO X lo tl) (hu : PO X hi th) : PE X (.Subscript e (.Slice lo hi none p2) pos) (tSl r te tl th) := by
  intro pins s σ H Q I h
  refine Subscript_ (thn (he pins s σ H _ I h) fun v s1 ⟨x, H1, I1, r1, q1⟩ => ?_)
  refine wpAny_Slice (thn (hl pins s1 σ H1 _ I1 q1) fun vl s2 ⟨l, H2, I2, pl, q2⟩ => thn (hu pins s2 σ H2 _ I2 q2) fun vu s3 ⟨u, H3, I3, pu, q3⟩ => ?_)
  rw [evalPart_none]
  refine wpAny_pure ?_
  have I4 : Inv X pins σ H3 { s3 with heap := s3.heap.push { cls := .type "slice", data := .fields #[vl, vu, .none] } } := I3.kept (t' := s3.toks) fun b ob q => Heap.get?_push_of_some _ q
  obtain ⟨T, id, hT, ht, hg⟩ := hr pins { s3 with heap := s3.heap.push { cls := .type "slice", data := .fields #[vl, vu, .none] } } σ H3 x v vl vu l u s3.heap.objs.size Q I4 r1 (Heap.IsSliceOf.new ..) pl pu q3
  show wpAny (model X.prog X.w) X.A (subscriptTail e (.Slice lo hi none p2) v (.ref s3.heap.objs.size)) (EP X pins σ Q) X.xe { s3 with heap := s3.heap.push { cls := .type "slice", data := .fields #[vl, vu, .none] } }
  exact tail_any (ops := [.ref s3.heap.objs.size, v]) ht hT hg (by with_unfolding_all rfl)

/-- the items of xs[lo:hi] -/
def cutV (xs : List V) (lo hi : Option Int) : List V := (xs.drop (HT.sIx xs.length 0 lo)).take (HT.sIx xs.length xs.length hi - HT.sIx xs.length 0 lo)
theorem cutV_length (xs : List V) (lo hi : Option Int) : (cutV xs lo hi).length ≤ xs.length := by
  unfold cutV
  rw [List.length_take, List.length_drop]
  omega
/-- t[lo:hi], not the whole of it (the whole would be t itself) -/
def rSlT (K : PySem.W.Frag) : V → Option Int → Option Int → Hp → VK → Prop := fun x lo hi H Q => ∃ a xs, x = .ref a ∧ SqT K H a xs ∧
  ¬ (HT.sIx xs.length 0 lo = 0 ∧ HT.sIx xs.length xs.length hi = xs.length) ∧ ∀ p, H p = none → Q (.ref p) (upd H p (.tup (cutV xs lo hi)))
theorem sl_tup : SlR X (rSlT X.K) := by
  intro pins s σ H x v vl vu lo hi sl Q I rx hs pl pu h
  obtain ⟨a, xs, rfl, hx, hw, q⟩ := h
  cases rx
  obtain ⟨its, r, ht, hz⟩ := I.tuple hx
  have hlen : its.toArray.size = xs.length := by rw [List.size_toArray]; exact r.length.symm
  refine ⟨"tuple", _, PyProof.Rows.slot_tuple_getitem.lookup, ht.typeIs, ?_⟩
  refine HT.getItem_tuple_cut ht hs pl pu (by rw [hlen]; exact hw) ?_ (by rw [hlen]; exact hz)
  rw [hlen]
  refine ⟨.ref s.heap.objs.size, _, I.laid (t' := s.toks) (o := .tup (cutV xs lo hi)) (fun b ob q => Heap.get?_push_of_some _ q) (Nat.le_refl _) ?_, rfl, q _ (I.hok.fresh (Nat.le_refl _))⟩
  exact ⟨Nat.le_trans (cutV_length xs lo hi) hz, _, (r.drop (HT.sIx xs.length 0 lo)).take (HT.sIx xs.length xs.length hi - HT.sIx xs.length 0 lo), IsTup.new _ _⟩

/-! ### t < u, t + u -/
/-- t + u, t not empty: u empty gives t itself -/
def rCatT (K : PySem.W.Frag) : R2 := fun x y H Q => ∃ a b xs ys, x = .ref a ∧ y = .ref b ∧ SqT K H a xs ∧ SqT K H b ys ∧ xs ≠ [] ∧ xs.length + ys.length ≤ sizeLine ∧
  (ys = [] → Q (.ref a) H) ∧ (ys ≠ [] → ∀ p, H p = none → Q (.ref p) (upd H p (.tup (xs ++ ys))))
theorem Vals.nil_iff {xs : List V} {us : List Value} (r : Vals xs us) : us = [] ↔ xs = [] := by
  cases r with
  | nil => simp
  | cons _ _ => simp
theorem op_catT : OpR X (binaryOp .Add) (rCatT X.K) := by
  intro pins s σ H x y v u Q I rx ry h
  obtain ⟨a, b, xs, ys, rfl, rfl, ha, hb, hx, hz, q1, q2⟩ := h
  cases rx
  cases ry
  obtain ⟨its, r1, p1, _⟩ := I.tuple ha
  obtain ⟨its2, r2, p2, _⟩ := I.tuple hb
  refine HT.cat_tup p1 p2 (fun z => hx (r1.nil_iff.mp z)) (fun z => ⟨.ref a, H, I, rfl, q1 (r2.nil_iff.mp z)⟩) (fun z => ?_) (by rw [← r1.length, ← r2.length]; exact hz)
  refine ⟨.ref s.heap.objs.size, _, I.laid (t' := s.toks) (o := .tup (xs ++ ys)) (fun b ob q => Heap.get?_push_of_some _ q) (Nat.le_refl _) ?_, rfl, q2 (fun w => z (r2.nil_iff.mpr w)) _ (I.hok.fresh (Nat.le_refl _))⟩
  exact ⟨by rw [List.length_append]; exact hz, _, r1.append r2, IsTup.new _ _⟩
end
end L2

namespace L2
open PySem PySem.Spec PyProof.Rows

/-! ### places -/
/-- the place that an index of any sign means -/
def ixN (n : Nat) (i : Int) : Option Nat := if 0 ≤ i then (if i < n then some i.toNat else none) else if -(n : Int) ≤ i then some (i + n).toNat else none
def atI {α : Type} (xs : List α) (i : Int) : Option α := (ixN xs.length i).bind fun j => xs[j]?
theorem ixN_seq {n : Nat} {i : Int} {j : Nat} (h : ixN n i = some j) : seqIndex? i n = some j ∧ j < n ∧ -(n : Int) ≤ i ∧ i < n := by
  unfold ixN at h
  by_cases h0 : 0 ≤ i
  · rw [if_pos h0] at h
    by_cases h1 : i < n
    · rw [if_pos h1] at h
      have e : i.toNat = j := Option.some.inj h
      exact ⟨by rw [seqIndex_of h0 h1, e], by omega, by omega, h1⟩
    · rw [if_neg h1] at h; cases h
  · rw [if_neg h0] at h
    by_cases h1 : -(n : Int) ≤ i
    · rw [if_pos h1] at h
      have e : (i + n).toNat = j := Option.some.inj h
      exact ⟨by rw [seqIndex_neg (by omega) h1, e], by omega, h1, by omega⟩
    · rw [if_neg h1] at h; cases h
theorem atI_get {α : Type} {xs : List α} {i : Int} {v : α} (h : atI xs i = some v) : ∃ j, seqIndex? i xs.length = some j ∧ xs[j]? = some v ∧ j < xs.length ∧ -(xs.length : Int) ≤ i ∧ i < xs.length := by
  unfold atI at h
  cases e : ixN xs.length i with
  | none => rw [e] at h; cases h
  | some j =>
    rw [e] at h
    obtain ⟨h1, h2, h3, h4⟩ := ixN_seq e
    exact ⟨j, h1, h, h2, h3, h4⟩
theorem atI_nat {α : Type} {xs : List α} {j : Nat} {v : α} (h : xs[j]? = some v) : atI xs (j : Int) = some v := by
  have hj : j < xs.length := (List.getElem?_eq_some_iff.mp h).1
  have e : ixN xs.length (j : Int) = some j := by
    unfold ixN
    rw [if_pos (by omega), if_pos (by omega)]; simp
  unfold atI; rw [e]; exact h
/-! ### what may be subscripted -/
/-- what stands as an index of a plain subscript -/
def PlainIx (b : Expr) : Prop := ∀ o i, subscripted b false o i = operate [o, i] (getItem o i)
/-- a subscript by values -/
def IxR (X : Cx) (r : R2) : Prop :=
  ∀ (value slice : Expr) (pins : List (Addr × Obj)) (s : Shared) (σ : St) (H : Hp) (x y : V) (v u : Value) (Q : VK), Inv X pins σ H s → RelV x v → RelV y u → r x y H Q →
    subscripted slice false v u = operate [v, u] (getItem v u) → wpAny (model X.prog X.w) X.A (subscriptTail value slice v u) (EP X pins σ Q) X.xe s
/-- a call of a builtin's method by values: the receiver, the arguments -/
def MtR (X : Cx) (id : String) (r : V → List V → Hp → VK → Prop) : Prop :=
  ∀ (pins : List (Addr × Obj)) (s : Shared) (σ : St) (H : Hp) (x : V) (xs : List V) (v : Value) (us : List Value) (Q : VK), Inv X pins σ H s → RelV x v → Vals xs us → r x xs H Q →
    wpAny (model X.prog X.w) X.A (call (.builtin id) (v :: us)) (EP X pins σ Q) X.xe s
section
variable {X : Cx} {a b : Expr} {ta tb : TE} {pos : Pos}
theorem IxR.or {r r' : R2} (h : IxR X r) (h' : IxR X r') : IxR X (fun x y H Q => r x y H Q ∨ r' x y H Q) := by
  intro value slice pins s σ H x y v u Q I rx ry q hs
  rcases q with q | q
  · exact h value slice pins s σ H x y v u Q I rx ry q hs
  · exact h' value slice pins s σ H x y v u Q I rx ry q hs
theorem MtR.or {id : String} {r r' : V → List V → Hp → VK → Prop} (h : MtR X id r) (h' : MtR X id r') : MtR X id (fun x xs H Q => r x xs H Q ∨ r' x xs H Q) := by
  intro pins s σ H x xs v us Q I rx rs q
  rcases q with q | q
  · exact h pins s σ H x xs v us Q I rx rs q
  · exact h' pins s σ H x xs v us Q I rx rs q
/-- a[b] -/
theorem pe_ix {r : R2} (hr : IxR X r) (ha : PE X a ta) (hb : PE X b tb) (hs : PlainIx b) : PE X (.Subscript a b pos) (tOp r ta tb) := by
  intro pins s σ H Q I h
  exact Subscript_ (binT ha hb I h fun v u s2 x y H2 I2 rx ry q => hr a b pins s2 σ H2 x y v u Q I2 rx ry q (hs _ _))

def rIxL (K : PySem.W.Frag) : R2 := fun x y H Q => ∃ p xs i v, x = .ref p ∧ y = .int i ∧ SqL K H p xs ∧ atI xs i = some v ∧ Q v H
def rIxT (K : PySem.W.Frag) : R2 := fun x y H Q => ∃ p xs i v, x = .ref p ∧ y = .int i ∧ SqT K H p xs ∧ atI xs i = some v ∧ Q v H
def rIxS : R2 := fun x y H Q => ∃ z i c, x = .str z ∧ y = .int i ∧ z.length ≤ sizeLine ∧ atI z.cps.toList i = some c ∧ Q (.str ⟨#[c]⟩) H
theorem ix_list : IxR X (rIxL X.K) := by
  intro value slice pins s σ H x y v u Q I rx ry h hs
  obtain ⟨p, xs, i, z, rfl, rfl, hq, he, q⟩ := h
  cases rx
  obtain ⟨t, rfl⟩ := ry
  obtain ⟨its, r, pl, hz⟩ := I.list hq
  obtain ⟨j, h1, h2, h3, h4, h5⟩ := atI_get he
  obtain ⟨w, ew, rw'⟩ := r.get h2
  have hl := r.length
  have hn := line63
  have fin : EP X pins σ Q w s := ⟨z, H, I, rw', q⟩
  by_cases h0 : 0 ≤ i
  · have hj : i.toNat = j := by
      rw [seqIndex_of h0 h5] at h1
      exact Option.some.inj h1
    exact item_listR pl.isList h0 (by omega) (by rw [hj]; simpa using ew) fin hs
  · have hj : (i + (its.toArray.size : Int)).toNat = j := by
      rw [seqIndex_neg (by omega) h4] at h1
      rw [List.size_toArray, ← hl]
      exact Option.some.inj h1
    exact subscriptTail_builtinR (x := w) pl.isList.typeIs slot_list_getitem.lookup
      (wpAny_getItem_list_neg (Q := fun r s' => r = w ∧ EP X pins σ Q r s') pl.isList (by omega) (by rw [List.size_toArray] <;> omega) (by omega) (by rw [hj]; simpa using ew) ⟨rfl, fin⟩) hs
theorem ix_tup : IxR X (rIxT X.K) := by
  intro value slice pins s σ H x y v u Q I rx ry h hs
  obtain ⟨p, xs, i, z, rfl, rfl, hq, he, q⟩ := h
  cases rx
  obtain ⟨t, rfl⟩ := ry
  obtain ⟨its, r, pl, hz⟩ := I.tuple hq
  obtain ⟨j, h1, h2, h3, h4, h5⟩ := atI_get he
  obtain ⟨w, ew, rw'⟩ := r.get h2
  have hl := r.length
  have hn := line63
  have fin : EP X pins σ Q w s := ⟨z, H, I, rw', q⟩
  exact subscriptTail_builtinR (x := w) pl.typeIs slot_tuple_getitem.lookup
    (getItem_tuple (j := j) (Q := fun r s' => r = w ∧ EP X pins σ Q r s') pl (by omega) (by omega) (by rw [List.size_toArray, ← hl]; exact h1) (by simpa using ew) ⟨rfl, fin⟩) hs
theorem ix_str : IxR X rIxS := by
  intro value slice pins s σ H x y v u Q I rx ry h hs
  obtain ⟨z, i, c, rfl, rfl, hz, he, q⟩ := h
  obtain ⟨t, rfl⟩ := rx
  obtain ⟨t', rfl⟩ := ry
  obtain ⟨j, h1, h2, h3, h4, h5⟩ := atI_get he
  have hl : z.cps.toList.length = z.length := by simp [Str.length]
  rw [hl] at h1 h4 h5
  have hn := line63
  exact tail_any (typeIs_str s z t) slot_str_getitem.lookup (getItem_str (c := c) (by
    have e1 : decide (i < -(2 ^ 63 : Int)) = false := decide_eq_false (by omega)
    have e2 : decide (i ≥ 2 ^ 63) = false := decide_eq_false (by omega)
    rw [e1, e2, Bool.or_false]) (by rw [h1]; simpa using h2) ⟨.str ⟨#[c]⟩, H, I.tok _, ⟨_, rfl⟩, q⟩) hs
/-! ### xs[i] = v, any sign -/
/-- the list's object behind a store -/
theorem mapSeq_set (its : List Value) (n j : Nat) (u : Value) : Obj.mapSeq (·.setIfInBounds j u) { cls := .type "list", data := .seq its.toArray n } = { cls := .type "list", data := .seq (its.set j u).toArray n } := by
  simp [Obj.mapSeq]
theorem Inv.lst {pins : List (Addr × Obj)} {σ : St} {H : Hp} {s : Shared} {p : Addr} {xs : List V} (I : Inv X pins σ H s) (h : H p = some (.lst xs)) :
    ∃ (its : List Value) (n : Nat), Vals xs its ∧ s.heap.get? p = some { cls := .type "list", data := .seq its.toArray n } ∧ xs.length ≤ sizeLine := by
  obtain ⟨z, its, n, r, e⟩ := I.hok p _ h
  exact ⟨its, n, r, e, z⟩
/-- the list at p is written by an update of its object -/
theorem Inv.lstUpd {pins : List (Addr × Obj)} {σ : St} {H : Hp} {s : Shared} {p : Addr} {xs ys : List V} {its its' : List Value} {n n' : Nat} {f : Obj → Obj} (I : Inv X pins σ H s) (h : H p = some (.lst xs))
    (ho : s.heap.get? p = some { cls := .type "list", data := .seq its.toArray n }) (hf : f { cls := .type "list", data := .seq its.toArray n } = { cls := .type "list", data := .seq its'.toArray n' }) (r : Vals ys its') (hz : ys.length ≤ sizeLine) (t : Nat) :
    Inv X pins σ (upd H p (.lst ys)) { s with heap := s.heap.update p f, toks := t } := by
  have e : (s.heap.update p f).get? p = some { cls := .type "list", data := .seq its'.toArray n' } := by
    rw [Heap.get?_update_self f ho (by rw [hf] <;> rfl), hf]
  refine I.write (x := p) (e := p) (by rw [h]; trivial) (.inl rfl) (fun b u hb q => (Heap.get?_update_other _ _ (Ne.symm hb)).trans q) ⟨_, e⟩ ?_
  exact ⟨hz, its', n', r, e⟩
def rSetL : V → V → V → Hp → (Hp → Prop) → Prop := fun o i v H Q => ∃ p xs k j, o = .ref p ∧ i = .int k ∧ H p = some (.lst xs) ∧ ixN xs.length k = some j ∧ Q (upd H p (.lst (xs.set j v)))
theorem set_list : PSet X rSetL := by
  intro pins s σ H o i v ov iv u Q I ro ri rv h
  obtain ⟨p, xs, k, j, rfl, rfl, hp, hj, q⟩ := h
  cases ro
  obtain ⟨t, rfl⟩ := ri
  obtain ⟨its, n, r, ho, hz⟩ := I.lst hp
  obtain ⟨h1, h2, h3, h4⟩ := ixN_seq hj
  have hl := r.length
  have hn := line63
  have I' : Inv X pins σ (upd H p (.lst (xs.set j v))) { s with heap := s.heap.update p (Obj.mapSeq (·.setIfInBounds j u)) } :=
    I.lstUpd hp ho (mapSeq_set its n j u) (r.set rv j) (by rw [List.length_set]; exact hz) s.toks
  by_cases h0 : 0 ≤ k
  · have hk : k.toNat = j := by
      rw [seqIndex_of h0 h4] at h1
      exact Option.some.inj h1
    exact PySem.W.ki_setAt ho h0 (by omega) (by rw [List.size_toArray, ← hl]; exact h4) (by rw [hk]; exact ⟨_, I', q⟩)
  · have hk : (k + (its.toArray.size : Int)).toNat = j := by
      rw [seqIndex_neg (by omega) h3] at h1
      rw [List.size_toArray, ← hl]
      exact Option.some.inj h1
    exact PySem.W.ki_setBack ho (by omega) (by rw [List.size_toArray, ← hl]; exact h3) (by omega) (by rw [hk]; exact ⟨_, I', q⟩)

/-! ### slices -/
/-! ### in, not in: flat items -/
/-! ### len, list(x), tuple(x) of any list or tuple that is read -/
theorem call_len_seq : CallR X (.builtin "len") (fun xs H Q => ∃ p ys, xs = [.ref p] ∧ (SqL X.K H p ys ∨ SqT X.K H p ys) ∧ Q (.int ys.length) H) := by
  intro pins s σ H xs us Q I r h
  obtain ⟨p, ys, rfl, hq, q⟩ := h
  obtain ⟨u, rfl, rx⟩ := vals1 r
  cases rx
  have hn := line63
  rcases hq with hq | hq
  · obtain ⟨its, r', pl, hz⟩ := I.list hq
    have hlen := r'.length
    exact Calls.call_len_list pl.isList (by simp only [List.size_toArray] <;> omega) ⟨.int ys.length, H, I.tok _, ⟨s.toks + 1, by rw [List.size_toArray, hlen]⟩, q⟩
  · obtain ⟨its, r', pl, hz⟩ := I.tuple hq
    have hlen := r'.length
    exact len_tuple pl (by simp only [List.size_toArray] <;> omega) ⟨.int ys.length, H, I.tok _, ⟨s.toks + 1, by rw [List.size_toArray, hlen]⟩, q⟩
theorem call_len_str : CallR X (.builtin "len") (fun xs H Q => ∃ z, xs = [.str z] ∧ z.length ≤ sizeLine ∧ Q (.int z.length) H) := by
  intro pins s σ H xs us Q I r h
  obtain ⟨z, rfl, hz, q⟩ := h
  obtain ⟨u, rfl, t, rfl⟩ := vals1 r
  have hn := line63
  exact len_str (by omega) ⟨.int z.length, H, I.tok _, ⟨_, rfl⟩, q⟩
theorem CallR.or {f : Value} {r r' : List V → Hp → VK → Prop} (h : CallR X f r) (h' : CallR X f r') : CallR X f (fun xs H Q => r xs H Q ∨ r' xs H Q) := by
  intro pins s σ H xs us Q I rs q
  rcases q with q | q
  · exact h pins s σ H xs us Q I rs q
  · exact h' pins s σ H xs us Q I rs q
theorem call_list_of : CallR X (.type "list") (fun xs H Q => ∃ p ys, xs = [.ref p] ∧ (SqL X.K H p ys ∨ SqT X.K H p ys) ∧ ∀ l, H l = none → Q (.ref l) (upd H l (.lst ys))) := by
  intro pins s σ H xs us Q I r h
  obtain ⟨p, ys, rfl, hq, q⟩ := h
  obtain ⟨u, rfl, rx⟩ := vals1 r
  cases rx
  have fin : ∀ (its : List Value), Vals ys its → ys.length ≤ sizeLine → ∀ (h' : Heap) (c' : Nat), (∀ b o', s.heap.get? b = some o' → h'.get? b = some o') →
      h'.get? s.heap.objs.size = some { cls := .type "list", dict := none, data := .seq its.toArray c', slots := #[] } → EP X pins σ Q (.ref s.heap.objs.size) { s with heap := h' } := fun its r' hz h' c' kp e =>
    ⟨.ref s.heap.objs.size, _, I.laid (t' := s.toks) kp (Nat.le_refl _) (show ObjOk X.prog X.w _ h' _ (.lst ys) from ⟨hz, its, c', r', e⟩), rfl, q _ (I.hok.fresh (Nat.le_refl _))⟩
  rcases hq with hq | hq
  · obtain ⟨its, r', pl, hz⟩ := I.list hq
    have hlen := r'.length
    obtain ⟨o, ho, hc, n, hd⟩ := pl.isList
    exact call_list_seq p (.inl rfl) ho hc hd (fun h' c' kp e => fin its r' hz h' c' kp e) (by simp only [List.size_toArray] <;> omega)
  · obtain ⟨its, r', pl, hz⟩ := I.tuple hq
    have hlen := r'.length
    obtain ⟨o, ho, hc, n, hd⟩ := pl
    exact call_list_seq p (.inr rfl) ho hc hd (fun h' c' kp e => fin its r' hz h' c' kp e) (by simp only [List.size_toArray] <;> omega)
theorem call_tuple_of : CallR X (.type "tuple") (fun xs H Q => ∃ p ys, xs = [.ref p] ∧ ((SqL X.K H p ys ∧ ∀ l, H l = none → Q (.ref l) (upd H l (.tup ys))) ∨ (SqT X.K H p ys ∧ Q (.ref p) H))) := by
  intro pins s σ H xs us Q I r h
  obtain ⟨p, ys, rfl, h⟩ := h
  obtain ⟨u, rfl, rx⟩ := vals1 r
  cases rx
  rcases h with ⟨hq, q⟩ | ⟨hq, q⟩
  · obtain ⟨its, r', pl, hz⟩ := I.list hq
    have hlen := r'.length
    refine call_tuple_list pl.isList (fun h' kp => ?_) (by simp only [List.size_toArray] <;> omega)
    have I1 : Inv X pins σ H { s with heap := h' } := I.kept (t' := s.toks) kp
    have I2 : Inv X pins σ (upd H h'.objs.size (.tup ys)) { s with heap := h'.push { cls := .type "tuple", data := .seq its.toArray } } :=
      I1.laid (t' := s.toks) (fun b o e => Heap.get?_push_of_some _ e) (Nat.le_refl _) (show ObjOk X.prog X.w _ _ _ (.tup ys) from ⟨hz, its, r', IsTup.new _ _⟩)
    exact ⟨.ref h'.objs.size, _, I2, rfl, q _ (I1.hok.fresh (Nat.le_refl _))⟩
  · obtain ⟨its, r', pl, hz⟩ := I.tuple hq
    exact call_tuple_same pl ⟨.ref p, H, I, rfl, q⟩

/-! ### the call of a builtin's method: o.m(..) -/
/-- the value is of that builtin type -/
def tyV (K : PySem.W.Frag) (T : String) (x : V) (H : Hp) : Prop := match x with
  | .str _ => T = "str"
  | .int _ => T = "int"
  | .ref p => (T = "list" ∧ ∃ xs, SqL K H p xs) ∨ (T = "tuple" ∧ ∃ o, K.lookup p = some o ∧ o.cls = .type "tuple" ∧ o.dict = none) ∨
      (T = "dict" ∧ ((∃ kvs, H p = some (.dK kvs)) ∨ ∃ kvs, H p = some (.dT kvs))) ∨ (T = "set" ∧ ∃ S n, H p = some (.set S n))
  | _ => False
theorem tyV_is {pins : List (Addr × Obj)} {σ : St} {H : Hp} {s : Shared} {T : String} {x : V} {v : Value} (I : Inv X pins σ H s) (r : RelV x v) (ty : tyV X.K T x H) :
    s.TypeIs v T ∧ ∀ a, v = .ref a → ∃ ob, s.heap.get? a = some ob ∧ ob.dict = none := by
  cases x with
  | str z =>
    obtain ⟨t, rfl⟩ := r
    cases (show T = "str" from ty)
    exact ⟨typeIs_str s z t, fun _ e => nomatch e⟩
  | int i =>
    obtain ⟨t, rfl⟩ := r
    cases (show T = "int" from ty)
    exact ⟨typeIs_int s i t, fun _ e => nomatch e⟩
  | ref p =>
    cases r
    rcases ty with ⟨rfl, xs, hq⟩ | ⟨rfl, o, hk, hc, hd⟩ | ⟨rfl, hk⟩ | ⟨rfl, S, n, hk⟩
    · obtain ⟨its, _, pl, _⟩ := I.list hq
      refine ⟨pl.isList.typeIs, fun a e => ?_⟩
      cases e
      obtain ⟨o, n, e, c, hd, _⟩ := pl
      exact ⟨o, e, hd⟩
    · refine ⟨⟨o, I.kIn p o hk, hc⟩, fun a e => ?_⟩
      cases e
      exact ⟨o, I.kIn _ o hk, hd⟩
    · have z : ∃ o, s.heap.get? p = some o ∧ o.ExactDict := by
        rcases hk with ⟨kvs, hk⟩ | ⟨kvs, hk⟩
        · obtain ⟨_, _, _, _, o, _, _, e, ex, _⟩ := I.hok p _ hk
          exact ⟨o, e, ex⟩
        · obtain ⟨_, _, _, _, o, _, _, e, ex, _⟩ := I.hok p _ hk
          exact ⟨o, e, ex⟩
      obtain ⟨o, e, ex⟩ := z
      refine ⟨⟨o, e, ex.1⟩, fun a e2 => ?_⟩
      cases e2
      exact ⟨o, e, ex.2.1⟩
    · obtain ⟨o, _, _, _, e, ex, _⟩ := I.hok p _ hk
      refine ⟨⟨o, e, ex.1⟩, fun a e2 => ?_⟩
      cases e2
      exact ⟨o, e, ex.2.1⟩
  | _ => exact False.elim ty
def tBM (K : PySem.W.Frag) (T : String) (r : V → List V → Hp → VK → Prop) (to : TE) (t : TA) : TE := fun σ H Q => to σ H fun x H1 => tyV K T x H1 ∧ t σ H1 fun xs H2 => r x xs H2 Q
variable {o e : Expr} {es : List Expr} {to : TE} {t : TA} {name : Str} {apos cpos : Pos} {T id : String} {r : V → List V → Hp → VK → Prop}
theorem pe_bm (pa : PlainAttrs T) (slot : Slot T name id) (hty : typeOf (.builtin id) = pure (.type "method_descriptor")) (hm : MtR X id r) (ho : PE X o to) (ha : PA X (e :: es) t)
    (hbase : attributeBase o name X.env (eval o X.env) = eval o X.env := by rfl)
    (hfew : ((backTo cpos (starEach (e :: es) X.env)).all (fun x => !x.1) && (backToKw cpos (keywordEach [] X.env)).all (fun x => x.1.isSome)
      && decide ((e :: es).length + ([] : List Keyword).length + (if ([] : List Keyword).isEmpty then 0 else 1) < 30)) = true := by rfl)
    (hline : (apos.endLine == cpos.line) = true := by rfl) (hs : starEach (e :: es) X.env = (false, eval e X.env) :: starEach es X.env := by rfl) (hplain : (backTo cpos (starEach es X.env)).any (·.1) = false := by rfl) :
    PE X (.Call (.Attribute o name apos) (e :: es) [] cpos) (tBM X.K T r to t) := by
  intro pins s σ H Q I h
  refine wpAny_Call_method_late hbase hfew hline rfl (thn (ho pins s σ H _ I h) fun v s1 ⟨x, H1, I1, r1, ty, q1⟩ => ?_)
  obtain ⟨h1, h2⟩ := tyV_is I1 r1 ty
  refine ⟨T, id, pa, slot, hty, h1, h2, ?_⟩
  have hA := ha cpos pins s1 σ H1 _ I1 q1
  rw [hs] at hA ⊢
  refine Calls.callWith_builtin (by show (false || (backTo cpos (starEach es X.env)).any (·.1)) = false; rw [hplain] <;> rfl) (Calls.evalArgs_plain ?_)
  exact thn hA fun us s2 ⟨vs, H2, I2, r2, q2⟩ => hm pins s2 σ H2 x vs v us Q I2 r1 r2 q2
/- xs.append(e), list.index on a module's tuple .. are MtR facts of 06m -/
end
end L2

namespace L2
open PySem PySem.Spec PyProof.Rows

def MtM (X : Cx) (id : String) (r : V → List V → Hp → VK → Prop) : Prop :=
  ∀ (pins : List (Addr × Obj)) (s : Shared) (σ : St) (H : Hp) (x : V) (xs : List V) (v : Value) (us : List Value) (Q : VK), Inv X pins σ H s → RelV x v → Vals xs us → r x xs H Q →
    wpAny (model X.prog X.w) X.A (call (.builtin id) (v :: us)) (EP X pins σ Q) X.xe s

/-! ### lists of values -/
theorem Vals.one : ∀ {x : V} {us : List Value}, Vals [x] us → ∃ u, us = [u] ∧ RelV x u
  | _, _, .cons r .nil => ⟨_, rfl, r⟩
theorem Vals.two : ∀ {x y : V} {us : List Value}, Vals [x, y] us → ∃ u v, us = [u, v] ∧ RelV x u ∧ RelV y v
  | _, _, _, .cons r (.cons q .nil) => ⟨_, _, rfl, r, q⟩
theorem Vals.zero : ∀ {us : List Value}, Vals [] us → us = []
  | _, .nil => rfl
theorem Vals.dropLast {xs : List V} {us : List Value} (h : Vals xs us) : Vals xs.dropLast us.dropLast := by
  induction h with
  | nil => exact .nil
  | cons r t ih =>
    cases t with
    | nil => exact .nil
    | cons q t' => exact .cons r ih
theorem Vals.eraseIdx : ∀ {xs : List V} {us : List Value} (i : Nat), Vals xs us → Vals (xs.eraseIdx i) (us.eraseIdx i)
  | _, _, _, .nil => .nil
  | _, _, 0, .cons _ t => t
  | _, _, i + 1, .cons r t => .cons r (Vals.eraseIdx i t)
theorem Vals.reverse {xs : List V} {us : List Value} (h : Vals xs us) : Vals xs.reverse us.reverse := by
  induction h with
  | nil => exact .nil
  | cons r t ih => rw [List.reverse_cons, List.reverse_cons]; exact Vals.append ih (.cons r .nil)
theorem Vals.rep {xs : List V} {us : List Value} (h : Vals xs us) : ∀ k : Nat, Vals (List.replicate k xs).flatten (List.replicate k us).flatten
  | 0 => .nil
  | k + 1 => by
    rw [List.replicate_succ, List.replicate_succ, List.flatten_cons, List.flatten_cons]
    exact Vals.append h (Vals.rep h k)
theorem foldl_rep (its : List Value) : ∀ (k : Nat) (acc : List Value),
    List.foldl (fun x1 x2 => x1 ++ x2) acc.toArray (List.replicate k its.toArray) = (acc ++ (List.replicate k its).flatten).toArray
  | 0, acc => by simp
  | k + 1, acc => by
    have e : acc.toArray ++ its.toArray = (acc ++ its).toArray := by simp
    have e2 : (acc ++ its) ++ (List.replicate k its).flatten = acc ++ (List.replicate (k + 1) its).flatten := by
      rw [List.replicate_succ, List.flatten_cons, List.append_assoc]
    rw [← e2, ← foldl_rep its k (acc ++ its), ← e, List.replicate_succ, List.foldl_cons]

section
variable {X : Cx} {pins : List (Addr × Obj)} {σ : St} {H : Hp} {s : Shared} {l b : Addr} {xs ys zs : List V}

/-! ### the two steps: a tracked list is rewritten, a new list is laid -/
theorem Inv.lset {its its' : List Value} {n : Nat} {f : Array Value → Array Value} {t' : Nat} (I : Inv X pins σ H s) (hH : H l = some (.lst xs))
    (e : s.heap.get? l = some { cls := .type "list", data := .seq its.toArray n }) (hf : f its.toArray = its'.toArray) (hv : Vals ys its') (hz : ys.length ≤ sizeLine) :
    Inv X pins σ (upd H l (.lst ys)) { s with heap := s.heap.update l (Obj.mapSeq f), toks := t' } := by
  have q := PySem.IsL.update e f
  rw [hf] at q
  refine I.write (x := l) (e := l) (by rw [hH]; exact trivial) (.inl rfl) (fun b' u hb hu => (Heap.get?_update_other s.heap (Obj.mapSeq f) (Ne.symm hb)).trans hu) ⟨_, q⟩ ?_
  exact ⟨hz, its', _, hv, q⟩
theorem Inv.lnew {its : List Value} {t' : Nat} (I : Inv X pins σ H s) (hv : Vals ys its) (hz : ys.length ≤ sizeLine) :
    Inv X pins σ (upd H s.heap.objs.size (.lst ys)) { s with heap := s.heap.push { cls := .type "list", data := .seq its.toArray }, toks := t' } :=
  I.laid (fun _ _ q => Heap.get?_push_of_some _ q) (Nat.le_refl _) ⟨hz, its, 0, hv, Heap.get?_push_size _ rfl⟩
theorem Inv.fresh (I : Inv X pins σ H s) : H s.heap.objs.size = none := I.hok.fresh (Nat.le_refl _)
theorem Inv.lstM (I : Inv X pins σ H s) (hH : H l = some (.lst xs)) : xs.length ≤ sizeLine ∧ ∃ (its : List Value) (n : Nat), Vals xs its ∧ xs.length = its.length ∧ s.heap.get? l = some { cls := .type "list", data := .seq its.toArray n } := by
  obtain ⟨z, its, n, r, e⟩ := I.hok l _ hH
  exact ⟨z, its, n, r, r.length, e⟩

theorem notLongL {n : Nat} (h : n ≤ sizeLine) : Builtin.List.listTooLong n = false := by
  unfold Builtin.List.listTooLong
  exact decide_eq_false (by omega)
end

section
variable {X : Cx}

/-! ### methods -/
def rAppend : V → List V → Hp → VK → Prop := fun x vs H Q => ∃ l xs y, x = .ref l ∧ vs = [y] ∧ H l = some (.lst xs) ∧ xs.length < sizeLine ∧ Q .non (upd H l (.lst (xs ++ [y])))
theorem mt_append : MtM X "list.append" rAppend := by
  intro pins s σ H x vs v us Q I rx rv h
  obtain ⟨l, xs, y, rfl, rfl, hH, hz, q⟩ := h
  cases rx
  obtain ⟨u, rfl, ru⟩ := rv.one
  obtain ⟨z, its, n, r, hl, e⟩ := I.lstM hH
  refine call_meets F.slot_list_append ⟨_, e, rfl⟩ F.entry_list_append (F.args_list_append_2 _ _) (PySem.list_append l its.toArray n u (by rw [List.size_toArray]; omega)) ⟨e, ?_⟩
  refine ⟨.non, _, I.lset (its' := its ++ [u]) hH e (by simp) (r.append (.cons ru .nil)) ?_, rfl, q⟩
  rw [List.length_append, List.length_singleton]
  omega

/-! ### list + list, list += list, list * int -/
def rCat : R2 := fun x y H Q => ∃ l b xs zs, x = .ref l ∧ y = .ref b ∧ H l = some (.lst xs) ∧ H b = some (.lst zs) ∧ xs.length + zs.length ≤ sizeLine ∧ ∀ p, H p = none → Q (.ref p) (upd H p (.lst (xs ++ zs)))
theorem op_cat : OpR X (binaryOp .Add) rCat := by
  intro pins s σ H x y v u Q I rx ry h
  obtain ⟨l, b, xs, zs, rfl, rfl, hH, hB, hz, q⟩ := h
  cases rx
  cases ry
  obtain ⟨z, its, n, r, hl, e⟩ := I.lstM hH
  obtain ⟨z2, its2, n2, r2, hl2, e2⟩ := I.lstM hB
  refine PySem.P.add_list e e2 ?_ (by rw [List.size_toArray, List.size_toArray]; omega)
  have ea : its.toArray ++ its2.toArray = (its ++ its2).toArray := by simp
  rw [ea]
  exact ⟨.ref _, _, I.lnew (t' := s.toks) (r.append r2) (by rw [List.length_append]; omega), rfl, q _ I.fresh⟩
/-- a list times an int (a negative one is nothing) -/
def rRep : R2 := fun x y H Q => ∃ l k xs, x = .ref l ∧ y = .int k ∧ H l = some (.lst xs) ∧ -(2 ^ 63) ≤ k ∧ k < 2 ^ 63 ∧ xs.length * k.toNat ≤ sizeLine ∧
  ∀ p, H p = none → Q (.ref p) (upd H p (.lst (List.replicate k.toNat xs).flatten))
theorem len_rep {α : Type} (xs : List α) (k : Nat) : (List.replicate k xs).flatten.length = k * xs.length := by
  induction k with
  | zero => simp
  | succ k ih => rw [List.replicate_succ, List.flatten_cons, List.length_append, ih, Nat.succ_mul, Nat.add_comm]
theorem op_rep : OpR X (binaryOp .Mult) rRep := by
  intro pins s σ H x y v u Q I rx ry h
  obtain ⟨l, k, xs, rfl, rfl, hH, h1, h2, hz, q⟩ := h
  cases rx
  obtain ⟨t, rfl⟩ := ry
  obtain ⟨z, its, n, r, hl, e⟩ := I.lstM hH
  have hlen : its.toArray.size * k.toNat ≤ sizeLine := by rw [List.size_toArray, ← hl]; exact hz
  have hcap : ¬ its.toArray.size * k.toNat > (2 ^ 63 - 1) / 8 := by
    have : (sizeLine : Nat) ≤ (2 ^ 63 - 1) / 8 := by decide
    omega
  have hfit : ¬ (!Builtin.List.listFitsIndex k) = true := by
    rw [fitsIndex_both h1 h2]
    exact Bool.false_ne_true
  have hlong : ¬ Builtin.List.listTooLong (its.toArray.size * k.toNat) = true := by
    rw [notLongL hlen]
    exact Bool.false_ne_true
  have hnew : List.foldl (fun x1 x2 => x1 ++ x2) #[] (List.replicate (if its.toArray.isEmpty = true then 0 else k.toNat) its.toArray) = (List.replicate k.toNat its).flatten.toArray := by
    have f0 : ∀ m : Nat, List.foldl (fun x1 x2 => x1 ++ x2) #[] (List.replicate m its.toArray) = (List.replicate m its).flatten.toArray := fun m => by
      have := foldl_rep its m []
      rw [List.nil_append] at this
      exact this
    rw [f0]
    cases its with
    | nil => simp
    | cons a r' => rw [if_neg (by simp)]
  refine wpAny_binaryOp_repeat_ref (T := "list") (U := "int") (by decide) ⟨_, e, rfl⟩ (fun s' => typeIs_int s' k t) noFill_list_mul F.fills_int_mul F.slot_int_rmul repeat_list F.slot_int_index.lookup
    (call_meets F.slot_int_rmul (typeIs_int s k t) F.entry_int_rmul (F.args_int_rmul_2 _ _) (int___rmul___int_list k t l its.toArray n)
      ⟨e, rfl, ⟨_, e, rfl⟩, call_meets F.slot_list_mul ⟨_, e, rfl⟩ F.entry_list_mul (F.args_list_mul_2 _ _) (AutoListH.list___mul___list_int_3 l its.toArray n k t hfit hcap hlong) ⟨e, ?_⟩⟩)
  rw [hnew]
  exact ⟨.ref _, _, I.lnew (t' := s.toks) (r.rep k.toNat) (by rw [len_rep, Nat.mul_comm]; exact hz), rfl, q _ I.fresh⟩

/-! ### del xs[i] -/
end

/-! ### xs[a:b] = ys -/
section
variable {prog : Program} {w : World} {A : Around} {E : Value → Shared → Prop} {s : Shared}
theorem splice_eq (its its2 : List Value) (a c : Nat) : its.toArray.extract 0 a ++ its2.toArray ++ its.toArray.extract c its.toArray.size = (its.take a ++ its2 ++ its.drop c).toArray := by
  apply Array.toList_inj.mp
  first
    | (simp
       exact List.take_of_length_le (by simp))
    | simp [List.take_of_length_le]
    | simp
theorem bounds_run {a c n : Nat} (hac : a ≤ c) (hc : c ≤ n) : sliceBounds (some (a : Int)) (some (c : Int)) none n = ((a : Int), (c : Int), 1) := by
  simp only [sliceBounds, Option.getD_none]
  have h1 : ¬ ((a : Int) < 0) := by omega
  have h2 : ¬ ((c : Int) < 0) := by omega
  simp only [h1, h2, if_false, show (1 : Int) > 0 by decide, if_true]
  congr 1
  · omega
  · congr 1; omega
set_option maxRecDepth 100000 in
/-- list.__setitem__ with a slice of step one and another list -/
theorem setItem_slice {l b sl : Addr} {items new : Array Value} {n n2 : Nat} {vl vu : Value} {a c : Nat} {Q : Unit → Shared → Prop}
    (e : s.heap.get? l = some { cls := .type "list", data := .seq items n }) (e2 : s.heap.get? b = some { cls := .type "list", data := .seq new n2 }) (hne : l ≠ b)
    (hs : s.heap.IsSliceOf sl vl vu .none) (pl : IsPart vl (some (a : Int))) (pu : IsPart vu (some (c : Int))) (hac : a ≤ c) (hc : c ≤ items.size)
    (hsz : items.size + new.size ≤ sizeLine) (h : Q () { s with heap := s.heap.update l (Obj.mapSeq fun xs => xs.extract 0 a ++ new ++ xs.extract c xs.size) }) :
    wpAny (model prog w) A (setItem (.ref l) (.ref sl) (.ref b)) Q E s := by
  have hl : s.heap.IsList l items := PySem.IsL.isList e
  have hb : s.heap.IsList b new := PySem.IsL.isList e2
  obtain ⟨os, hos, hcs, hds⟩ := id hs
  have hTs : s.TypeIs (.ref sl) "slice" := ⟨os, hos, hcs⟩
  have hstep : ¬ ((rawPart none == rawInt 0) = true) := Bool.false_ne_true
  have hsame : Builtin.List.listSameRef (.ref l) (.ref b) = false := by
    unfold Builtin.List.listSameRef
    exact beq_eq_false_iff_ne.mpr hne
  have hmax : (max (a : Int) (c : Int)).toNat = c := by omega
  have hz' : ((fun xs : Array Value => xs.extract 0 a ++ new ++ xs.extract c xs.size) items).size ≤ sizeLine + 1 := by
    simp only [Array.size_append, Array.size_extract]
    omega
  unfold setItem
  try with_reducible refine wpAny_holding ?_
  first | refine wpAny_bind (wpAny_pure ?_) | skip
  refine wpAny_bind (wpAny_sequenceKey hl.typeIs (by decide) ?_)
  refine wpAny_bind (wpAny_callSpecial?_slot (name := Str.ofString "__setitem__") hl.typeIs slot_list_setitem
    (wpAny_call_entry slot_list_setitem hl.typeIs entry_list_setitem ?_ (args_list_setitem _ _ _)))
  show wpAny _ _ (Builtin.List.listSubscript? (.ref sl) >>= _) _ _ s
  refine wpAny_bind ?_
  unfold Builtin.List.listSubscript?
  refine wpAny_bind (wpAny_specialOf hTs slice_no_index ?_)
  simp only [Option.isNone_none, if_true]
  refine wpAny_pure ?_
  show wpAny _ _ (typeOf (.ref sl) >>= _) _ _ s
  refine wpAny_bind (wpAny_typeOf hTs ?_)
  first
    | rw [if_neg (by decide)]
    | refine PySem.W.KFB.if_not (by decide) ?_
  rw [listSliceParts_eq]
  refine wpAny_bind (wpAny_bind (wpAny_field hos hds (x := .none) rfl (wpAny_bind (wpAny_listPart .none ?_))))
  rw [if_neg hstep]
  refine wpAny_bind (wpAny_field hos hds (x := vl) rfl (wpAny_bind (wpAny_listPart pl ?_)))
  refine wpAny_bind (wpAny_field hos hds (x := vu) rfl (wpAny_bind (wpAny_listPart pu (wpAny_pure ?_))))
  first
    | simp only [hsame, Bool.false_eq_true, if_false]
    | refine PySem.W.KFB.if_not hsame ?_
    | (dsimp only
       rw [if_neg (by rw [hsame]; exact Bool.false_ne_true)])
  refine wpAny_bind (m := Builtin.List.listAllItems (.ref b) "must assign iterable to extended slice") ?_
  unfold Builtin.List.listAllItems
  refine wpAny_bind (wpAny_typeOf hb.typeIs ?_)
  first
    | refine PySem.W.KFB.if_so (by decide) ?_
    | rw [if_pos (by decide)]
    | simp only [beq_self_eq_true, Bool.true_or, if_true]
  unfold Builtin.List.listItems
  refine wpAny_bind (wpAny_seqItems e2 rfl (wpAny_pure ?_))
  refine wpAny_bind (wpAny_bind (wpAny_seqItems e rfl (wpAny_pure ?_)))
  refine wpAny_bind (wpAny_of_eq ((sliceIndices_raw (some (a : Int)) (some (c : Int)) none items.size (by simp)).trans (congrArg (pure : Int × Int × Int → Sem (Int × Int × Int)) (bounds_run hac hc))) ?_)
  show wpAny _ _ (if ((1 : Int) == 1) = true then _ else _) _ _ s
  rw [if_pos (by decide)]
  refine wpAny_bind (wpAny_rule ?_)
  first
    | simp only [notLongL hsz, Bool.false_eq_true, if_false]
    | refine PySem.W.KFB.if_not (notLongL hsz) ?_
  first | refine wpAny_bind (wpAny_pure ?_) | skip
  show wpAny _ _ (updateSeq l (fun xs => xs.extract 0 ((a : Int)).toNat ++ new ++ xs.extract (max (a : Int) (c : Int)).toNat xs.size) >>= _) _ _ s
  rw [hmax, Int.toNat_natCast]
  refine wpAny_bind (wpAny_updateSeq (hz := Nat.le_trans (Nat.le_add_right _ _) hsz) (_hz' := hz') e rfl ?_)
  refine wpAny_bind (wpAny_letGo ?_)
  first
    | exact wpAny_bind (wpAny_pure (wpAny_pure ⟨.none, rfl, wpAny_pure h⟩))
    | exact wpAny_pure ⟨.none, rfl, wpAny_pure h⟩
end

section
variable {X : Cx}
/-- xs[a:c] = ys of another list, at the value level: sl is the slice object that was just made -/
theorem set_slice {pins : List (Addr × Obj)} {s : Shared} {σ : St} {H : Hp} {l b sl : Addr} {xs ys : List V} {a c : Int} {vl vu : Value} {Q : Unit → Shared → Prop} (I : Inv X pins σ H s)
    (hH : H l = some (.lst xs)) (hB : H b = some (.lst ys)) (hne : l ≠ b) (hs : s.heap.IsSliceOf sl vl vu .none) (ra : RelV (.int a) vl) (rc : RelV (.int c) vu) (h0 : 0 ≤ a) (hac : a ≤ c) (hc : c ≤ xs.length)
    (hz : xs.length + ys.length ≤ sizeLine) (h : ∀ s', Inv X pins σ (upd H l (.lst (xs.take a.toNat ++ ys ++ xs.drop c.toNat))) s' → Q () s') :
    wpAny (model X.prog X.w) X.A (setItem (.ref l) (.ref sl) (.ref b)) Q X.xe s := by
  obtain ⟨ta, rfl⟩ := ra
  obtain ⟨tc, rfl⟩ := rc
  obtain ⟨z, its, n, r, hl, e⟩ := I.lstM hH
  obtain ⟨z2, its2, n2, r2, hl2, e2⟩ := I.lstM hB
  obtain ⟨a', rfl⟩ := Int.eq_ofNat_of_zero_le h0
  obtain ⟨c', rfl⟩ := Int.eq_ofNat_of_zero_le (Int.le_trans h0 hac)
  simp only [Int.toNat_natCast] at h
  refine setItem_slice (a := a') (c := c') e e2 hne hs (.int _ _) (.int _ _) (by omega) (by rw [List.size_toArray]; omega) (by rw [List.size_toArray, List.size_toArray]; omega) (h _ ?_)
  refine I.lset (its' := its.take a' ++ its2 ++ its.drop c') (t' := s.toks) hH e ?_ (Vals.append (Vals.append (r.take _) r2) (r.drop _)) ?_
  · exact splice_eq its its2 a' c'
  · rw [List.length_append, List.length_append, List.length_take, List.length_drop]
    omega
end
end L2

namespace L2
open PySem PySem.Spec PyProof.Rows

theorem Vals.ints : ∀ {ns : List Int} {us : List Value}, Vals (ns.map V.int) us → IntsAre us ns
  | [], us, h => by
    rw [List.map_nil] at h
    cases h
    exact IntsAre.nil
  | n :: ns, us, h => by
    rw [List.map_cons] at h
    cases h with
    | cons r t =>
      obtain ⟨k, rfl⟩ := r
      exact IntsAre.cons n k (Vals.ints t)
theorem Vals.strs : ∀ {xs : List Str} {us : List Value}, Vals (xs.map V.str) us → StrsAre us xs
  | [], us, h => by
    rw [List.map_nil] at h
    cases h
    exact StrsAre.nil
  | x :: xs, us, h => by
    rw [List.map_cons] at h
    cases h with
    | cons r t =>
      obtain ⟨k, rfl⟩ := r
      exact StrsAre.cons x k (Vals.strs t)
theorem Vals.bls : ∀ {bs : List Bool} {us : List Value}, Vals (bs.map V.bl) us → us = bs.map Value.bool
  | [], us, h => by
    rw [List.map_nil] at h
    cases h
    rfl
  | b :: bs, us, h => by
    rw [List.map_cons] at h
    cases h with
    | cons r t =>
      cases r
      rw [Vals.bls t, List.map_cons]
theorem Vals.ref1 {a : Addr} {us : List Value} (r : Vals [V.ref a] us) : us = [Value.ref a] := by
  cases r with
  | cons r t =>
    cases t
    cases r
    rfl
/-! ### the library's walks over a list of ints, kept objects alone -/
section
variable {prog : Program} {w : World} {A : Around} {E : Value → Shared → Prop} {s : Shared} {l : Addr} {its : List Value} {ns : List Int} {Q : Value → Shared → Prop}
theorem sum_raw (hh : A.handled = none) (hl : s.heap.IsList l its.toArray) (hi : IntsAre its ns)
    (h : ∀ h' tk t', (∀ b o, s.heap.get? b = some o → h'.get? b = some o) → Q (.int ns.sum t') { s with heap := h', toks := tk }) : wpAny (model prog w) A (call (.builtin "sum") [.ref l]) Q E s := by
  obtain ⟨xs, e⟩ := hi.allInts.items
  have hn : numsOf (intItems xs).toList = ns := by rw [← e]; exact hi.numsOf
  rw [nums_intItems] at hn
  rw [e] at hl
  refine PySem.sum_intListG hh hl fun h' tk t' hk => ?_
  have := h h' tk t' hk
  rw [preSum_eq, List.take_of_length_le (by simp), hn]; exact this
end

/-! ### the calls, by values (CallR of 03t; MtR of 06l) -/
section
variable {X : Cx}
/-- sum(xs) of a list of ints -/
def rSum (K : PySem.W.Frag) : List V → Hp → VK → Prop := fun vs H Q => ∃ (a : Addr) (ns : List Int), vs = [V.ref a] ∧ SqL K H a (ns.map V.int) ∧ Q (.int ns.sum) H
theorem cr_sum (hc : X.calm = true) : CallR X (.builtin "sum") (rSum X.K) := by
  intro pins s σ H vs us Q I r h
  obtain ⟨a, ns, rfl, hs, q⟩ := h
  obtain ⟨its, rv, hl, _⟩ := I.list hs
  rw [Vals.ref1 r]
  exact sum_raw (I.ok.hd hc) hl.isList rv.ints fun h' tk t' hk => ⟨.int _, H, I.kept hk, ⟨_, rfl⟩, q⟩
/-! sorted, sort (fewer than 64 items: the library's own bound) -/
end

/-! ### list.index, flat items -/
section
variable {X : Cx}
end

/-! ### type(x) of an own instance; is, is not of a module's class -/
section
variable {X : Cx}
end

/-! ### any(xs), all(xs) of a list of bools -/
theorem iter_any {prog : Program} {w : World} {A : Around} {E : Value → Shared → Prop} {s : Shared} {l : Addr} {items : Array Value} {Q : Value → Shared → Prop} (hl : s.heap.IsList l items)
    (h : ∀ s₂ : Shared, s₂ = { s with heap := s.heap.push { cls := .type "list_iterator", data := .fields #[.ref l, .int 0 0] } } →
      (s₂.heap.IsListIter s.heap.objs.size l 0 ∧ s₂.heap.IsList l items) → l ≠ s.heap.objs.size → Q (.ref s.heap.objs.size) s₂) : wpAny (model prog w) A (pyIter (.ref l)) Q E s := by
  have hlt : l < s.heap.objs.size := by obtain ⟨_, e, _⟩ := hl; exact Heap.lt_size e
  exact wpAny_pyIter_list hl (h _ rfl ⟨⟨_, Heap.get?_push_size _ rfl, rfl, rfl⟩, hl.push _⟩ (Nat.ne_of_lt hlt))
theorem truth_bools {prog : Program} {w : World} {A : Around} {bs : List Bool} {its : List Value} (e : its = bs.map Value.bool) :
    TruthOf prog w A (fun i v => its.toArray[i]? = some v) (fun i => bs.getD i false) := fun i v s Q E hv hq => by
  have hv' : its[i]? = some v := by simpa using hv
  rw [e, List.getElem?_map] at hv'
  obtain ⟨b, hb, rfl⟩ := Option.map_eq_some_iff.mp hv'
  have hg : bs.getD i false = b := by rw [List.getD_eq_getElem?_getD, hb] <;> rfl
  have hq' : Q (bs.getD i false) s := hq
  rw [hg] at hq'
  exact wpAny_truthy_bool hq'
theorem all_range : ∀ bs : List Bool, (List.range bs.length).all (fun i => bs.getD i false) = bs.all id
  | [] => rfl
  | b :: bs => by
    rw [List.length_cons, List.range_succ_eq_map, List.all_cons, List.all_map, List.all_cons, ← all_range bs]
    all_goals rfl
section
variable {X : Cx}
def rAll (K : PySem.W.Frag) : List V → Hp → VK → Prop := fun vs H Q => ∃ (a : Addr) (bs : List Bool), vs = [V.ref a] ∧ SqL K H a (bs.map V.bl) ∧ Q (.bl (bs.all id)) H
theorem cr_all (hc : X.calm = true) : CallR X (.builtin "all") (rAll X.K) := by
  intro pins s σ H vs us Q I r h
  obtain ⟨a, bs, rfl, hs, q⟩ := h
  obtain ⟨its, rv, hl, _⟩ := I.list hs
  rw [Vals.ref1 r]
  have hb := rv.bls
  refine call_all_walk (iter_any hl.isList fun s₂ e2 st hne => ?_)
  subst e2
  refine ⟨_, _, _, _, _, _, _, rfl, Walks.list (A := X.A.in1) (I.ok.hd hc) _ a hne its.toArray, st, truth_bools hb, fun h' tk hk => ?_⟩
  refine ⟨.bl _, H, I.kept fun b o eo => hk b o (fun hmem => ?_) (Heap.get?_push_of_some _ eo), ?_, q⟩
  · rcases List.mem_cons.mp hmem with e1 | hmem
    · exact absurd (e1 ▸ Heap.lt_size eo) (Nat.lt_irrefl _)
    · cases hmem
  · show Value.bool _ = Value.bool _
    rw [← all_range, hb, List.size_toArray, List.length_map]
end

/-! ### == and != of data at any depth: none, bools, ints, texts, lists, tuples -/
mutual
inductive Dp (K : PySem.W.Frag) (H : Hp) : V → PyData → Prop
  | non : Dp K H .non .none
  | bl (b : Bool) : Dp K H (.bl b) (.bool b)
  | int (i : Int) : Dp K H (.int i) (.int i)
  | str (x : Str) : Dp K H (.str x) (.str x)
  | lst {a : Addr} {xs : List V} {ds : List PyData} : SqL K H a xs → DpAll K H xs ds → Dp K H (.ref a) (.list ds)
  | tup {a : Addr} {xs : List V} {ds : List PyData} : SqT K H a xs → DpAll K H xs ds → Dp K H (.ref a) (.tuple ds)
inductive DpAll (K : PySem.W.Frag) (H : Hp) : List V → List PyData → Prop
  | nil : DpAll K H [] []
  | cons {v : V} {vs : List V} {d : PyData} {ds : List PyData} : Dp K H v d → DpAll K H vs ds → DpAll K H (v :: vs) (d :: ds)
end
section
variable {X : Cx} {pins : List (Addr × Obj)} {σ : St} {H : Hp} {s : Shared}
mutual
theorem Dp.reads (I : Inv X pins σ H s) : ∀ (d : PyData) (v : V) (u : Value), Dp X.K H v d → RelV v u → ∃ as, Reads s.heap u d as
  | .none, _, _, h, r => by
    cases h
    cases r
    exact ⟨_, Reads.none⟩
  | .bool b, _, _, h, r => by
    cases h
    cases r
    exact ⟨_, Reads.bool b⟩
  | .int i, _, _, h, r => by
    cases h
    obtain ⟨t, rfl⟩ := r
    exact ⟨_, Reads.int i t⟩
  | .str x, _, _, h, r => by
    cases h
    obtain ⟨t, rfl⟩ := r
    exact ⟨_, Reads.str x t⟩
  | .list ds, _, _, h, r => by
    cases h with
    | lst hs ha =>
      cases r
      obtain ⟨its, rv, ⟨o, n, ho, hc, _, hd⟩, _⟩ := I.list hs
      obtain ⟨as, hr⟩ := Dp.readsAll I ds _ its ha rv
      exact ⟨_, Reads.list ho hc hd hr⟩
  | .tuple ds, _, _, h, r => by
    cases h with
    | tup hs ha =>
      cases r
      obtain ⟨its, rv, ⟨o, ho, hc, n, hd⟩, _⟩ := I.tuple hs
      obtain ⟨as, hr⟩ := Dp.readsAll I ds _ its ha rv
      exact ⟨_, Reads.tuple ho hc hd hr⟩
  | .dict _, _, _, h, _ => by cases h
theorem Dp.readsAll (I : Inv X pins σ H s) : ∀ (ds : List PyData) (vs : List V) (us : List Value), DpAll X.K H vs ds → Vals vs us → ∃ as, ReadsAll s.heap us ds as
  | [], _, _, h, r => by
    cases h
    cases r
    exact ⟨_, ReadsAll.nil⟩
  | d :: ds, _, _, h, r => by
    cases h with
    | cons h1 h2 =>
      cases r with
      | cons r1 r2 =>
        obtain ⟨as, q1⟩ := Dp.reads I d _ _ h1 r1
        obtain ⟨bs, q2⟩ := Dp.readsAll I ds _ _ h2 r2
        exact ⟨_, ReadsAll.cons q1 q2⟩
end
end
section
variable {X : Cx}
def rEqD (K : PySem.W.Frag) : R2 := fun x y H Q => ∃ d e, Dp K H x d ∧ Dp K H y e ∧ SeqAt.shaped d = true ∧ SeqAt.shaped e = true ∧ Q (.bl (PyData.eqv d e)) H
def rNeD (K : PySem.W.Frag) : R2 := fun x y H Q => ∃ d e, Dp K H x d ∧ Dp K H y e ∧ SeqAt.shaped d = true ∧ SeqAt.shaped e = true ∧ Q (.bl (!PyData.eqv d e)) H
theorem op_eqD (hu : X.A.units + 64 < cLine) : OpR X (compareOp .Eq) (rEqD X.K) := by
  intro pins s σ H x y v u Q I rx ry h
  obtain ⟨d, e, hd, he, sd, se, q⟩ := h
  obtain ⟨as, r1⟩ := Dp.reads I d x v hd rx
  obtain ⟨bs, r2⟩ := Dp.reads I e y u he ry
  exact SeqAt.compareEq_shaped r1 r2 sd se hu ⟨.bl _, H, I, rfl, q⟩
theorem op_neD (hu : X.A.units + 64 < cLine) : OpR X (compareOp .NotEq) (rNeD X.K) := by
  intro pins s σ H x y v u Q I rx ry h
  obtain ⟨d, e, hd, he, sd, se, q⟩ := h
  obtain ⟨as, r1⟩ := Dp.reads I d x v hd rx
  obtain ⟨bs, r2⟩ := Dp.reads I e y u he ry
  exact SeqAt.compareNe_shaped r1 r2 sd se hu ⟨.bl _, H, I, rfl, q⟩
end
end L2

namespace L2
open PySem PySem.Spec PyProof.Rows
abbrev CellAt (h : Heap) (c : Addr) (v : Option Value) : Prop := h.IsCell c v
def relS (scope sc : Scope) : Scope :=
  { scope with names := scope.names.map fun (n, k) => if (k == .free && sc.kind == .function && sc.names.lookup n == some .cell) then (n, .cell) else (n, k) }

def cloFrom (cells : List (Str × Addr)) : List (Str × NameKind) → List (Str × Addr) → List (Str × Addr)
  | [], acc => acc
  | (n, k) :: r, acc => if k == .free then cloFrom cells r ((n, (cells.lookup n).getD 0) :: acc) else cloFrom cells r acc

theorem closure_loop (env : Env) (f : Str × NameKind → List (Str × Addr) → Sem (ForInStep (List (Str × Addr))))
    (hf : ∀ n k c, f (n, k) c = if k == .free then (do let a ← cellOf env n; pure (.yield ((n, a) :: c))) else pure (.yield c)) :
    ∀ (names : List (Str × NameKind)) (acc : List (Str × Addr)), (∀ y ∈ names, y.2 = .free → ∃ c, env.cells.lookup y.1 = some c) → forIn names acc f = pure (cloFrom env.cells names acc)
  | [], acc, _ => by rw [List.forIn_nil]; rfl
  | (n, k) :: r, acc, h => by
    rw [List.forIn_cons, hf]
    have ih := fun acc => closure_loop env f hf r acc fun y hy => h y (List.mem_cons_of_mem _ hy)
    unfold cloFrom
    by_cases hk : (k == NameKind.free) = true
    · rw [if_pos hk, if_pos hk]
      obtain ⟨c, hc⟩ := h (n, k) List.mem_cons_self (by simpa using hk)
      have e : cellOf env n = pure c := by unfold cellOf; rw [hc]
      rw [e]
      have e2 : (env.cells.lookup n).getD 0 = c := by rw [hc]; rfl
      rw [e2]
      exact ih _
    · rw [if_neg hk, if_neg hk]
      exact ih _
theorem closure_ok {scope : Scope} {env : Env} (h : ∀ y ∈ scope.names, y.2 = .free → ∃ c, env.cells.lookup y.1 = some c) : closureFor scope env = pure (cloFrom env.cells scope.names []) := by
  simp only [closureFor]
  rw [closure_loop env _ (fun n k c => rfl) scope.names [] h]
  rfl

theorem mem_lookup {α : Type} : ∀ {l : List (Str × α)} {n : Str} {c : α}, (n, c) ∈ l → ∃ c', l.lookup n = some c'
  | (k, v) :: r, n, c, h => by
    rw [List.lookup_cons]
    cases hb : n == k with
    | true => exact ⟨_, rfl⟩
    | false =>
      rcases List.mem_cons.mp h with e | h
      · cases e; simp at hb
      · exact mem_lookup h

theorem cloFrom_mem {cells : List (Str × Addr)} : ∀ {names : List (Str × NameKind)} {acc : List (Str × Addr)} {n : Str} {c : Addr}, (n, c) ∈ cloFrom cells names acc → (n, c) ∈ acc ∨ ((n, .free) ∈ names ∧ c = (cells.lookup n).getD 0)
  | [], _, _, _, h => .inl h
  | (m, k) :: r, acc, n, c, h => by
    unfold cloFrom at h
    split at h
    · rename_i hk
      have hk : k = .free := by simpa using hk
      rcases cloFrom_mem h with h | ⟨h1, h2⟩
      · rcases List.mem_cons.mp h with e | h
        · cases e; exact .inr ⟨hk ▸ List.mem_cons_self, rfl⟩
        · exact .inl h
      · exact .inr ⟨List.mem_cons_of_mem _ h1, h2⟩
    · rcases cloFrom_mem h with h | ⟨h1, h2⟩
      · exact .inl h
      · exact .inr ⟨List.mem_cons_of_mem _ h1, h2⟩
theorem cloFrom_acc {cells : List (Str × Addr)} : ∀ {names : List (Str × NameKind)} {acc : List (Str × Addr)} {p : Str × Addr}, p ∈ acc → p ∈ cloFrom cells names acc
  | [], _, _, h => h
  | (m, k) :: r, acc, p, h => by
    unfold cloFrom
    split
    · exact cloFrom_acc (List.mem_cons_of_mem _ h)
    · exact cloFrom_acc h
theorem cloFrom_has {cells : List (Str × Addr)} : ∀ {names : List (Str × NameKind)} {acc : List (Str × Addr)} {n : Str}, (n, .free) ∈ names → (n, (cells.lookup n).getD 0) ∈ cloFrom cells names acc
  | (m, k) :: r, acc, n, h => by
    unfold cloFrom
    rcases List.mem_cons.mp h with e | h
    · cases e
      exact cloFrom_acc List.mem_cons_self
    · split
      · exact cloFrom_has h
      · exact cloFrom_has h

theorem cells_mem : ∀ {names : List (Str × NameKind)} {h : Heap} {acc : List (Str × Addr)} {x : Str} {c : Addr}, (x, c) ∈ cellsFrom h.objs.size names acc →
    (x, c) ∈ acc ∨ ((x, .cell) ∈ names ∧ h.objs.size ≤ c ∧ CellAt (pushCells h names) c none)
  | [], _, _, _, _, h => .inl h
  | (n, k) :: r, h, acc, x, c, hm => by
    unfold cellsFrom at hm
    unfold pushCells
    split at hm
    · rename_i hk
      rw [if_pos hk]
      have hk : k = .cell := by simpa using hk
      rw [← Heap.size_push h { cls := .type "cell", data := .cell none }] at hm
      rcases cells_mem hm with hm | ⟨h1, h2, h3⟩
      · rcases List.mem_cons.mp hm with e | hm
        · cases e
          exact .inr ⟨hk ▸ List.mem_cons_self, Nat.le_refl _, _, pushCells_keeps r _ _ _ (Heap.get?_push_size _ rfl), rfl⟩
        · exact .inl hm
      · rw [Heap.size_push] at h2
        exact .inr ⟨List.mem_cons_of_mem _ h1, Nat.le_of_succ_le h2, h3⟩
    · rename_i hk
      rw [if_neg hk]
      rcases cells_mem hm with hm | ⟨h1, h2, h3⟩
      · exact .inl hm
      · exact .inr ⟨List.mem_cons_of_mem _ h1, h2, h3⟩
theorem cells_acc : ∀ {names : List (Str × NameKind)} {n : Nat} {acc : List (Str × Addr)} {p : Str × Addr}, p ∈ acc → p ∈ cellsFrom n names acc
  | [], _, _, _, h => h
  | (m, k) :: r, n, acc, p, h => by
    unfold cellsFrom
    split
    · exact cells_acc (List.mem_cons_of_mem _ h)
    · exact cells_acc h
theorem cells_has : ∀ {names : List (Str × NameKind)} {n : Nat} {acc : List (Str × Addr)} {x : Str}, (x, .cell) ∈ names → ∃ c, (x, c) ∈ cellsFrom n names acc
  | (m, k) :: r, n, acc, x, h => by
    unfold cellsFrom
    rcases List.mem_cons.mp h with e | h
    · cases e
      exact ⟨n, cells_acc List.mem_cons_self⟩
    · split
      · exact cells_has h
      · exact cells_has h
theorem cells_inj : ∀ {names : List (Str × NameKind)} {h : Heap} {acc : List (Str × Addr)} {x y : Str} {c : Addr}, (∀ p ∈ acc, p.2 < h.objs.size) → (∀ x y c, (x, c) ∈ acc → (y, c) ∈ acc → x = y) →
    (x, c) ∈ cellsFrom h.objs.size names acc → (y, c) ∈ cellsFrom h.objs.size names acc → x = y
  | [], _, _, _, _, _, _, hi, h1, h2 => hi _ _ _ h1 h2
  | (n, k) :: r, h, acc, x, y, c, hl, hi, h1, h2 => by
    unfold cellsFrom at h1 h2
    split at h1
    · rename_i hk
      rw [if_pos hk] at h2
      rw [← Heap.size_push h { cls := .type "cell", data := .cell none }] at h1 h2
      refine cells_inj (h := h.push _) (fun p hp => ?_) (fun x y c a b => ?_) h1 h2
      · rw [Heap.size_push]
        rcases List.mem_cons.mp hp with rfl | hp
        · exact Nat.lt_succ_self _
        · exact Nat.lt_succ_of_lt (hl p hp)
      · rcases List.mem_cons.mp a with e | a <;> rcases List.mem_cons.mp b with e' | b
        · cases e; cases e'; rfl
        · cases e; exact absurd (hl _ b) (Nat.lt_irrefl _)
        · cases e'; exact absurd (hl _ a) (Nat.lt_irrefl _)
        · exact hi _ _ _ a b
    · rename_i hk
      rw [if_neg hk] at h2
      exact cells_inj hl hi h1 h2

theorem newEnv_comp {M : Model} {A : Around} {E : Value → Shared → Prop} {s : Shared} {scope : Scope} {globals : Addr} {closure : List (Str × Addr)} {qual : Str} {func : Option Addr} {code : Value} {around : Env} {builtins : Addr} {Q : Env → Shared → Prop}
    (h : Q (newEnv scope s.heap.objs.size globals (cellsFrom (s.heap.objs.size + 1) scope.names closure) qual func code (some around) builtins)
      { s with heap := pushCells (s.heap.push { cls := .type "dict", data := .dict #[] }) scope.names }) :
    wpAny M A (newFunctionEnv scope globals closure [] qual func code (some around) builtins) Q E s := by
  simp only [newFunctionEnv, Option.isSome_some, if_true]
  refine wpAny_bind (wpAny_alloc ?_)
  refine wpAny_bind (wpAny_layCells _ (fun n k c => rfl) scope.names closure _ _ ?_)
  rw [show ({ s with heap := s.heap.push { cls := .type "dict", data := .dict #[] } } : Shared).heap.objs.size = s.heap.objs.size + 1 from Heap.size_push ..]
  rw [List.forIn_nil]
  exact wpAny_bind (wpAny_pure (wpAny_pure h))

/-- every name of the written scope, in the scope that runs -/
theorem lookup_relS {sc : Scope} : ∀ {names : List (Str × NameKind)} {x : Str} {k : NameKind},
    (names.map fun (n, k) => if (k == NameKind.free && sc.kind == .function && sc.names.lookup n == some .cell) then (n, NameKind.cell) else (n, k)).lookup x = some k →
    ∃ k', names.lookup x = some k' ∧ (k = k' ∨ (k' = .free ∧ k = .cell))
  | [], _, _, h => by simp at h
  | (n, k₀) :: r, x, k, h => by
    have ih := @lookup_relS sc r x k
    have h' : List.lookup x ((if (k₀ == NameKind.free && sc.kind == .function && sc.names.lookup n == some .cell) = true then (n, NameKind.cell) else (n, k₀)) :: (r.map _)) = some k := h
    cases hx : x == n with
    | true =>
      simp only [List.lookup_cons, hx]
      by_cases hc : (k₀ == NameKind.free && sc.kind == .function && sc.names.lookup n == some .cell) = true
      · rw [if_pos hc] at h'
        simp only [List.lookup_cons, hx] at h'
        cases h'
        simp only [Bool.and_eq_true, beq_iff_eq] at hc
        exact ⟨k₀, rfl, .inr ⟨hc.1.1, rfl⟩⟩
      · rw [if_neg hc] at h'
        simp only [List.lookup_cons, hx] at h'
        cases h'
        exact ⟨_, rfl, .inl rfl⟩
    | false =>
      simp only [List.lookup_cons, hx]
      by_cases hc : (k₀ == NameKind.free && sc.kind == .function && sc.names.lookup n == some .cell) = true
      · rw [if_pos hc] at h'
        simp only [List.lookup_cons, hx] at h'
        exact ih h'
      · rw [if_neg hc] at h'
        simp only [List.lookup_cons, hx] at h'
        exact ih h'
/-- the names of a comprehension's block: its own (with their places in N), or captured -/
structure BlkOk (N : List Str) (sc scope : Scope) (own : List (Str × Nat)) : Prop where
  kind : scope.kind = .function
  uniq : ∀ y ∈ scope.names, scope.names.lookup y.1 = some y.2
  ix : ∀ p ∈ own, N[p.2]? = some p.1
  free : ∀ y ∈ scope.names, y.2 = .free → sc.names.lookup y.1 = some .cell ∨ sc.names.lookup y.1 = some .free
  own : ∀ y ∈ scope.names, y.2 = .local ∨ y.2 = .cell → y.1 ∈ own.map (·.1) ∨ y.1 ∉ N
/-- the slots of the block's own names forgotten -/
def wipe (σ : St) : List Nat → St
  | [] => σ
  | v :: vs => (wipe σ vs).set v none
theorem wipe_length (σ : St) : ∀ vs : List Nat, (wipe σ vs).length = σ.length
  | [] => rfl
  | v :: vs => by unfold wipe; rw [List.length_set, wipe_length σ vs]
theorem wipe_some {σ : St} {i : Nat} {x : V} : ∀ {vs : List Nat}, (wipe σ vs)[i]? = some (some x) → σ[i]? = some (some x) ∧ i ∉ vs
  | [], h => ⟨h, by simp⟩
  | v :: vs, h => by
    unfold wipe at h
    by_cases hi : v = i
    · subst hi
      by_cases hv : v < (wipe σ vs).length
      · rw [List.getElem?_set_self hv] at h; cases h
      · rw [List.getElem?_eq_none (by simpa using hv)] at h; cases h
    · rw [List.getElem?_set_ne hi] at h
      obtain ⟨h1, h2⟩ := wipe_some h
      exact ⟨h1, by simp only [List.mem_cons, not_or]; exact ⟨fun e => hi e.symm, h2⟩⟩

/-- the context of a block that starts at s, its iterator's objects at fp -/
abbrev Cx.blk (X : Cx) (s : Shared) (H : Hp) (scope : Scope) (cenv : Env) (fp : List Addr) : Cx := { X with s_0 := s, H_0 := H, env := cenv, outer := X.stack, ex := fp, fn := fun x => scope.names.lookup x == some .cell, pn := [], xe := fun _ _ => False }
section
variable {X : Cx} {pins : List (Addr × Obj)} {σ : St} {H : Hp} {s : Shared}
theorem block_start {scope : Scope} {own : List (Str × Nat)} {fp : List Addr} (I : Inv X pins σ H s) (ok : BlkOk X.N X.env.scope scope own) (hN : X.N.Nodup) (hfp : ∀ b ∈ fp, FpOk X pins H b ∧ b < s.heap.objs.size) :
    Inv (X.blk s H scope (compEnvC scope (cellsFrom (s.heap.objs.size + 1) scope.names (cloFrom X.env.cells scope.names [])) s.heap.objs.size X.env) fp) [] (wipe σ (own.map (·.2))) H { s with heap := pushCells (s.heap.push { cls := .type "dict", data := .dict #[] }) scope.names } := by
  have hfree : ∀ y ∈ scope.names, y.2 = .free → ∃ c, X.env.cells.lookup y.1 = some c := fun y hy e => by
    rcases ok.free y hy e with k | k
    · exact I.ok.has _ (.inl k)
    · exact I.ok.has _ (.inr k)
  generalize hcenv : compEnvC scope (cellsFrom (s.heap.objs.size + 1) scope.names (cloFrom X.env.cells scope.names [])) s.heap.objs.size X.env = cenv
  have kp : ∀ b o, s.heap.get? b = some o → (pushCells (s.heap.push { cls := .type "dict", data := .dict #[] }) scope.names).get? b = some o := fun b o e => pushCells_keeps _ _ _ _ (Heap.get?_push_of_some _ e)
  have hL : cenv.locals = s.heap.objs.size := by rw [← hcenv]; rfl
  have hcl : cenv.cells = cellsFrom (s.heap.objs.size + 1) scope.names (cloFrom X.env.cells scope.names []) := by rw [← hcenv]; rfl
  have hsc : cenv.scope = relS scope X.env.scope := by rw [← hcenv]; rfl
  rw [← Heap.size_push s.heap { cls := .type "dict", data := .dict #[] }] at hcl
  have cm : ∀ {y c}, (y, c) ∈ cloFrom X.env.cells scope.names [] → X.env.cells.lookup y = some c ∧ c < s.heap.objs.size := fun {y c} hm => by
    rcases cloFrom_mem hm with hm | ⟨h1, rfl⟩
    · cases hm
    · obtain ⟨c, hc⟩ := hfree _ h1 rfl
      rw [hc]
      obtain ⟨w, z⟩ := I.cell _ _ hc
      exact ⟨rfl, z.lt⟩
  have mem : ∀ {y c}, cenv.cells.lookup y = some c → (X.env.cells.lookup y = some c ∧ c < s.heap.objs.size) ∨ (s.heap.objs.size + 1 ≤ c ∧ CellAt (pushCells (s.heap.push { cls := .type "dict", data := .dict #[] }) scope.names) c none) := fun {y c} e => by
    rw [hcl] at e
    rcases cells_mem (PySem.mem_of_lookup e) with hm | ⟨_, h2, h3⟩
    · exact .inl (cm hm)
    · rw [Heap.size_push] at h2; exact .inr ⟨h2, h3⟩
  have look : ∀ {y}, scope.names.lookup y = some .free → ∃ c, cenv.cells.lookup y = some c ∧ X.env.cells.lookup y = some c := fun {y} hl => by
    have hy : (y, NameKind.free) ∈ scope.names := PySem.mem_of_lookup hl
    obtain ⟨c', e'⟩ := mem_lookup (cells_acc (names := scope.names) (n := (s.heap.push { cls := .type "dict", data := .dict #[] }).objs.size) (cloFrom_has (cells := X.env.cells) (acc := []) hy))
    rw [← hcl] at e'
    refine ⟨c', e', ?_⟩
    rw [hcl] at e'
    rcases cells_mem (PySem.mem_of_lookup e') with hm | ⟨h1, _, _⟩
    · exact (cm hm).1
    · have := ok.uniq _ h1
      rw [hl] at this; cases this
  have okB : (X.blk s H scope cenv fp).Ok := by
    refine ⟨I.ok.mod, by show cenv.scope.kind = _; rw [hsc]; exact ok.kind, by show cenv.globals = _; rw [← hcenv]; exact I.ok.glob, by show cenv.builtins = _; rw [← hcenv]; exact I.ok.blt, by show s.heap.objs.size ≤ cenv.locals; rw [hL]; exact Nat.le_refl _,
      fun y z c e1 e2 => ?_, fun y hy => ?_, fun y c z e => ?_, I.ok.hd, I.ok.frames, .inl rfl, fun b hb => ⟨?_, fun y c e z => ?_⟩, I.bs, Nat.le_trans I.ok.bsz I.sz, fun b o e hb => ?_, fun b hb z => ?_, I.stack, I.stkFree⟩
    · have e1 : cenv.cells.lookup y = some c := e1
      have e2 : cenv.cells.lookup z = some c := e2
      rw [hcl] at e1 e2
      refine cells_inj (fun p hp => ?_) (fun y z c a b => I.ok.inj y z c (cm a).1 (cm b).1) (PySem.mem_of_lookup e1) (PySem.mem_of_lookup e2)
      rw [Heap.size_push]
      exact Nat.lt_succ_of_lt (cm (y := p.1) (c := p.2) hp).2
    · show ∃ c, cenv.cells.lookup y = some c
      have key : ∀ k, cenv.kindOf y = some k → (k = .cell ∨ k = .free) → ∃ c, cenv.cells.lookup y = some c := fun k hk hk' => by
        unfold Env.kindOf at hk
        rw [hsc] at hk
        obtain ⟨k', e, r⟩ := lookup_relS hk
        have : k' = .cell ∨ k' = .free := by
          rcases r with rfl | ⟨rfl, _⟩
          · exact hk'
          · exact .inr rfl
        rcases this with rfl | rfl
        · obtain ⟨c, hm⟩ := cells_has (n := (s.heap.push { cls := .type "dict", data := .dict #[] }).objs.size) (acc := cloFrom X.env.cells scope.names []) (PySem.mem_of_lookup e)
          obtain ⟨c', e'⟩ := mem_lookup hm
          exact ⟨c', by rw [hcl]; exact e'⟩
        · obtain ⟨c, h1, _⟩ := look e
          exact ⟨c, h1⟩
      rcases hy with hy | hy
      · exact key _ hy (.inl rfl)
      · exact key _ hy (.inr rfl)
    · have z : (scope.names.lookup y == some NameKind.cell) = true := z
      have z : scope.names.lookup y = some .cell := by simpa using z
      have e : cenv.cells.lookup y = some c := e
      rw [hcl] at e
      rcases cells_mem (PySem.mem_of_lookup e) with hm | ⟨_, h2, _⟩
      · rcases cloFrom_mem hm with hm | ⟨h1, _⟩
        · cases hm
        · have q := ok.uniq _ h1
          rw [z] at q; cases q
      · rw [Heap.size_push] at h2
        exact Nat.le_of_succ_le h2
    · show b ≠ cenv.locals
      rw [hL]; exact Nat.ne_of_lt (hfp b hb).2
    · have e : cenv.cells.lookup y = some c := e
      rcases mem e with ⟨h1, _⟩ | ⟨h1, _⟩
      · exact (hfp b hb).1.2.2.2.2.1 y c h1 z
      · have h2 : s.heap.objs.size + 1 ≤ b := by rw [← z]; exact h1
        exact absurd (Nat.lt_of_lt_of_le (hfp b hb).2 (Nat.le_of_succ_le h2)) (Nat.lt_irrefl _)
    · rcases (hfp b hb).1.2.2.2.1 with z | z
      · exact I.ok.noex b o e z
      · exact absurd (Nat.lt_of_lt_of_le (Heap.lt_size e) (Nat.le_trans I.ok.bsz z)) (Nat.lt_irrefl _)
    · rcases List.mem_cons.mp (I.stkSub b z) with z | z
      · exact (hfp b hb).1.2.1 z
      · exact (hfp b hb).1.2.2.1 z
  refine ⟨okB, rfl, I.bare, Un.kept kp, ⟨fun _ => none, ?_, fun i y av e1 e2 e3 => ?_⟩, fun y c e => ?_, ?_, fun y c e => ?_, fun p hp => ?_, I.hok.kept kp, by rw [wipe_length]; exact I.len⟩
  · show Heap.Ns _ cenv.locals _
    rw [hL]
    exact Heap.Ns.keeps (Heap.Ns.new ..) fun b o e => pushCells_keeps _ _ _ _ e
  · obtain ⟨e2, hne⟩ := wipe_some e2
    have hfr : scope.names.lookup y = some .free ∧ (cenv.kindOf y = some .cell ∨ cenv.kindOf y = some .free) := by
      have key : ∀ k, cenv.scope.names.lookup y = some k → k = .local ∨ k = .cell ∨ k = .free → scope.names.lookup y = some .free ∧ (cenv.kindOf y = some .cell ∨ cenv.kindOf y = some .free) := fun k hk hk' => by
        have hk0 := hk
        rw [hsc] at hk
        obtain ⟨k', e, r⟩ := lookup_relS hk
        have no : ¬ (k' = .local ∨ k' = .cell) := fun hh => by
          rcases ok.own _ (PySem.mem_of_lookup e) hh with e' | e'
          · obtain ⟨p, hp, hpy⟩ := List.mem_map.mp e'
            have e3 := ok.ix p hp
            have : p.1 = y := hpy
            rw [this] at e3
            exact hne (List.mem_map.mpr ⟨p, hp, nodup_ix hN e3 e1⟩)
          · exact e' (List.mem_of_getElem? e1)
        rcases r with rfl | ⟨rfl, rfl⟩
        · rcases hk' with rfl | rfl | rfl
          · exact absurd (.inl rfl) no
          · exact absurd (.inr rfl) no
          · exact ⟨e, .inr hk0⟩
        · exact ⟨e, .inl hk0⟩
      have e3 : Vis cenv.scope y := e3
      rcases e3 with e3 | e3 | e3
      · exact key _ e3 (.inl rfl)
      · exact key _ e3 (.inr (.inl rfl))
      · exact key _ e3 (.inr (.inr rfl))
    obtain ⟨m, hn, hl⟩ := I.loc
    have hvis : Vis X.env.scope y := (ok.free _ (PySem.mem_of_lookup hfr.1) rfl).elim (fun k => .inr (.inl k)) (fun k => .inr (.inr k))
    obtain ⟨w, r, q⟩ := hl i y av e1 e2 hvis
    refine ⟨w, r, .inr ⟨hfr.2, ?_⟩⟩
    obtain ⟨c, h1, h2⟩ := look hfr.1
    rcases q with ⟨k, _⟩ | ⟨_, c', e', z⟩
    · have k : X.env.scope.names.lookup y = some .local := k
      rcases ok.free _ (PySem.mem_of_lookup hfr.1) rfl with k' | k' <;> rw [show X.env.scope.names.lookup y = _ from k'] at k <;> cases k
    · rw [h2] at e'; cases e'
      exact ⟨c, h1, z.keeps kp⟩
  · have e : cenv.cells.lookup y = some c := e
    rcases mem e with ⟨h1, _⟩ | ⟨_, z⟩
    · obtain ⟨w, z⟩ := I.cell y c h1
      exact ⟨w, z.keeps kp⟩
    · exact ⟨_, z⟩
  · show H cenv.locals = none
    rw [hL]; exact I.hok.fresh (Nat.le_refl _)
  · have e : cenv.cells.lookup y = some c := e
    rcases mem e with ⟨h1, _⟩ | ⟨h1, _⟩
    · exact I.freeC y c h1
    · exact I.hok.fresh (Nat.le_of_succ_le h1)
  · exact absurd (show p ∈ ([] : List (Addr × Obj)) ++ [] from hp) (by simp)

/-- an item appended to a tracked list -/
theorem app_ok {E : Value → Shared → Prop} {D : Addr} {xs : List V} {y : V} {v : Value} {Q : Value → Shared → Prop} (I : Inv X pins σ H s) (hD : H D = some (.lst xs)) (hz : xs.length < sizeLine) (r : RelV y v)
    (h : ∀ s', Inv X pins σ (upd H D (.lst (xs ++ [y]))) s' → Q .none s') : wpAny (model X.prog X.w) X.A (call (.builtin "list.append") [.ref D, v]) Q E s := by
  obtain ⟨hz', its, n, ri, e⟩ := I.hok D _ hD
  have hl := ri.length
  refine append_at (hsz := by rw [List.size_toArray]; omega) e fun h' sb ho' => ?_
  refine h { s with heap := h' } (I.write (t' := s.toks) (by rw [hD]; trivial) (.inl rfl) (fun b u hb q => (sb.2 b hb).trans q) ⟨_, ho'⟩ ⟨by rw [List.length_append]; exact hz, its ++ [v], n + 1, ri.append (.cons r .nil), ?_⟩)
  rw [ho']
  simp

/-- a clause's tests -/
def PTs (X : Cx) (ifs : List Expr) (t : TT) : Prop :=
  ∀ (pins : List (Addr × Obj)) (s : Shared) (σ : St) (H : Hp) (Q : Bool → Hp → Prop), Inv X pins σ H s → t σ H Q →
    wpAny (model X.prog X.w) X.A (forIn ifs true fun c r => if r = true then do let ok ← isTrue c X.env (eval c X.env); pure (ForInStep.yield ok) else pure (ForInStep.yield r)) (TP X pins σ Q) X.xe s
def tYes : TT := fun _ H Q => Q true H
theorem pts_nil : PTs X [] tYes := fun _ _ _ H _ I h => wpAny_tests_nil ⟨H, I, h⟩
theorem pts_one {c : Expr} {t : TT} (h : PT X c t) : PTs X [c] t := fun pins s σ H Q I hw => wpAny_tests_one (h pins s σ H Q I hw)
end

theorem thnF {α : Type} {t : Sem α} {Q Q' : α → Shared → Prop} {M : Model} {A : Around} {E : Value → Shared → Prop} {s : Shared} (h : wpAny M A t Q (fun _ _ => False) s) (hQ : ∀ a s, Q a s → Q' a s) : wpAny M A t Q' E s := wpAny_mono h hQ fun _ _ z => False.elim z

/-- the loop of a list comprehension's block, the target of any form (codeAny_compLoop_tests asks a target that no tuple goes to; statement and proof follow it, PyProof/CompMap.lean:41-61, with the step letOwnedTupleGo kept) -/
theorem compLoop_any {prog : Program} {w : World} {A : Around} {R : Result → Shared → Prop} {s : Shared} {elt target iter : Expr} {ifs : List Expr} {scope : Scope} {pos : Pos} {it acc : Value} {env : Env} (I : Nat → Shared → Prop)
    (turn : ∀ n s, I n s → wpAny (model prog w) A (pyNext it) (fun r s₁ => match r with
      | none => R (.ok .next) s₁
      | some v => wpAny (model prog w) A (letOwnedTupleGo target it v) (fun _ s₁' => wpAny (model prog w) A (assign target env v) (fun _ s₂ =>
          wpAny (model prog w) A (forIn ifs true fun c r => if r = true then do let ok ← isTrue c env (eval c env); pure (ForInStep.yield ok) else pure (ForInStep.yield r)) (fun ok s₃ =>
            if ok = true then wpAny (model prog w) A (eval elt env) (fun x s₄ =>
              wpAny (model prog w) A (call (.builtin "list.append") [acc, x]) (fun _ s₅ => ∃ m, m < n ∧ I m s₅) (notedBy (model prog w) A env fun e s' => R (.error e) s') s₄) (notedBy (model prog w) A env fun e s' => R (.error e) s') s₃
            else ∃ m, m < n ∧ I m s₃) (notedBy (model prog w) A env fun e s' => R (.error e) s') s₂) (notedBy (model prog w) A env fun e s' => R (.error e) s') s₁') (notedBy (model prog w) A env fun e s' => R (.error e) s') s₁) (notedBy (model prog w) A env fun e s' => R (.error e) s') s)
    (n : Nat) (h : I n s) :
    codeAny (model prog w) A (.compLoop (.ListComp elt [⟨target, iter, ifs, 0⟩] scope pos) 0 it acc env) R s := by
  refine codeAny_loop rfl I (fun n s hI => ?_) n h
  show wpAny _ A ((compTurn (.ListComp elt [⟨target, iter, ifs, 0⟩] scope pos) 0 it acc env).onRaise (fun x => do noteFrame x env; theTreesLotGoes x)) _ _ s
  refine wpAny_noted ?_
  rw [compTurn_list]
  refine wpAny_bind (wpAny_standAt (wpAny_bind (wpAny_mono (turn n s hI) (fun r s₁ h₁ => ?_) fun _ _ h' => h')))
  cases r with
  | none => exact wpAny_pure h₁
  | some v =>
    refine wpAny_bind (wpAny_mono h₁ (fun _ s₁' h₁' => ?_) fun _ _ h' => h')
    refine wpAny_bind (wpAny_mono h₁' (fun _ s₂ h₂ => wpAny_bind (wpAny_mono h₂ (fun ok s₃ h₃ => ?_) fun _ _ h' => h')) fun _ _ h' => h')
    cases ok with
    | false => exact wpAny_pure ⟨rfl, h₃⟩
    | true =>
      exact wpAny_bind (wpAny_bind (wpAny_mono h₃ (fun x s₄ h₄ => wpAny_bind (wpAny_mono h₄ (fun _ s₅ h₅ => wpAny_pure (wpAny_pure ⟨rfl, h₅⟩)) fun _ _ h' => h')) fun _ _ h' => h'))

section
variable {X : Cx}
/-- [elt for target in iter if ..]: D the new list; W by the turn and a measure, Nx what a turn is to reach -/
def tLc (wi : TI) (g : TG) (tt : TT) (te : TE) (vs : List Nat) : TE := fun σ H Q => wi σ H fun J H1 => ∀ D, H1 D = none → ∃ W : Nat → Nat → Hp → Prop, (∃ m, W 0 m (upd H1 D (.lst []))) ∧ ∀ i m H, W i m H →
  (J.stop i H ∧ Q (.ref D) H) ∨ (J.go i H ∧ ∃ Nx : Hp → Prop, (∀ H', Nx H' → ∃ m', m' < m ∧ W (i + 1) m' H') ∧ ∀ x H', J.yld i H x H' → g x (wipe σ vs) H' fun σ2 H2 => wipe σ2 vs = wipe σ vs ∧ tt σ2 H2 fun b H3 =>
    if b = true then te σ2 H3 fun y H4 => ∃ acc, H4 D = some (.lst acc) ∧ acc.length < sizeLine ∧ Nx (upd H4 D (.lst (acc ++ [y]))) else Nx H3)
theorem lc_core {pins : List (Addr × Obj)} {s : Shared} {σ : St} {H : Hp} {Q : VK} {elt tg iter : Expr} {ifs : List Expr} {scope : Scope} {own : List (Str × Nat)} {pos pos' : Pos} {wi : TI} {g : TG} {tt : TT} {te : TE} {use : Option (Value → Sem Unit)} {Qf : Value → Shared → Prop}
    (hc : X.calm = true) (hN : X.N.Nodup) (I : Inv X pins σ H s) (hi : PI X tg iter wi) (ok : BlkOk X.N X.env.scope scope own)
    (hg : ∀ (s : Shared) (H : Hp) (C : Addr) (cl : List (Str × Addr)) (fp : List Addr), PG (X.blk s H scope (compEnvC scope cl C X.env) fp) tg g) (ht : ∀ (s : Shared) (H : Hp) (C : Addr) (cl : List (Str × Addr)) (fp : List Addr), PTs (X.blk s H scope (compEnvC scope cl C X.env) fp) ifs tt)
    (he : ∀ (s : Shared) (H : Hp) (C : Addr) (cl : List (Str × Addr)) (fp : List Addr), PE (X.blk s H scope (compEnvC scope cl C X.env) fp) elt te) (hs : ∀ x, foldedSetIterable iter X.env x = pure x)
    (h : tLc wi g tt te (own.map (·.2)) σ H Q)
    (hRR : ∀ D C s' m H', Inv X pins σ H' s' → Q (.ref D) H' → s'.heap.Ns C m → FpOk X pins H' C → compPost (model X.prog X.w) X.A X.xe use Qf (.ref D) C (.ok .next) s') :
    wpAny (model X.prog X.w) X.A (comprehension (.ListComp elt [⟨tg, iter, ifs, 0⟩] scope pos) scope X.env pos' (newList []) false (eval iter X.env) use) Qf X.xe s := by
  have hfree : ∀ y ∈ scope.names, y.2 = .free → ∃ c, X.env.cells.lookup y.1 = some c := fun y hy e => by
    rcases ok.free y hy e with k | k
    · exact I.ok.has _ (.inl k)
    · exact I.ok.has _ (.inr k)
  refine wpAny_comprehension_free (use := use) rfl hs (closure_ok hfree) ok.kind (fun y hy e => by rw [ok.uniq y hy, e])
    (thn (hi pins s σ H _ I h) fun xv s1 hx => thn hx fun itv s2 h2 => ?_)
  obtain ⟨it, fp, tn, J, H2, e, I2, T, st2, f2, q⟩ := h2
  subst e
  refine wpAny_newObj_type (newEnv_comp ?_) (by show 0 ≤ sizeLine; decide)
  generalize hD : s2.heap.objs.size = D
  have hDn : H2 D = none := I2.hok.fresh (Nat.le_of_eq hD)
  obtain ⟨W, ⟨m0, w0⟩, turn⟩ := q D hDn
  -- the new list
  generalize hs3 : ({ s2 with heap := s2.heap.push { cls := .type "list", data := .seq ([] : List Value).toArray } } : Shared) = s3
  have I3 : Inv X pins σ (upd H2 D (.lst [])) s3 := by
    rw [← hs3]
    refine I2.laid (t' := s2.toks) (fun b o e => Heap.get?_push_of_some _ e) (Nat.le_of_eq hD) ⟨Nat.zero_le _, [], 0, .nil, ?_⟩
    rw [← hD]
    exact Heap.get?_push_size _ rfl
  have h3 : s3.heap = s2.heap.push { cls := .type "list", data := .seq ([] : List Value).toArray } := by rw [← hs3]
  have sz : ∀ b ∈ fp, b < s2.heap.objs.size := fun b hb => by
    obtain ⟨o, e, _⟩ := T.obj _ _ st2 b hb
    exact Heap.lt_size e
  have f3 : ∀ b ∈ fp, FpOk X pins (upd H2 D (.lst [])) b ∧ b < s3.heap.objs.size := fun b hb => by
    have hlt := sz b hb
    refine ⟨⟨?_, (f2 b hb).2⟩, by rw [h3, Heap.size_push]; exact Nat.lt_succ_of_lt hlt⟩
    rw [upd_ne (by rw [← hD]; exact Nat.ne_of_lt hlt)]
    exact (f2 b hb).1
  have st3 : tn 0 s3.heap := T.keep _ _ _ st2 fun b _ o e => by rw [h3]; exact Heap.get?_push_of_some _ e
  have I4 := block_start I3 ok hN f3
  have pg := hg s3 (upd H2 D (.lst [])) s3.heap.objs.size (cellsFrom (s3.heap.objs.size + 1) scope.names (cloFrom X.env.cells scope.names [])) fp
  have pt := ht s3 (upd H2 D (.lst [])) s3.heap.objs.size (cellsFrom (s3.heap.objs.size + 1) scope.names (cloFrom X.env.cells scope.names [])) fp
  have pe := he s3 (upd H2 D (.lst [])) s3.heap.objs.size (cellsFrom (s3.heap.objs.size + 1) scope.names (cloFrom X.env.cells scope.names [])) fp
  show codeAny _ _ (.compStart (.ListComp elt [⟨tg, iter, ifs, 0⟩] scope pos) 0 (.ref it) (.ref D) (compEnvC scope (cellsFrom (s3.heap.objs.size + 1) scope.names (cloFrom X.env.cells scope.names [])) s3.heap.objs.size X.env)) (compPost (model X.prog X.w) X.A X.xe use Qf (.ref D) s3.heap.objs.size) { s3 with heap := pushCells (s3.heap.push { cls := .type "dict", data := .dict #[] }) scope.names }
  have nfp : ∀ b ∈ fp, (upd H2 D (.lst [])) b = none := fun b hb => (f3 b hb).1.1
  generalize hce : compEnvC scope (cellsFrom (s3.heap.objs.size + 1) scope.names (cloFrom X.env.cells scope.names [])) s3.heap.objs.size X.env = ce at I4 pg pt pe ⊢
  have cL : ce.locals = s3.heap.objs.size := by subst hce; rfl
  generalize hH3 : upd H2 D (.lst []) = H3 at I3 I4 pg pt pe w0 nfp f3
  generalize hs4 : ({ s3 with heap := pushCells (s3.heap.push { cls := .type "dict", data := .dict #[] }) scope.names } : Shared) = s4 at I4 ⊢
  have st4 : tn 0 s4.heap := T.keep _ _ _ st3 fun b _ o e => by rw [← hs4]; exact pushCells_keeps _ _ _ _ (Heap.get?_push_of_some _ e)
  have stat : ∀ {σ' : St} {H' : Hp} {s' : Shared}, Inv (X.blk s3 H3 scope ce fp) [] σ' H' s' → (∀ b ∈ fp, H' b = none) → ∀ b ∈ fp, FpOk (X.blk s3 H3 scope ce fp) [] H' b := fun {σ' H' s'} I' hn b hb =>
    ⟨hn b hb, (I'.ok.exf b hb).1, I'.ok.exfs b hb, .inl hb, fun x c e => (I'.ok.exf b hb).2 x c e, fun p hp => absurd (show p ∈ ([] : List (Addr × Obj)) ++ [] from hp) (by simp)⟩
  have loop : codeAny (model X.prog X.w) X.A (.compLoop (.ListComp elt [⟨tg, iter, ifs, 0⟩] scope pos) 0 (.ref it) (.ref D) ce) (compPost (model X.prog X.w) X.A X.xe use Qf (.ref D) s3.heap.objs.size) s4 := by
    refine compLoop_any (fun n s' => ∃ i H', Inv (X.blk s3 H3 scope ce fp) [] (wipe σ (own.map (·.2))) H' s' ∧ tn i s'.heap ∧ (∀ b ∈ fp, H' b = none) ∧ W i n H') ?_ m0 ⟨0, H3, I4, st4, nfp, w0⟩
    rintro n s5 ⟨i, H5, I5, st5, n5, w5⟩
    rcases turn i n H5 w5 with ⟨stop, qq⟩ | ⟨go, Nx, hNx, step⟩
    · have td := T.done (X.blk s3 H3 scope ce fp) rfl rfl rfl hc i [] s5 _ H5 (fun _ _ => False) I5 (stat I5 n5) st5 stop
      refine thnF td fun r s6 ⟨hr, I6⟩ => ?_
      subst hr
      -- back in the def's context
      have I7 : Inv X pins σ H5 s6 := I3.call' (ch := fp) I6.os I6.base I6.hok I6.bare fun b hb => ⟨(f3 b hb).1.2.2.2.1, (f3 b hb).1.2.1, (f3 b hb).1.2.2.2.2.1, (f3 b hb).1.2.2.2.2.2⟩
      have nC : H5 s3.heap.objs.size = none := by
        have z : H5 ce.locals = none := I6.free
        rw [cL] at z
        exact z
      obtain ⟨m, hn, _⟩ := I6.loc
      have hn : s6.heap.Ns ce.locals m := hn
      rw [cL] at hn
      exact hRR D s3.heap.objs.size s6 m H5 I7 qq hn (I3.fpOk (Nat.le_refl _) nC)
    · have ti := T.item (X.blk s3 H3 scope ce fp) rfl rfl rfl hc i [] s5 _ H5 (fun _ _ => False) I5 (stat I5 n5) st5 go
      refine thnF ti fun r s6 ⟨u, hr, h6⟩ => ?_
      subst hr
      refine thnF h6 fun _ s7 ⟨x, H7, I7, r7, y7, st7, n7⟩ => ?_
      have I7' := I7.pinned (stat I7 n7) (T.obj _ _ st7)
      refine thnF (pg _ s7 _ H7 x u _ I7' r7 (step x H7 y7)) fun _ s8 ⟨σ8, H8, I8, hw8, q8⟩ => ?_
      refine thnF (pt _ s8 σ8 H8 _ I8 q8) fun b s9 ⟨H9, I9, q9⟩ => ?_
      -- the turn's end
      have fin : ∀ {s' : Shared} {H' : Hp}, Inv (X.blk s3 H3 scope ce fp) ([] ++ pinsAt fp s7.heap) σ8 H' s' → Nx H' → ∃ m, m < n ∧ ∃ i H', Inv (X.blk s3 H3 scope ce fp) [] (wipe σ (own.map (·.2))) H' s' ∧ tn i s'.heap ∧ (∀ b ∈ fp, H' b = none) ∧ W i m H' := fun {s' H'} I' nx => by
        obtain ⟨m', hm, w'⟩ := hNx H' nx
        have pin' : ∀ b ∈ fp, ∀ o, s7.heap.get? b = some o → s'.heap.get? b = some o ∧ H' b = none := fun b hb o e =>
          let z := I'.pin (b, o) (List.mem_append_right _ (List.mem_append_right _ (mem_pinsAt hb e)))
          ⟨z.1, z.2.1⟩
        have hl : (wipe σ (own.map (·.2))).length = σ8.length := by rw [← hw8, wipe_length]
        refine ⟨m', hm, i + 1, H', (I'.unpinned (pins := [])).weak hl (fun j v e => ?_), T.keep _ _ _ st7 fun b hb o e => (pin' b hb o e).1, fun b hb => ?_, w'⟩
        · rw [← hw8] at e
          exact (wipe_some e).1
        · obtain ⟨o, e, _⟩ := T.obj _ _ st7 b hb
          exact (pin' b hb o e).2
      cases b with
      | false =>
        simp only [Bool.false_eq_true, if_false] at q9 ⊢
        exact fin I9 q9
      | true =>
        simp only [if_true] at q9 ⊢
        refine thnF (pe _ s9 σ8 H9 _ I9 q9) fun z s10 ⟨yv, H10, I10, r10, acc, hD10, hz10, nx⟩ => ?_
        exact app_ok (X := X.blk s3 H3 scope ce fp) I10 hD10 hz10 r10 fun s11 I11 => fin I11 nx
  exact codeAny_compStart_list loop (T.self X.A 0 _ _ _ st4 loop)
/-- as a value -/
theorem pe_lc {elt tg iter : Expr} {ifs : List Expr} {scope : Scope} {own : List (Str × Nat)} {pos : Pos} {wi : TI} {g : TG} {tt : TT} {te : TE} (hc : X.calm = true) (hN : X.N.Nodup) (hi : PI X tg iter wi) (ok : BlkOk X.N X.env.scope scope own)
    (hg : ∀ (s : Shared) (H : Hp) (C : Addr) (cl : List (Str × Addr)) (fp : List Addr), PG (X.blk s H scope (compEnvC scope cl C X.env) fp) tg g) (ht : ∀ (s : Shared) (H : Hp) (C : Addr) (cl : List (Str × Addr)) (fp : List Addr), PTs (X.blk s H scope (compEnvC scope cl C X.env) fp) ifs tt)
    (he : ∀ (s : Shared) (H : Hp) (C : Addr) (cl : List (Str × Addr)) (fp : List Addr), PE (X.blk s H scope (compEnvC scope cl C X.env) fp) elt te) (hs : ∀ x, foldedSetIterable iter X.env x = pure x := by intro _; rfl) :
    PE X (.ListComp elt [⟨tg, iter, ifs, 0⟩] scope pos) (tLc wi g tt te (own.map (·.2))) := by
  intro pins s σ H Q I h
  rw [eval_ListComp]
  refine lc_core hc hN I hi ok hg ht he hs h fun D C s' m H' I' q hn f => ⟨m, hn, fun h'' sb => ?_⟩
  obtain ⟨f0, f1, f2, f3, f4, f5⟩ := f
  exact ⟨.ref D, H', I'.turned (t' := s'.toks) (fun b o hb e => (sb.2 b hb).trans e) f0 f1 f3 f4 f5, rfl, q⟩
/-- name = [..] on one line, the name a local -/
theorem ps_setLc {i : Nat} {y : Str} {py : Pos} {elt tg iter : Expr} {ifs : List Expr} {scope : Scope} {own : List (Str × Nat)} {pos spos : Pos} {wi : TI} {g : TG} {tt : TT} {te : TE} (hc : X.calm = true) (hN : X.N.Nodup) (hy : X.N[i]? = some y) (hyl : X.env.scope.names.lookup y = some .local)
    (hsw : swapsWith (.ListComp elt [⟨tg, iter, ifs, 0⟩] scope pos) (some (.Name y py)) spos.line X.env = pure true) (hi : PI X tg iter wi) (ok : BlkOk X.N X.env.scope scope own)
    (hg : ∀ (s : Shared) (H : Hp) (C : Addr) (cl : List (Str × Addr)) (fp : List Addr), PG (X.blk s H scope (compEnvC scope cl C X.env) fp) tg g) (ht : ∀ (s : Shared) (H : Hp) (C : Addr) (cl : List (Str × Addr)) (fp : List Addr), PTs (X.blk s H scope (compEnvC scope cl C X.env) fp) ifs tt)
    (he : ∀ (s : Shared) (H : Hp) (C : Addr) (cl : List (Str × Addr)) (fp : List Addr), PE (X.blk s H scope (compEnvC scope cl C X.env) fp) elt te) (hs : ∀ x, foldedSetIterable iter X.env x = pure x := by intro _; rfl) :
    PS X (.Assign [.Name y py] (.ListComp elt [⟨tg, iter, ifs, 0⟩] scope pos) spos) (tAsg (tLc wi g tt te (own.map (·.2))) (gName i)) := by
  intro pins s σ H D I h
  rw [exec_Assign_Name_used _ _ _ _ hsw]
  refine wpAny_bind (wpAny_standAt (wpAny_bind ?_))
  show wpAny _ X.A (do let _ ← comprehension (.ListComp elt [⟨tg, iter, ifs, 0⟩] scope pos) scope X.env (firstIterPos [⟨tg, iter, ifs, 0⟩] pos) (newList []) false (eval iter X.env) (some (assign (.Name y py) X.env))) _ _ s
  have h : tLc wi g tt te (own.map (·.2)) σ H (fun x H1 => gName i x σ H1 D.nx) := h
  refine wpAny_bind (thn (lc_core (Qf := fun _ s' => SP X pins D .next s') hc hN I hi ok hg ht he hs h fun L C s' m H' I' q hn f => ?_) fun _ s' hq => wpAny_pure (wpAny_pure hq))
  show wpAny _ _ (assign (.Name y py) X.env (.ref L)) _ _ _
  refine wpAny_assign_Name (store_ok2 (v := V.ref L) I' hN hy (.inl hyl) rfl (fun s2 I2 ⟨a, sb, ha⟩ => ?_) (.inr hyl))
  obtain ⟨f0, f1, f2, f3, f4, f5⟩ := f
  have haC : C ≠ a := by
    rcases ha with z | z
    · rw [z]; exact f1
    · exact fun e => f4 y a z e.symm
  refine ⟨m, hn.sameBut sb haC, fun h3 sb3 => ?_⟩
  exact ⟨_, H', I2.turned (t' := s2.toks) (fun b o hb e => (sb3.2 b hb).trans e) f0 f1 f3 f4 f5, q⟩
theorem sw_true {elt : Expr} {gs : List Comprehension} {scope : Scope} {pos py : Pos} {y : Str} {l : Nat} {env : Env} (hk : env.scope.kind = .function) (hy : env.scope.names.lookup y = some .local) (hl : (py.line == pos.line) = true)
    (ha : (scope.names.any fun (n, k) => n == y && (k == .local || k == .cell)) = false) : swapsWith (.ListComp elt gs scope pos) (some (.Name y py)) l env = pure true := by
  have ky : env.kindOf y = some .local := hy
  have hb : env.blockKind = .function := by unfold Env.blockKind; rw [hk]; rfl
  unfold swapsWith
  simp only [hb, ky, ha, Expr.pos, hl]
  rfl
end

/-! ### the forms one uses -/
/-- over a range: Pv by the turn and the heap (the new list at D within) -/
theorem lc_range {lo : Int} {n : Nat} {g : TG} {tt : TT} {te : TE} {vs : List Nat} {σ : St} {H1 : Hp} {D : Addr} {Qd : Hp → Prop} (Pv : Nat → Hp → Prop) (h0 : Pv 0 (upd H1 D (.lst [])))
    (hs : ∀ i H, i < n → Pv i H → g (.int (lo + i)) (wipe σ vs) H fun σ2 H2 => wipe σ2 vs = wipe σ vs ∧ tt σ2 H2 fun b H3 =>
      if b = true then te σ2 H3 fun y H4 => ∃ acc, H4 D = some (.lst acc) ∧ acc.length < sizeLine ∧ Pv (i + 1) (upd H4 D (.lst (acc ++ [y]))) else Pv (i + 1) H3) (hd : ∀ H, Pv n H → Qd H) :
    ∃ W : Nat → Nat → Hp → Prop, (∃ m, W 0 m (upd H1 D (.lst []))) ∧ ∀ i m H, W i m H →
      ((Itr lo n).stop i H ∧ Qd H) ∨ ((Itr lo n).go i H ∧ ∃ Nx : Hp → Prop, (∀ H', Nx H' → ∃ m', m' < m ∧ W (i + 1) m' H') ∧ ∀ x H', (Itr lo n).yld i H x H' → g x (wipe σ vs) H' fun σ2 H2 => wipe σ2 vs = wipe σ vs ∧ tt σ2 H2 fun b H3 =>
        if b = true then te σ2 H3 fun y H4 => ∃ acc, H4 D = some (.lst acc) ∧ acc.length < sizeLine ∧ Nx (upd H4 D (.lst (acc ++ [y]))) else Nx H3) := by
  refine ⟨fun i m H => m = n - i ∧ i ≤ n ∧ Pv i H, ⟨n, by simp, Nat.zero_le _, h0⟩, ?_⟩
  rintro i m H ⟨rfl, hi, p⟩
  by_cases hlt : i < n
  · refine .inr ⟨hlt, Pv (i + 1), fun H' p' => ⟨n - (i + 1), by omega, rfl, hlt, p'⟩, fun x H' y => ?_⟩
    obtain ⟨e, y⟩ := y
    subst e y
    exact hs i _ hlt p
  · have e : i = n := by omega
    subst e
    exact .inl ⟨Nat.le_refl _, hd H p⟩
/-- over a tuple -/
theorem lc_tup {K : PySem.W.Frag} {a : Addr} {xs : List V} {g : TG} {tt : TT} {te : TE} {vs : List Nat} {σ : St} {H1 : Hp} {D : Addr} {Qd : Hp → Prop} (Pv : Nat → Hp → Prop) (h0 : Pv 0 (upd H1 D (.lst []))) (hl : ∀ i H, i ≤ xs.length → Pv i H → SqT K H a xs)
    (hs : ∀ i x H, xs[i]? = some x → Pv i H → g x (wipe σ vs) H fun σ2 H2 => wipe σ2 vs = wipe σ vs ∧ tt σ2 H2 fun b H3 =>
      if b = true then te σ2 H3 fun y H4 => ∃ acc, H4 D = some (.lst acc) ∧ acc.length < sizeLine ∧ Pv (i + 1) (upd H4 D (.lst (acc ++ [y]))) else Pv (i + 1) H3) (hd : ∀ H, Pv xs.length H → Qd H) :
    ∃ W : Nat → Nat → Hp → Prop, (∃ m, W 0 m (upd H1 D (.lst []))) ∧ ∀ i m H, W i m H →
      ((Itt K a).stop i H ∧ Qd H) ∨ ((Itt K a).go i H ∧ ∃ Nx : Hp → Prop, (∀ H', Nx H' → ∃ m', m' < m ∧ W (i + 1) m' H') ∧ ∀ x H', (Itt K a).yld i H x H' → g x (wipe σ vs) H' fun σ2 H2 => wipe σ2 vs = wipe σ vs ∧ tt σ2 H2 fun b H3 =>
        if b = true then te σ2 H3 fun y H4 => ∃ acc, H4 D = some (.lst acc) ∧ acc.length < sizeLine ∧ Nx (upd H4 D (.lst (acc ++ [y]))) else Nx H3) := by
  refine ⟨fun i m H => m = xs.length - i ∧ i ≤ xs.length ∧ Pv i H, ⟨xs.length, by simp, Nat.zero_le _, h0⟩, ?_⟩
  rintro i m H ⟨rfl, hi, p⟩
  have q := hl i H hi p
  by_cases hlt : i < xs.length
  · refine .inr ⟨⟨xs, xs[i], q, by simp [hlt]⟩, Pv (i + 1), fun H' p' => ⟨xs.length - (i + 1), by omega, rfl, hlt, p'⟩, fun x H' y => ?_⟩
    obtain ⟨e, y⟩ := y
    subst e
    exact hs i x _ (y xs q) p
  · have e : i = xs.length := by omega
    subst e
    exact .inl ⟨⟨xs, q, Nat.le_refl _⟩, hd H p⟩
def blkC (N : List Str) (sc scope : Scope) (own : List (Str × Nat)) : Bool :=
  (match scope.kind with | .function => true | _ => false) && (scope.names.all fun y => decide (scope.names.lookup y.1 = some y.2)) && (own.all fun p => decide (N[p.2]? = some p.1)) &&
    (scope.names.all fun y => match y.2 with
      | .free => (match sc.names.lookup y.1 with | some .cell => true | some .free => true | _ => false)
      | .local => decide (y.1 ∈ own.map (·.1)) || decide (y.1 ∉ N)
      | .cell => decide (y.1 ∈ own.map (·.1)) || decide (y.1 ∉ N)
      | _ => true)
theorem blkOk_by {N : List Str} {sc scope : Scope} {own : List (Str × Nat)} (h : blkC N sc scope own = true) : BlkOk N sc scope own := by
  unfold blkC at h
  simp only [Bool.and_eq_true, List.all_eq_true, decide_eq_true_eq] at h
  obtain ⟨⟨⟨h1, h2⟩, h3⟩, h4⟩ := h
  refine ⟨?_, h2, h3, fun y hy e => ?_, fun y hy e => ?_⟩
  · split at h1
    · assumption
    · cases h1
  · have q := h4 y hy
    simp only [e] at q
    split at q <;> first | exact .inl (by assumption) | exact .inr (by assumption) | cases q
  · have q := h4 y hy
    rcases e with e | e <;> (simp only [e, Bool.or_eq_true, decide_eq_true_eq] at q; exact q)
end L2

namespace L2
open PySem PySem.Spec PyProof.Rows

section
variable {prog : Program} {w : World} {A : Around} {R : Result → Shared → Prop} {s : Shared} {elt t0 i0 t1 i1 : Expr} {ifs0 ifs1 : List Expr} {scope : Scope} {pos : Pos} {it acc : Value} {env : Env}
end

section
variable {X : Cx}
end
end L2

namespace L2
open PySem PySem.Spec PyProof.Rows

/-! ### lists of pairs as tables -/
section
variable {κ : Type} [DecidableEq κ]
def valV (kvs : List (κ × V)) (k : κ) : Option V := (kvs.find? fun kv => decide (kv.1 = k)).map (·.2)
/-- in its place, or at the end -/
def putK (kvs : List (κ × V)) (k : κ) (v : V) : List (κ × V) :=
  if (kvs.any fun kv => decide (kv.1 = k)) = true then kvs.map (fun kv => if kv.1 = k then (kv.1, v) else kv) else kvs ++ [(k, v)]
def dropK (kvs : List (κ × V)) (k : κ) : List (κ × V) := kvs.filter fun kv => decide (kv.1 ≠ k)

theorem valV_nil {k : κ} : valV ([] : List (κ × V)) k = none := rfl
theorem valV_pos {p : κ × V} {r : List (κ × V)} {k : κ} (e : p.1 = k) : valV (p :: r) k = some p.2 := by simp [valV, List.find?_cons, e]
theorem valV_neg {p : κ × V} {r : List (κ × V)} {k : κ} (e : ¬ p.1 = k) : valV (p :: r) k = valV r k := by simp [valV, List.find?_cons, e]
theorem valV_any (k : κ) : ∀ kvs : List (κ × V), (kvs.any fun kv => decide (kv.1 = k)) = (valV kvs k).isSome
  | [] => rfl
  | p :: r => by
    rw [List.any_cons]
    by_cases e : p.1 = k
    · simp only [valV_pos e, decide_eq_true e, Bool.true_or, Option.isSome_some]
    · rw [valV_neg e, decide_eq_false e, Bool.false_or]; exact valV_any k r
theorem valV_map (k j : κ) (y : V) : ∀ kvs : List (κ × V), valV (kvs.map fun kv => if kv.1 = k then (kv.1, y) else kv) j = (valV kvs j).map fun x => if j = k then y else x
  | [] => rfl
  | p :: r => by
    have ih := valV_map k j y r
    rw [List.map_cons]
    by_cases h : p.1 = k
    · rw [if_pos h]
      by_cases e : p.1 = j
      · rw [valV_pos (p := (p.1, y)) e, valV_pos e, Option.map_some, if_pos (e.symm.trans h)]
      · rw [valV_neg (p := (p.1, y)) e, valV_neg e, ih]
    · rw [if_neg h]
      by_cases e : p.1 = j
      · rw [valV_pos (p := p) e, valV_pos e, Option.map_some, if_neg (fun z => h (e.trans z))]
      · rw [valV_neg (p := p) e, valV_neg e, ih]
theorem valV_snoc (k j : κ) (y : V) : ∀ kvs : List (κ × V), valV kvs k = none → valV (kvs ++ [(k, y)]) j = if j = k then some y else valV kvs j
  | [], _ => by
    by_cases e : k = j
    · rw [if_pos e.symm]; exact valV_pos (p := (k, y)) e
    · rw [if_neg (fun z => e z.symm)]; exact valV_neg (p := (k, y)) e
  | p :: r, hn => by
    rw [List.cons_append]
    have hk : ¬ p.1 = k := fun z => by rw [valV_pos z] at hn; cases hn
    rw [valV_neg hk] at hn
    have ih := valV_snoc k j y r hn
    by_cases e : p.1 = j
    · rw [valV_pos e, valV_pos e, if_neg (fun z => hk (e.trans z))]
    · rw [valV_neg e, valV_neg e, ih]
theorem valV_put (kvs : List (κ × V)) (k j : κ) (y : V) : valV (putK kvs k y) j = if j = k then some y else valV kvs j := by
  unfold putK
  by_cases a : (kvs.any fun kv => decide (kv.1 = k)) = true
  · rw [if_pos a, valV_map]
    rw [valV_any] at a
    by_cases e : j = k
    · obtain ⟨x, hx⟩ := Option.isSome_iff_exists.mp a
      rw [if_pos e, e, hx, Option.map_some, if_pos rfl]
    · rw [if_neg e]
      cases valV kvs j with
      | none => rfl
      | some x => rw [Option.map_some, if_neg e]
  · rw [if_neg a]
    refine valV_snoc k j y kvs ?_
    rw [valV_any] at a
    cases q : valV kvs k with
    | none => rfl
    | some x => rw [q] at a; exact (a rfl).elim
theorem length_putK (kvs : List (κ × V)) (k : κ) (v : V) : (putK kvs k v).length ≤ kvs.length + 1 := by
  unfold putK
  split
  · rw [List.length_map]; omega
  · rw [List.length_append, List.length_cons, List.length_nil]; omega
theorem putK_new {kvs : List (κ × V)} {k : κ} (v : V) (h : valV kvs k = none) : putK kvs k v = kvs ++ [(k, v)] := by
  unfold putK
  rw [valV_any, h]
  exact if_neg (by decide)

theorem RelO.isSome_eq {o : Option V} {u : Option Value} (r : RelO o u) : o.isSome = u.isSome := by
  cases o with
  | none => cases u with
    | none => rfl
    | some _ => exact (show False from r).elim
  | some _ => cases u with
    | none => exact (show False from r).elim
    | some _ => rfl
theorem RelO.getD {o : Option V} {u : Option Value} {d : V} {d' : Value} (r : RelO o u) (rd : RelV d d') : RelV (o.getD d) (u.getD d') := by
  cases o with
  | none => cases u with
    | none => exact rd
    | some _ => exact (show False from r).elim
  | some _ => cases u with
    | none => exact (show False from r).elim
    | some _ => exact r

/-- raw tables of the same keys -/
theorem KV.val {kvs : List (κ × V)} {vs : List (κ × Value)} (r : KV kvs vs) (k : κ) : RelO (valV kvs k) (valueAt vs k) := by
  unfold KV at r
  induction r with
  | nil => exact True.intro
  | @cons p q ps qs h t ih =>
    obtain ⟨h1, h2⟩ := h
    by_cases e : p.1 = k
    · have e' : q.1 = k := h1.symm.trans e
      have b : valueAt (q :: qs) k = some q.2 := by simp [valueAt, List.find?_cons, e']
      rw [valV_pos e, b]; exact h2
    · have e' : ¬ q.1 = k := fun z => e (h1.trans z)
      have b : valueAt (q :: qs) k = valueAt qs k := by simp [valueAt, List.find?_cons, e']
      rw [valV_neg e, b]; exact ih
theorem KV.any {kvs : List (κ × V)} {vs : List (κ × Value)} (r : KV kvs vs) (k : κ) : (kvs.any fun kv => decide (kv.1 = k)) = vs.any fun kv => decide (kv.1 = k) := by
  unfold KV at r
  induction r with
  | nil => rfl
  | cons h t ih => rw [List.any_cons, List.any_cons, ih, h.1]
theorem KV.repl {kvs : List (κ × V)} {vs : List (κ × Value)} (r : KV kvs vs) (k : κ) {y : V} {u : Value} (ry : RelV y u) :
    KV (kvs.map fun kv => if kv.1 = k then (kv.1, y) else kv) (vs.map fun kv => if kv.1 = k then (kv.1, u) else kv) := by
  unfold KV at r ⊢
  induction r with
  | nil => exact .nil
  | @cons p q ps qs h t ih =>
    rw [List.map_cons, List.map_cons]
    refine .cons ?_ ih
    obtain ⟨h1, h2⟩ := h
    by_cases e : p.1 = k
    · rw [if_pos e, if_pos (h1.symm.trans e)]; exact ⟨h1, ry⟩
    · rw [if_neg e, if_neg (fun z => e (h1.trans z))]; exact ⟨h1, h2⟩
theorem KV.put {kvs : List (κ × V)} {vs : List (κ × Value)} (r : KV kvs vs) (k : κ) {y : V} {u : Value} (ry : RelV y u) : KV (putK kvs k y) (stored vs k u) := by
  unfold putK stored
  rw [r.any k]
  by_cases e : (vs.any fun kv => decide (kv.1 = k)) = true
  · rw [if_pos e, if_pos e]; exact r.repl k ry
  · rw [if_neg e, if_neg e]; exact Paired.snoc r ⟨rfl, ry⟩
theorem KV.drop {kvs : List (κ × V)} {vs : List (κ × Value)} (r : KV kvs vs) (k : κ) : KV (dropK kvs k) (without vs k) := by
  unfold KV at r ⊢
  unfold dropK without
  induction r with
  | nil => exact .nil
  | @cons p q ps qs h t ih =>
    obtain ⟨h1, h2⟩ := h
    rw [List.filter_cons, List.filter_cons]
    by_cases e : p.1 = k
    · have a : ¬ decide (p.1 ≠ k) = true := by simp [e]
      have b : ¬ decide (q.1 ≠ k) = true := by simp [h1.symm.trans e]
      rw [if_neg a, if_neg b]; exact ih
    · have e' : ¬ q.1 = k := fun z => e (h1.trans z)
      have a : decide (p.1 ≠ k) = true := by simp [e]
      have b : decide (q.1 ≠ k) = true := by simp [e']
      rw [if_pos a, if_pos b]; exact .cons ⟨h1, h2⟩ ih
theorem KV.keys {kvs : List (κ × V)} {vs : List (κ × Value)} (r : KV kvs vs) : kvs.map (·.1) = vs.map (·.1) := by
  unfold KV at r
  induction r with
  | nil => rfl
  | cons h t ih => rw [List.map_cons, List.map_cons, ih, h.1]
theorem KV.length {kvs : List (κ × V)} {vs : List (κ × Value)} (r : KV kvs vs) : kvs.length = vs.length := Paired.length r
end


/-! ### a tracked dict, its keys ints and texts or tuples of these -/
theorem kV_is {P : Program} {w : World} {k : Key} {u : Value} (r : RelV (kV k) u) : (mixKind P w).is k u = true := by
  cases k with
  | inl i => obtain ⟨t, e⟩ := (show ∃ t, u = Value.int i t from r); subst e; exact mixKind_int P w i t
  | inr x => obtain ⟨t, e⟩ := (show ∃ t, u = Value.str x t from r); subst e; exact mixKind_str P w x t
theorem items_are {P : Program} {w : World} : ∀ {ks : List Key} {us : List Value}, Vals (ks.map kV) us → ItemsAre (mixKind P w) ks us
  | [], _, r => by rw [List.map_nil] at r; cases r; exact .nil
  | k :: ks, _, r => by
    rw [List.map_cons] at r
    cases r with
    | cons h t => exact .cons (kV_is h) (items_are t)

/-- raw entries of a dict with tuple keys -/
abbrev KT (H : Hp) : List (List Key × V) → List (List Key × Addr × Value) → Prop := Paired fun p q => p.1 = q.1 ∧ H q.2.1 = some (.tup (p.1.map kV)) ∧ RelV p.2 q.2.2
theorem KT.val {H : Hp} {kvs : List (List Key × V)} {xs : List (List Key × Addr × Value)} (r : KT H kvs xs) (k : List Key) : RelO (valV kvs k) ((atKey xs k).map (·.2)) := by
  induction r with
  | nil => exact True.intro
  | @cons p q ps qs h t ih =>
    obtain ⟨h1, _, h2⟩ := h
    by_cases e : p.1 = k
    · have e' : q.1 = k := h1.symm.trans e
      have b : atKey (q :: qs) k = some q.2 := by simp [atKey, List.find?_cons, e']
      rw [valV_pos e, b]; exact h2
    · have e' : ¬ q.1 = k := fun z => e (h1.trans z)
      have b : atKey (q :: qs) k = atKey qs k := by simp [atKey, List.find?_cons, e']
      rw [valV_neg e, b]; exact ih
theorem KT.repl {H : Hp} {kvs : List (List Key × V)} {xs : List (List Key × Addr × Value)} (r : KT H kvs xs) (k : List Key) {y : V} {u : Value} (ry : RelV y u) :
    KT H (kvs.map fun kv => if kv.1 = k then (kv.1, y) else kv) (xs.map (putAt k u)) := by
  induction r with
  | nil => exact .nil
  | @cons p q ps qs h t ih =>
    rw [List.map_cons, List.map_cons]
    refine .cons ?_ ih
    obtain ⟨h1, h2, h3⟩ := h
    unfold putAt
    by_cases e : p.1 = k
    · rw [if_pos e, if_pos (h1.symm.trans e)]; exact ⟨h1, h2, ry⟩
    · rw [if_neg e, if_neg (fun z => e (h1.trans z))]; exact ⟨h1, h2, h3⟩
theorem KT.put {H : Hp} {kvs : List (List Key × V)} {xs : List (List Key × Addr × Value)} (r : KT H kvs xs) (k : List Key) {b : Addr} {y : V} {u : Value} (hb : H b = some (.tup (k.map kV))) (ry : RelV y u) :
    KT H (putK kvs k y) (storedH xs k b u) := by
  have e : (kvs.any fun kv => decide (kv.1 = k)) = (atKey xs k).isSome := by
    rw [valV_any, (r.val k).isSome_eq, Option.isSome_map]
  unfold putK storedH
  rw [e]
  by_cases q : (atKey xs k).isSome = true
  · rw [if_pos q, if_pos q]; exact r.repl k ry
  · rw [if_neg q, if_neg q]; exact Paired.snoc r ⟨rfl, hb, ry⟩
theorem KT.keeps {H H' : Hp} {kvs : List (List Key × V)} {xs : List (List Key × Addr × Value)} (r : KT H kvs xs) (ht : ∀ b ys, H b = some (.tup ys) → H' b = some (.tup ys)) : KT H' kvs xs :=
  Paired.mapP r fun _ _ z => ⟨z.1, ht _ _ z.2.1, z.2.2⟩

section
variable {P : Program} {w : World} {H : Hp} {h : Heap} {a : Addr}
theorem rd_of {u : HO} (ok : HOk P w H h) (e : Rd H a u) : ObjOk P w H h a u := e.ok ok
theorem dk_rd {kvs : List (Key × V)} (ok : HOk P w H h) (e : Rd H a (.dK kvs)) : kvs.length ≤ sizeLine ∧ (a == sysModules) = false ∧ ∃ vs, KV kvs vs ∧ h.DictOf (mixKind P w) a vs :=
  show ObjOk P w H h a (.dK kvs) from rd_of ok e
theorem dk_of {kvs : List (Key × V)} (ok : HOk P w H h) (e : H a = some (.dK kvs)) : kvs.length ≤ sizeLine ∧ (a == sysModules) = false ∧ ∃ vs, KV kvs vs ∧ h.DictOf (mixKind P w) a vs := dk_rd ok (.inl e)
/-- a tracked tuple of ints and texts is a key -/
theorem key_of {ks : List Key} (ok : HOk P w H h) (e : H a = some (.tup (ks.map kV))) : (tupleKind (mixKind P w)).is h ks a := by
  obtain ⟨_, its, r, o, h1, h2, n, h3⟩ := (show ObjOk P w H h a (.tup (ks.map kV)) from ok a _ e)
  exact ⟨o, its.toArray, n, h1, h2, h3, by simpa using items_are r⟩
theorem dt_rd {kvs : List (List Key × V)} (ok : HOk P w H h) (e : Rd H a (.dT kvs)) : kvs.length ≤ sizeLine ∧ (a == sysModules) = false ∧
    ∃ xs, KT H kvs xs ∧ h.DictOfH (tupleKind (mixKind P w)) a xs := by
  obtain ⟨z, y, xs, r, o, es, ep, h1, h2, h3, h4, h5⟩ := (show ObjOk P w H h a (.dT kvs) from rd_of ok e)
  refine ⟨z, y, xs, r, o, es, ep, h1, h2, h3, h4, fun x hx => ?_, h5⟩
  have all : ∀ {l : List (List Key × V)} {m : List (List Key × Addr × Value)}, KT H l m → ∀ x ∈ m, (tupleKind (mixKind P w)).is h x.1 x.2.1 := by
    intro l m q
    induction q with
    | nil => intro x hx; exact nomatch hx
    | @cons p q ps qs hq t ih =>
      intro x hx
      rcases List.mem_cons.mp hx with e | hx
      · subst e
        exact key_of ok (by rw [← hq.1]; exact hq.2.1)
      · exact ih x hx
  exact all r x hx
theorem dt_of {kvs : List (List Key × V)} (ok : HOk P w H h) (e : H a = some (.dT kvs)) : kvs.length ≤ sizeLine ∧ (a == sysModules) = false ∧
    ∃ xs, KT H kvs xs ∧ h.DictOfH (tupleKind (mixKind P w)) a xs := dt_rd ok (.inl e)
end

/-- what the dict at a holds at the key y -/
def DGet (H : Hp) (a : Addr) (y : V) (r : Option V) : Prop :=
  (∃ kvs k, Rd H a (.dK kvs) ∧ y = kV k ∧ r = valV kvs k) ∨ ∃ kvs k b, Rd H a (.dT kvs) ∧ y = .ref b ∧ H b = some (.tup (k.map kV)) ∧ r = valV kvs k
/-- the heap behind a[y] = v -/
def DPut (H : Hp) (a : Addr) (y v : V) (H' : Hp) : Prop :=
  (∃ kvs k, H a = some (.dK kvs) ∧ y = kV k ∧ kvs.length < sizeLine ∧ H' = upd H a (.dK (putK kvs k v))) ∨
  ∃ kvs k b, H a = some (.dT kvs) ∧ y = .ref b ∧ H b = some (.tup (k.map kV)) ∧ kvs.length < sizeLine ∧ H' = upd H a (.dT (putK kvs k v))
theorem DGet.k {H : Hp} {a : Addr} {kvs : List (Key × V)} {k : Key} (e : H a = some (.dK kvs)) : DGet H a (kV k) (valV kvs k) := .inl ⟨kvs, k, .inl e, rfl, rfl⟩
theorem DGet.t {H : Hp} {a b : Addr} {kvs : List (List Key × V)} {k : List Key} (e : H a = some (.dT kvs)) (eb : H b = some (.tup (k.map kV))) : DGet H a (.ref b) (valV kvs k) := .inr ⟨kvs, k, b, .inl e, rfl, eb, rfl⟩
theorem DPut.k {H : Hp} {a : Addr} {kvs : List (Key × V)} {k : Key} {v : V} (e : H a = some (.dK kvs)) (hl : kvs.length < sizeLine) : DPut H a (kV k) v (upd H a (.dK (putK kvs k v))) := .inl ⟨kvs, k, e, rfl, hl, rfl⟩
theorem DPut.t {H : Hp} {a b : Addr} {kvs : List (List Key × V)} {k : List Key} {v : V} (e : H a = some (.dT kvs)) (eb : H b = some (.tup (k.map kV))) (hl : kvs.length < sizeLine) :
    DPut H a (.ref b) v (upd H a (.dT (putK kvs k v))) := .inr ⟨kvs, k, b, e, rfl, eb, hl, rfl⟩


section
variable {X : Cx} {pins : List (Addr × Obj)} {σ : St} {H : Hp} {s : Shared} {a : Addr} {y v : V} {u r : Value} {o : Option V} {A : Around} {E : Value → Shared → Prop}

theorem Inv.big (I : Inv X pins σ H s) : sysModules < s.heap.objs.size := by
  have h : mainGlobals < s.heap.objs.size := (I.mod.glob.keeps I.bk).lt
  exact Nat.lt_trans (by decide) h

/-- y in d -/
theorem d_in {Q : Value → Shared → Prop} (hu : A.units + 1 < cLine) (I : Inv X pins σ H s) (g : DGet H a y o) (ry : RelV y u) (h : ∀ s', Inv X pins σ H s' → Q (.bool o.isSome) s') :
    wpAny (model X.prog X.w) A (compareOp .In u (.ref a)) Q E s := by
  rcases g with ⟨kvs, k, e, ey, l⟩ | ⟨kvs, k, b, e, ey, eb, l⟩
  · subst ey
    obtain ⟨z, hd, vs, rel, dd⟩ := dk_rd I.hok e
    refine wpAny_in_of (kV_is ry) hd dd.mapOf ?_
    rw [← (rel.val k).isSome_eq, ← l]
    exact h _ (I.tok _)
  · subst ey
    cases (show u = Value.ref b from ry)
    obtain ⟨z, hd, xs, rel, dd⟩ := dt_rd I.hok e
    refine wpAny_in_heap (tupleKind_room_in1 hu) (key_of I.hok eb) hd dd ?_
    have q := (rel.val k).isSome_eq
    rw [Option.isSome_map] at q
    rw [← q, ← l]
    exact h _ (I.tok _)
/-- a dict's object is replaced -/
theorem d_write {h' : Heap} {t' : Nat} {ob : HO} (I : Inv X pins σ H s) (mu : Mut (H a)) (hs : Heap.SameBut a s.heap h') (he : ∃ q, h'.get? a = some q) (new : ObjOk X.prog X.w (upd H a ob) h' a ob) :
    Inv X pins σ (upd H a ob) { s with heap := h', toks := t' } :=
  I.write (x := a) (e := a) mu (.inl rfl) (fun b q hb z => (hs.2 b hb).trans z) he new
theorem dk_new {P : Program} {w : World} {H' : Hp} {h' : Heap} {kvs : List (Key × V)} {vs : List (Key × Value)} (z : kvs.length ≤ sizeLine) (hd : (a == sysModules) = false) (rel : KV kvs vs) (dd : h'.DictOf (mixKind P w) a vs) :
    ObjOk P w H' h' a (.dK kvs) := ⟨z, hd, vs, rel, dd⟩
/-- d[y] = v -/
theorem d_setItem {H' : Hp} {Q : Unit → Shared → Prop} (hu : A.units + 1 < cLine) (I : Inv X pins σ H s) (g : DPut H a y v H') (ry : RelV y u) (rv : RelV v r) (h : ∀ s', Inv X pins σ H' s' → Q () s') :
    wpAny (model X.prog X.w) A (setItem (.ref a) u r) Q E s := by
  rcases g with ⟨kvs, k, e, ey, l, eH⟩ | ⟨kvs, k, b, e, ey, eb, l, eH⟩
  · subst ey eH
    obtain ⟨z, hd, vs, rel, dd⟩ := dk_of I.hok e
    have hz : vs.length ≤ sizeLine := by rw [← rel.length]; exact z
    have hl : (putK kvs k v).length ≤ sizeLine := by have := length_putK kvs k v; omega
    refine wpAny_setItem_pairs (hsz := hz) (kV_is ry) dd fun h' dd' hs => h _ ?_
    have he : ∃ q, h'.get? a = some q := let ⟨q, _, _, hq, _⟩ := dd'; ⟨q, hq⟩
    exact d_write I (by rw [e]; exact True.intro) hs he (dk_new hl hd (rel.put k rv) dd')
  · subst ey eH
    cases (show u = Value.ref b from ry)
    obtain ⟨z, hd, xs, rel, dd⟩ := dt_of I.hok e
    have hz : xs.length ≤ sizeLine := by rw [← Paired.length rel]; exact z
    have hl : (putK kvs k v).length ≤ sizeLine := by have := length_putK kvs k v; omega
    refine wpAny_setItem_heap (hsz := hz) (tupleKind_room_in1 hu) (key_of I.hok eb) dd fun h' dd' hs => h _ ?_
    obtain ⟨q, es, ep, hq, h2, h3, h4, _, h5⟩ := dd'
    refine d_write I (by rw [e]; exact True.intro) hs ⟨q, hq⟩ ⟨hl, hd, _, (rel.put k eb rv).keeps fun c ys ec => ?_, q, es, ep, hq, h2, h3, h4, h5⟩
    rw [upd_ne (ne_of ec e (fun z => nomatch z))]
    exact ec
end

section
variable {X : Cx} {pins : List (Addr × Obj)} {σ : St} {H : Hp} {s : Shared} {a : Addr} {kvs : List (Key × V)} {k : Key} {u : Value} {A : Around} {E : Value → Shared → Prop}
/-- len(d) -/
theorem d_len {Q : Value → Shared → Prop} (I : Inv X pins σ H s) (e : Rd H a (.dK kvs)) (h : ∀ t s', Inv X pins σ H s' → Q (.int kvs.length t) s') : wpAny (model X.prog X.w) A (call (.builtin "len") [.ref a]) Q E s := by
  obtain ⟨z, hd, vs, rel, dd⟩ := dk_rd I.hok e
  refine call_len_dict hd dd (by rw [← rel.length]; rw [sizeLine_eq] at z; omega) ?_
  rw [← rel.length]
  exact h _ _ (I.tok _)
end


/-! ### readings and rules -/
/-- y in d, y not in d -/
def tDIn (ty td : TE) : TE := fun σ H Q => ty σ H fun y H1 => td σ H1 fun x H2 => ∃ a o, x = .ref a ∧ DGet H2 a y o ∧ Q (.bl o.isSome) H2
/-- d[y] = v -/
def sDPut (td ty tv : TE) : TS := fun D σ H => tv σ H fun v H1 => td σ H1 fun x H2 => ty σ H2 fun y H3 => ∃ a H4, x = .ref a ∧ DPut H3 a y v H4 ∧ D.nx σ H4
section
variable {X : Cx} {o i e value : Expr} {pos pos' tpos : Pos} {td ty tv : TE}
theorem pc_din (hu : X.A.units + 1 < cLine) (hi : PE X i ty) (ho : PE X o td) : PC X .In i o (tDIn ty td) := by
  intro pins s σ H Q I h
  refine thn (hi pins s σ H _ I h) fun iv s1 ⟨y, H1, I1, ry, q1⟩ => thn (ho pins s1 σ H1 _ I1 q1) fun u s2 ⟨x, H2, I2, rx, a, ov, ex, g, q2⟩ => ?_
  subst ex
  obtain rfl : u = Value.ref a := rx
  exact d_in hu I2 g ry fun s3 I3 => ⟨.bl ov.isSome, H2, I3, rfl, q2⟩
theorem ps_dput (hu : X.A.units + 1 < cLine) (ho : PE X o td) (hi : PE X i ty) (hv : PE X value tv) (hs : swapsWith value (some (.Subscript o i pos')) pos.line X.env = pure false) :
    PS X (.Assign [.Subscript o i pos'] value pos) (sDPut td ty tv) := by
  intro pins s σ H D I h
  refine wpAny_Assign_Subscript (thn (hv pins s σ H _ I h) fun r s1 ⟨v, H1, I1, rv, q1⟩ => thn (ho pins s1 σ H1 _ I1 q1) fun u s2 ⟨x, H2, I2, rx, q2⟩ => thn (hi pins s2 σ H2 _ I2 q2) fun iv s3 ⟨y, H3, I3, ry, a, H4, ex, g, q3⟩ => ?_) hs
  subst ex
  obtain rfl : u = Value.ref a := rx
  exact d_setItem hu I3 g ry rv fun s4 I4 => ⟨σ, H4, I4, q3⟩
end


/-! ### displays -/
theorem dk_empty {P : Program} {w : World} {H : Hp} (h : Heap) (hb : sysModules < h.objs.size) : ObjOk P w H (h.push { cls := .type "dict", data := .dict #[] }) h.objs.size (.dK []) :=
  ⟨Nat.zero_le _, beq_eq_false_iff_ne.mpr (Ne.symm (Nat.ne_of_lt hb)), [], .nil, Heap.DictOf.new h⟩
/-- {}, to be a dict of the kind that is wanted -/
def tDNewK : TE := fun _ H Q => ∀ p, H p = none → Q (.ref p) (upd H p (.dK []))
section
variable {X : Cx} {pos : Pos}
theorem pe_dnewK : PE X (.Dict [] [] pos) tDNewK := fun pins s σ H Q I h =>
  wpAny_Dict_empty ⟨.ref s.heap.objs.size, _, I.laid (a := s.heap.objs.size) (o := .dK []) (t' := s.toks) (fun _ _ q => Heap.get?_push_of_some _ q) (Nat.le_refl _) (dk_empty s.heap I.big), rfl, h _ (I.hok.fresh (Nat.le_refl _))⟩
end

def mergeK (kvs more : List (Key × V)) : List (Key × V) := more.foldl (fun acc kv => putK acc kv.1 kv.2) kvs
theorem KV.merge : ∀ {more : List (Key × V)} {rs : List (Key × Value)} {kvs : List (Key × V)} {vs : List (Key × Value)}, KV more rs → KV kvs vs → KV (mergeK kvs more) (merged vs rs) := by
  intro more rs kvs vs r
  unfold KV at r
  induction r generalizing kvs vs with
  | nil => intro q; exact q
  | @cons p q ps qs h t ih =>
    intro r0
    have e : KV (putK kvs p.1 p.2) (stored vs q.1 q.2) := by
      have := r0.put p.1 h.2
      rw [← h.1]; exact this
    exact ih e
/-! ### methods -/
/-- a method call o.m(e) of a built-in, with one argument: what must be seen of the text -/
structure M1 (X : Cx) (o : Expr) (m : Str) (apos : Pos) (e : Expr) (cpos : Pos) : Prop where
  base : attributeBase o m X.env (eval o X.env) = eval o X.env
  few : ((backTo cpos (starEach [e] X.env)).all (fun x => !x.1) && (backToKw cpos (keywordEach [] X.env)).all (fun x => x.1.isSome)
    && decide (([e] : List Expr).length + ([] : List Keyword).length + (if ([] : List Keyword).isEmpty then 0 else 1) < 30)) = true
  line : (apos.endLine == cpos.line) = true
  trees : backTo cpos (starEach [e] X.env) = [(false, eval e X.env)]
structure M2 (X : Cx) (o : Expr) (m : Str) (apos : Pos) (e f : Expr) (cpos : Pos) : Prop where
  base : attributeBase o m X.env (eval o X.env) = eval o X.env
  few : ((backTo cpos (starEach [e, f] X.env)).all (fun x => !x.1) && (backToKw cpos (keywordEach [] X.env)).all (fun x => x.1.isSome)
    && decide (([e, f] : List Expr).length + ([] : List Keyword).length + (if ([] : List Keyword).isEmpty then 0 else 1) < 30)) = true
  line : (apos.endLine == cpos.line) = true
  trees : backTo cpos (starEach [e, f] X.env) = [(false, eval e X.env), (false, eval f X.env)]

section
variable {X : Cx} {pins : List (Addr × Obj)} {σ : St} {H : Hp} {s : Shared} {a : Addr} {y d : V} {u r : Value} {o : Option V} {A : Around} {E : Value → Shared → Prop}
end

section
variable {X : Cx} {o e f : Expr} {apos cpos : Pos} {td ty tx : TE}
end

/-! ### dict(d): a copy -/
section
variable {X : Cx} {pins : List (Addr × Obj)} {σ : St} {H : Hp} {s : Shared} {a : Addr} {kvs : List (Key × V)} {A : Around} {E : Value → Shared → Prop}
end


section
variable {X : Cx} {pins : List (Addr × Obj)} {σ : St} {H : Hp} {s : Shared} {a : Addr} {y : V} {u : Value} {A : Around} {E : Value → Shared → Prop}
end
end L2

namespace L2
open PySem PySem.Spec PyProof.Rows

section
variable {prog : Program} {w : World} {A : Around} {E : Value → Shared → Prop}
end

section
variable {X : Cx}
end
end L2

namespace L2
open PySem PySem.Spec PyProof.Rows

section
variable {X : Cx} {pins : List (Addr × Obj)} {σ : St} {H : Hp} {s : Shared} {h' : Heap}
/-! ### locking a thing while a statement runs -/
end
section
variable {X : Cx}
/-! ### one iterator just laid -/
theorem pi_one {tg : Expr} {pins : List (Addr × Obj)} {σ : St} {H : Hp} {s : Shared} {R : It → Hp → Prop} {J : It} {tn : Nat → Heap → Prop} {tk : Nat} (I : Inv X pins σ H s) (o : Obj)
    (T : Turn X.prog X.w X.K tg J [s.heap.objs.size] s.heap.objs.size tn) (st : tn 0 (s.heap.push o)) (q : R J H) : PIE X pins σ tg R (.ref s.heap.objs.size) { s with heap := s.heap.push o, toks := tk } := by
  refine ⟨s.heap.objs.size, [s.heap.objs.size], tn, J, H, rfl, I.kept fun b ob e => Heap.get?_push_of_some _ e, T, st, fun b hb => ?_, q⟩
  have e : b = s.heap.objs.size := by simpa using hb
  subst e
  exact I.fpOk (Nat.le_refl _) (I.hok.fresh (Nat.le_refl _))
end

/-! ### range with a step -/
section
variable {X : Cx} {tg : Expr}
end
/-! ### reversed(list) -/
section
variable {X : Cx} {tg : Expr}
end

/-! ### a str -/
def Its (x : Str) : It := ⟨fun i _ => i < x.cps.size, fun i H v H' => H' = H ∧ ∃ c, x.cps[i]? = some c ∧ v = .str ⟨#[c]⟩, fun i _ => x.cps.size ≤ i⟩
theorem turn_str {P : Program} {w : World} {K : PySem.W.Frag} {tg : Expr} (it : Addr) (x : Str) (t : Tok) (ty : String) (hty : ty = "str_ascii_iterator" ∨ ty = "str_iterator") :
    Turn P w K tg (Its x) [it] it (fun i h => h.IsStrIter it ty x t i) where
  mem := by simp
  obj := fun i h st b hb => by
    have e : b = it := by simpa using hb
    subst e
    obtain ⟨o, e, c, d⟩ := st
    exact ⟨o, e, fun v z => by rw [d] at z; cases z⟩
  keep := fun i h h' st k => let ⟨o, ho, r⟩ := st; ⟨o, k it (by simp) o ho, r⟩
  item := by
    intro X hP hw hK hc i pins s σ H E I hf st hg
    subst hP hw hK
    obtain ⟨f0, f1, f2, f3, f4, f5⟩ := hf it (by simp)
    have W : Walks X.prog X.w X.A it [it] [it] x.cps.size (SignAt x) (fun i h => h.IsStrIter it ty x t i) := by
      rcases hty with e | e
      · rw [e]; exact Walks.strAscii (I.ok.hd hc) it x t
      · rw [e]; exact Walks.strWide (I.ok.hd hc) it x t
    have hno : ["enumerate", "zip", "dict_itemiterator", "dict_reverseitemiterator", "odict_iterator", "itertools.zip_longest", "itertools.pairwise"].contains ty = false := by
      rcases hty with e | e
      · rw [e]; decide
      · rw [e]; decide
    refine W.item i s _ _ hg st fun v h' tk hv st' kk => ?_
    obtain ⟨c, u, hcx, rfl⟩ := hv
    have I1 : Inv X pins σ H { s with heap := h', toks := tk } := I.turned (fun b o hb e => kk b o (by simpa using hb) e) f0 f1 f3 f4 f5
    obtain ⟨oi, e, cc, dd⟩ := id st'
    exact ⟨_, rfl, go_of (s := { s with heap := h', toks := tk }) e cc dd hno ⟨.str ⟨#[c]⟩, H, I1, ⟨u, rfl⟩, ⟨rfl, c, hcx, rfl⟩, st', fun b hb => (hf b hb).1⟩⟩
  done := by
    intro X hP hw hK hc i pins s σ H E I hf st hg
    subst hP hw hK
    obtain ⟨f0, f1, f2, f3, f4, f5⟩ := hf it (by simp)
    have hx : x.cps[i]? = none := Array.getElem?_eq_none hg
    rcases hty with e | e
    · rw [e] at st
      exact wpAny_pyNext_ascii_end (I.ok.hd hc) st hx fun h' eb => ⟨rfl, I.turned (t' := s.toks) (fun b o hb e => eb b o hb e) f0 f1 f3 f4 f5⟩
    · rw [e] at st
      exact wpAny_pyNext_wide_end (I.ok.hd hc) st hx fun h' eb => ⟨rfl, I.turned (t' := s.toks) (fun b o hb e => eb b o hb e) f0 f1 f3 f4 f5⟩
  self := fun A i s Q E st h => by
    rcases hty with e | e
    · rw [e] at st; exact wpAny_pyIter_striter_ascii st h
    · rw [e] at st; exact wpAny_pyIter_striter_wide st h
def iStr (te : TE) : TI := fun σ H R => te σ H fun v H1 => ∃ x, v = .str x ∧ R (Its x) H1
theorem pi_str {X : Cx} {tg e : Expr} {te : TE} (he : PE X e te) : PI X tg e (iStr te) := by
  intro pins s σ H R I h
  refine thn (he pins s σ H _ I h) fun v s1 ⟨y, H1, I1, r1, x, ex, q⟩ => ?_
  subst ex
  obtain ⟨t, rfl⟩ := r1
  cases ha : x.cps.all (· < 128)
  · exact wpAny_pyIter_wide ha (pi_one (tk := s1.toks) I1 _ (turn_str _ x t "str_iterator" (.inr rfl)) ⟨_, Heap.get?_push_size _ rfl, rfl, rfl⟩ q)
  · exact wpAny_pyIter_ascii ha (pi_one (tk := s1.toks) I1 _ (turn_str _ x t "str_ascii_iterator" (.inl rfl)) ⟨_, Heap.get?_push_size _ rfl, rfl, rfl⟩ q)

/-! ### a dict's keys: any dict's entries -/
section
variable {prog : Program} {w : World} {A : Around} {E : Value → Shared → Prop} {s : Shared}
end

/-! ### a locked dict -/
section
variable {X : Cx} {pins : List (Addr × Obj)} {σ : St} {H : Hp} {s : Shared} {d : Addr} {o : Obj}
end

section
variable {P : Program} {w : World} {K : PySem.W.Frag} {tg : Expr} {d : Addr} {o : Obj} {es : Array DictEntry} {ep : Nat}
end

/-! ### for k in d, d.keys(), d.values(), d.items() -/
section
variable {X : Cx} {tg e : Expr} {td : TE} {apos cpos : Pos}
end

/-! ### enumerate(list) -/
/-! ### zip(list, list) -/
end L2

section 
namespace Bits
open PySem PyProof.Rows

end Bits
end 

section 
namespace TL
open PySem PySem.Builtin PySem.Builtin.Str PySem.StrLaws

abbrev tl (x : Str) : List Nat := x.cps.toList
theorem ext_tl {x y : Str} (h : tl x = tl y) : x = y := Str.ext' (Array.toList_inj.mp h)
theorem tl_append (x y : Str) : tl (x ++ y) = tl x ++ tl y := by
  show (x ++ y).cps.toList = _
  rw [Str.cps_append, Array.toList_append]
/-! ### the list functions -/
/-- S stands at the head of l -/
def pre (S l : List Nat) : Bool := l.take S.length == S
/-- l cut at each S from the left; k signs are still to be passed over -/
def spl (S : List Nat) : Nat → List Nat → List Nat → List (List Nat)
  | _, acc, [] => [acc]
  | 0, acc, c :: r => if pre S (c :: r) = true then acc :: spl S (S.length - 1) [] r else spl S 0 (acc ++ [c]) r
  | k + 1, acc, _ :: r => spl S k acc r
/-- what stands before the first S, and behind it -/
def par (S : List Nat) : List Nat → List Nat → Option (List Nat × List Nat)
  | _, [] => none
  | acc, c :: r => if pre S (c :: r) = true then some (acc, (c :: r).drop S.length) else par S (acc ++ [c]) r

/-! ### the model's split and partition are these -/
/-! ### computing spl and par -/
/-- joined lists -/
def joinL (S : List Nat) : List (List Nat) → List Nat
  | [] => []
  | [p] => p
  | p :: q :: r => p ++ (S ++ joinL S (q :: r))
theorem tl_join (y : Str) : ∀ parts : List Str, tl (Str.join y parts) = joinL (tl y) (parts.map tl)
  | [] => rfl
  | [_] => rfl
  | x :: z :: r => by
    show tl (x ++ y ++ Str.join y (z :: r)) = tl x ++ (tl y ++ joinL (tl y) ((z :: r).map tl))
    rw [tl_append, tl_append, tl_join y (z :: r), List.append_assoc]
theorem join_eq (y : Str) (parts : List Str) : Txt.join y parts = Str.join y parts := glued_eq_join y parts
/-! ### digits -/
/-! ### words: x.split() -/
end TL
end 

namespace L2
open PySem PySem.Spec PyProof.Rows

theorem strs_of_vals : ∀ {ys : List Str} {us : List Value}, Vals (ys.map V.str) us → StrsAre us ys
  | [], _, .nil => .nil
  | y :: ys, _, .cons r t => by
    obtain ⟨k, rfl⟩ := r
    exact .cons y k (strs_of_vals t)

section
variable {X : Cx} {pins : List (Addr × Obj)} {σ : St} {H : Hp} {s : Shared} {Q : VK}
end

section
variable {X : Cx}

/-- sep.join(a list | a tuple of texts) -/
theorem mt_join : MtR X "str.join" (fun x xs H Q => ∃ a p, ∃ ys : List Str, x = .str a ∧ xs = [.ref p] ∧ (SqL X.K H p (ys.map V.str) ∨ SqT X.K H p (ys.map V.str)) ∧
    (ys.map (·.length)).sum + ys.length * a.length ≤ 16777216 ∧ Q (.str (Txt.join a ys)) H) := by
  intro pins s σ H x xs v us Q I rx rs h
  obtain ⟨a, p, ys, rfl, rfl, hp, hz, h⟩ := h
  obtain ⟨t, rfl⟩ := rx
  cases rs with
  | cons r1 rs =>
    cases rs
    cases r1
    rcases hp with hp | hp
    · obtain ⟨its, r, ⟨o, n, ho, hc, _, hd⟩, _⟩ := I.list hp
      exact PyProof.Rows.join_list (items := its.toArray) ⟨o, ho, hc, n, hd⟩ (by rw [List.toList_toArray]; exact strs_of_vals r) hz fun t' k => ⟨.str _, H, I.tok k, ⟨t', rfl⟩, h⟩
    · obtain ⟨its, r, ht, _⟩ := I.tuple hp
      exact PyProof.Rows.join_tuple (items := its.toArray) ht (by rw [List.toList_toArray]; exact strs_of_vals r) hz fun t' k => ⟨.str _, H, I.tok k, ⟨t', rfl⟩, h⟩

/-! ### of a text alone -/
/-! ### of a text and a text -/
end

section
variable {X : Cx} {o e : Expr} {to te : TE}
def tM1 (r : V → List V → Hp → VK → Prop) (to te : TE) : TE := fun σ H Q => to σ H fun x H1 => (∃ a, x = .str a) ∧ te σ H1 fun y H2 => r x [y] H2 Q
theorem pe_m1 {id : String} {name : Str} {apos pos : Pos} {r : V → List V → Hp → VK → Prop} (slot : Slot "str" name id) (ty : typeOf (.builtin id) = pure (.type "method_descriptor")) (rule : MtR X id r) (ho : PE X o to) (he : PE X e te)
    (hs : starEach [e] X.env = [(false, eval e X.env)] := by rfl) (hbase : attributeBase o name X.env (eval o X.env) = eval o X.env := by rfl) (hline : (apos.endLine == pos.line) = true := by rfl) :
    PE X (.Call (.Attribute o name apos) [e] [] pos) (tM1 r to te) := by
  intro pins s σ H Q I h
  refine PySem.Call_method1 hbase hs hline (thn (ho pins s σ H _ I h) fun v s1 ⟨x, H1, I1, r1, q1⟩ => ?_)
  obtain ⟨⟨a, rfl⟩, q1⟩ := q1
  obtain ⟨t, rfl⟩ := _root_.id r1
  refine ⟨"str", _, F.plainAttrs_str, slot, ty, typeIs_str _ _ _, (fun _ e => nomatch e), Calls.callWith_builtin rfl (Calls.evalArgs_plain (Calls.spliced_cons ?_))⟩
  exact thn (he pins s1 σ H1 _ I1 q1) fun u s2 ⟨y, H2, I2, r2, q2⟩ => Calls.spliced_nil (rule pins s2 σ H2 _ [y] _ [u] Q I2 r1 (.cons r2 .nil) q2)

theorem pe_join {apos pos : Pos} (ho : PE X o to) (he : PE X e te) (hs : starEach [e] X.env = [(false, eval e X.env)] := by rfl) (hbase : attributeBase o "join" X.env (eval o X.env) = eval o X.env := by rfl) (hline : (apos.endLine == pos.line) = true := by rfl) :
    PE X (.Call (.Attribute o "join" apos) [e] [] pos) (tM1 (fun x xs H Q => ∃ a p, ∃ ys : List Str, x = .str a ∧ xs = [.ref p] ∧ (SqL X.K H p (ys.map V.str) ∨ SqT X.K H p (ys.map V.str)) ∧
      (ys.map (·.length)).sum + ys.length * a.length ≤ 16777216 ∧ Q (.str (Txt.join a ys)) H) to te) :=
  pe_m1 F.slot_str_join F.type_str_join mt_join ho he hs hbase hline
end
end L2

namespace L2
open PySem PySem.Spec PyProof.Rows

section
variable {X : Cx}
theorem op_le_str : OpR X (compareOp .LtE) (fun x y H Q => ∃ i j, x = .str i ∧ y = .str j ∧ Q (.bl (!decide (j.cps.toList < i.cps.toList))) H) := by
  intro pins s σ H x y v u Q I rx ry h
  obtain ⟨i, j, rfl, rfl, q⟩ := h
  obtain ⟨t, rfl⟩ := rx
  obtain ⟨t', rfl⟩ := ry
  exact PySem.P.le_str (fin_bl I q rfl)
end

/-! ### slices of a text -/
theorem IsPart.raw {v : Value} {o : Option Int} (p : IsPart v o) : ∃ l : Option (Int × Tok), v = partValue l ∧ l.map (·.1) = o := by
  cases p with
  | none => exact ⟨none, rfl, rfl⟩
  | int i t => exact ⟨some (i, t), rfl, rfl⟩

/-- a part, clipped, as the text's slice reckons it -/
def clipS (n d : Nat) : Option Int → Int
  | none => (d : Int)
  | some i => max 0 (min (if i < 0 then i + (n : Int) else i) (n : Int))
theorem clipS_eq (n d : Nat) (o : Option Int) : clipS n d o = ((HT.sIx n d o : Nat) : Int) := by
  cases o with
  | none => rfl
  | some v =>
    show max (0 : Int) (min (if v < 0 then v + (n : Int) else v) (n : Int)) = (((if v < 0 then (v + (n : Int)).toNat else min v.toNat n) : Nat) : Int)
    by_cases hv : v < 0
    · simp only [if_pos hv]
      omega
    · simp only [if_neg hv]
      omega
theorem sidx_clip (a b : Option Int) (n : Nat) : Builtin.Str.strSliceIndices a b 1 n = sliceRange (clipS n 0 a) (clipS n n b) 1 := by
  have h1 : ((1 : Int) > 0) = True := by simp
  cases a <;> cases b <;> first
    | rfl
    | (simp only [Builtin.Str.strSliceIndices, clipS, h1, if_true]; rfl)
    | simp [Builtin.Str.strSliceIndices, clipS]
theorem sidx (a b : Option Int) (n : Nat) : Builtin.Str.strSliceIndices a b 1 n = (List.range (HT.sIx n n b - HT.sIx n 0 a)).map (fun k => HT.sIx n 0 a + k) := by
  rw [sidx_clip, clipS_eq, clipS_eq]
  generalize HT.sIx n 0 a = p
  generalize HT.sIx n n b = q
  simp only [sliceRange, show ((1 : Int) > 0) = True from by simp, if_true]
  by_cases hlt : (p : Int) < q
  · have e3 : (((q : Int) - p + 1 - 1) / 1).toNat = q - p := by first | omega | (simp; done) | (simp; omega)
    simp only [hlt, if_true, e3]
    refine List.map_congr_left fun k _ => ?_
    omega
  · have : q - p = 0 := by omega
    simp [hlt, this]

/-- z[lo:hi] -/
def cutS (z : Str) (lo hi : Option Int) : Str :=
  ⟨((z.cps.toList.drop (HT.sIx z.length 0 lo)).take (HT.sIx z.length z.length hi - HT.sIx z.length 0 lo)).toArray⟩
theorem sliceText_cut (z : Str) (lo hi : Option Int) : PySem.StrLaws.sliceText z lo hi = cutS z lo hi := by
  have h1 : HT.sIx z.length 0 lo ≤ z.length := HT.sIx_le _ _ (Nat.zero_le _) _
  have h2 : HT.sIx z.length z.length hi ≤ z.length := HT.sIx_le _ _ (Nat.le_refl _) _
  have hp : HT.sIx z.length 0 lo ≤ max (HT.sIx z.length 0 lo) (HT.sIx z.length z.length hi) := Nat.le_max_left _ _
  have hq : max (HT.sIx z.length 0 lo) (HT.sIx z.length z.length hi) ≤ z.length := Nat.max_le.mpr ⟨h1, h2⟩
  have hd : max (HT.sIx z.length 0 lo) (HT.sIx z.length z.length hi) - HT.sIx z.length 0 lo = HT.sIx z.length z.length hi - HT.sIx z.length 0 lo := by omega
  have e : Builtin.Str.strSliceIndices lo hi 1 z.length =
      Builtin.Str.strSliceIndices (some ((HT.sIx z.length 0 lo : Nat) : Int)) (some ((max (HT.sIx z.length 0 lo) (HT.sIx z.length z.length hi) : Nat) : Int)) 1 z.length := by
    rw [PySem.StrLaws.strSliceIndices_plain hp hq, hd, sidx]
  have e2 : PySem.StrLaws.sliceText z lo hi =
      PySem.StrLaws.sliceText z (some ((HT.sIx z.length 0 lo : Nat) : Int)) (some ((max (HT.sIx z.length 0 lo) (HT.sIx z.length z.length hi) : Nat) : Int)) := by
    unfold PySem.StrLaws.sliceText
    rw [e]
  rw [e2, PySem.StrLaws.sliceText_nat z hp hq, hd]
  rfl
theorem cutS_length (z : Str) (lo hi : Option Int) : (cutS z lo hi).length ≤ z.length := by
  show (((z.cps.toList.drop (HT.sIx z.length 0 lo)).take (HT.sIx z.length z.length hi - HT.sIx z.length 0 lo)).toArray).size ≤ z.cps.size
  rw [List.size_toArray, List.length_take, List.length_drop, Array.length_toList]
  omega
def rSlS : V → Option Int → Option Int → Hp → VK → Prop := fun x lo hi H Q => ∃ z, x = .str z ∧ z.length ≤ sizeLine ∧ Q (.str (cutS z lo hi)) H
theorem sl_str {X : Cx} : SlR X rSlS := by
  intro pins s σ H x v vl vu lo hi sl Q I rx hs pl pu h
  obtain ⟨z, rfl, hz, q⟩ := h
  obtain ⟨t, rfl⟩ := rx
  obtain ⟨os, hos, hcs, hds⟩ := hs
  obtain ⟨l, rfl, rfl⟩ := IsPart.raw pl
  obtain ⟨u, rfl, rfl⟩ := IsPart.raw pu
  refine ⟨"str", _, F.slot_str_getitem.lookup, typeIs_str _ _ _, ?_⟩
  refine wpAny_getItem_str_slice (l := l) (u := u) (st := none) ⟨os, hos, hcs, hds⟩ rfl ?_
  have hl : (PySem.StrLaws.sliceText z (l.map (·.1)) (u.map (·.1))).length ≤ sizeLine := by
    rw [sliceText_cut]
    exact Nat.le_trans (cutS_length z _ _) hz
  rw [← sliceText_cut] at q
  unfold PySem.StrLaws.sliceText at q hl
  show Made.post (if ((1 : Int) == 1 && (Builtin.Str.strSliceIndices (l.map (·.1)) (u.map (·.1)) 1 z.length).length == z.length) = true then Made.val (.str z t)
    else Made.str ⟨((Builtin.Str.strSliceIndices (l.map (·.1)) (u.map (·.1)) 1 z.length).filterMap (z.cps[·]?)).toArray⟩) (EP X pins σ Q) s
  by_cases c : ((1 : Int) == 1 && (Builtin.Str.strSliceIndices (l.map (·.1)) (u.map (·.1)) 1 z.length).length == z.length) = true
  · rw [if_pos c] at q ⊢
    exact ⟨.str z, H, I, ⟨t, rfl⟩, q⟩
  · rw [if_neg c] at q hl ⊢
    exact ⟨hl, .str _, H, I.tok _, ⟨_, rfl⟩, q⟩
end L2

namespace Att
open PySem PySem.W PySem.Calls PyProof.Rows

/-! ### the script -/
theorem ints_of_wellAll {P : Params} {h : Heap} : ∀ (ns : List Int) (vs : List Value), WellAll P h vs (ns.map WData.int) → IntsAre vs ns := by
  intro ns
  induction ns with
  | nil =>
    intro vs w
    rw [List.map_nil] at w
    cases w
    exact .nil
  | cons n ns ih =>
    intro vs w
    rw [List.map_cons] at w
    cases w with
    | cons a b =>
      cases a
      exact .cons _ _ (ih _ b)

theorem script_of {l : OpenLaw} {n : Nat} (hn : l.most = some n) {P : Params} {h : Heap} {args : List WData} {vals : List Value}
    (hpre : l.row.toRowW.claim.pre args = true) (hwl : WellAll P h vals args) :
    ∃ a vs ns, vals = [Value.ref a] ∧ args = [WData.list (ns.map WData.int)] ∧ h.get? a = some { cls := .type "list", data := .seq vs.toArray } ∧ IntsAre vs ns ∧ ns.length ≤ n := by
  have hsh : WShape.hasAll [] args [.list .int] = true := (pre_splitW hpre).1
  have hc : l.pre.holds [] { args := args } = true := (pre_splitW hpre).2
  obtain ⟨d, r, rfl, h1, h2⟩ := hasAllW_cons hsh
  obtain rfl := hasAllW_nil h2
  obtain ⟨xs, rfl, h3⟩ := hasW_list h1
  obtain ⟨ns, rfl⟩ := items_int h3
  have hlen : ns.length ≤ n := by
    unfold OpenLaw.pre at hc
    have h4 : (WTm.not (.lt (.lit (.int (n : Int))) (.len (.arg 0)))).holds [] { args := [.list (ns.map .int)] } = true := by
      have h4 := (holds_andW hc).1
      rw [hn] at h4
      exact h4
    have h5 := condW_of h4 (w_not (w_lt w_lit (w_len_list (w_arg rfl))))
    rw [List.length_map] at h5
    refine Nat.le_of_not_lt fun q => ?_
    have q' : (n : Int) < ((ns.length : Nat) : Int) := by omega
    first
      | (rw [decide_eq_true q'] at h5; exact absurd h5 (by decide))
      | (simp at h5; omega)
  cases hwl with
  | cons w1 w2 =>
    cases w2
    cases w1 with
    | list ho hall => exact ⟨_, _, ns, rfl, rfl, ho, ints_of_wellAll ns _ hall, hlen⟩

theorem post_true (l : OpenLaw) (args : List WData) : l.row.toRowW.claim.post args (.bool true) args = true :=
  postW_of (r := l.row.toRowW) (X := (true == true))
    (show WShape.has [] (.bool true) .bool = true by first | rfl | decide | simp [WShape.has, WShape.arms, WShape.armsAll])
    (show (WTm.eq .res (.lit (.bool true))).value [] { args := args, res := some (.bool true), after := args } = some (.bool (true == true)) from w_eq_bool (w_res rfl) w_lit) rfl

/-! ### the attachment: holds_open's last premise (the goal 'hc' behind k_head) from a wpAny of the law's body -/
/-- the same from a codeAny of the CALL (for a layer whose function contracts speak of calls) -/
theorem attach_call {l : OpenLaw} {n : Nat} {q : Program} {loose : List Str} {XP : (Str → Option Value) → Heap → Prop} {YP : World → Heap → Prop} {d : DefRec}
    (hn : l.most = some n) (hdf : d.params.defaults = [])
    (call : ∀ (w : World) (s₀ s₁ : Shared) (mg mb : Str → Option Value) (fa : Addr) (o : Obj) (pm cd doc : Value) (a : Addr) (vs : List Value) (ns : List Int),
      Ground q loose [] XP w s₀ mg mb s₁.heap → YP w s₁.heap →
      s₁.heap.get? fa = some o → o.data = .func (docDef d.name d.params d.body d.scope pm cd doc) → s₁.heap.CodeRec cd d.name → mg d.name = some (.ref fa) →
      s₁.heap.get? a = some { cls := .type "list", data := .seq vs.toArray } → IntsAre vs ns → ns.length ≤ n → s₁.gens = #[] →
      codeAny (model l.prog w) callerA (.call (.ref fa) ⟨[.ref a], []⟩) (fun r s' => r = .ok (.ret (.bool true)) ∧ OldK s₁.heap s'.heap ∧ s'.os = s₁.os ∧ AllBare s'.gens) s₁) :
    WalkO q loose XP YP l.row.toRowW d [] (fun f vs => PySem.call f vs) := by
  intro w s₀ s₁ mg mb G Y fa o pm cd doc dV kV ho hd hcd hD hmg hg args vals as hpre hlay hrd hwl hlo
  obtain rfl : dV = .none := Dflts.none hD hdf
  obtain rfl : kV = .none := Dflts.noKw hD
  obtain ⟨a, vs, ns, rfl, rfl, hobj, hints, hlen⟩ := script_of hn hpre hwl
  refine enter_call (codeAny_mono (call w s₀ s₁ mg mb fa o pm cd doc a vs ns G Y ho (fd_plain hd) hcd hmg hobj hints hlen hg) fun r s' hq => ?_)
  obtain ⟨rfl, h2, h3, h4⟩ := hq
  exact ⟨.inl ⟨.bool true, .bool true, [], rfl, fun _ => rfl, .bool true, post_true l _, fun _ => ⟨List.Pairwise.nil, fun _ hm => (nomatch hm)⟩⟩, h2, h3, h4⟩

/-! ### rules over ANY heap (no ledger) from facts about the written part K: the library's own take a ledger (News) for what they write -/
section
variable {prog : Program} {w : World} {A : Around} {E : Value → Shared → Prop} {s : Shared} {K : Frag}

/-! the whole heap as the ledger: makes every rule that writes through a ledger a rule over any heap -/
def ledger (h : Heap) (L d : Addr) : List (Addr × Obj) := (List.range h.objs.size).filterMap fun a => if a = L ∨ a = d then none else (h.get? a).map fun o => (a, o)
end
end Att

namespace L2
open PySem PySem.Spec PyProof.Rows

theorem vals_ints : ∀ {vs : List Value} {ns : List Int}, IntsAre vs ns → Vals (ns.map V.int) vs
  | _, _, .nil => .nil
  | _, _, .cons n t h => .cons ⟨t, rfl⟩ (vals_ints h)

/-- nothing is tracked but the script, known to the object (or it is an object of the module) -/
def Only (H : Hp) : Prop := ∀ b, H b = none ∨ ∃ o xs, H b = some (.frz o (.lst xs))

/-- THE HEAD: the law's promise, at the heap behind the top. F, the promise of the law's def, may use that base is part of the heap (so K.In base, base.Ns mainGlobals mg stand in Mod) -/
theorem law_call {P : Program} {w : World} {K : PySem.W.Frag} {mg mb : Str → Option Value} {CX : CXT} {k : Nat} {fa a : Addr} {fd : FuncData} {x : Str} {sp : Sp} {s₁ : Shared} {vs : List Value} {ns : List Int}
    (KX : K.In s₁.heap) (hns : s₁.heap.Ns mainGlobals mg) (hb : s₁.heap.Ns builtinsNs mb) (hbb : ∀ x : Str, x ≠ "__name__" → mb x = bootBuiltins x) (hlim : s₁.heap.NoLimit) (hg : s₁.gens = #[])
    (ha : s₁.heap.get? a = some { cls := .type "list", data := .seq vs.toArray }) (hi : IntsAre vs ns) (hl : ns.length ≤ sizeLine) (hr : Room k callerA)
    (F : ∀ base : Heap, K.In base → base.Ns mainGlobals mg → FnOk P w K mg base CX k fa fd [x] sp) (hbind : ∀ (s : Shared) (u : Value), BindsTo s fd ⟨[u], []⟩ [(x, u)])
    (hsp : ∀ H : Hp, Only H → SqL K H a (ns.map V.int) → sp [.ref a] H (fun v _ => v = .bl true) fun _ _ _ => False)
    (hCX : ∀ H e s', CX [] H s₁ (fun _ _ _ => False) e s' → False) :
    codeAny (model P w) callerA (.call (.ref fa) ⟨[.ref a], []⟩) (fun r s' => r = .ok (.ret (.bool true)) ∧ OldK s₁.heap s'.heap ∧ s'.os = s₁.os ∧ AllBare s'.gens) s₁ := by
  have rv := vals_ints hi
  have lenV := hi.length
  -- from an abstract heap in which nothing but the script may be tracked
  have core : ∀ H : Hp, Only H → SqL K H a (ns.map V.int) → HOk P w H s₁.heap → (∀ b, H b ≠ none → b = a) → (H a ≠ none → K.lookup a = none) →
      codeAny (model P w) callerA (.call (.ref fa) ⟨[.ref a], []⟩) (fun r s' => r = .ok (.ret (.bool true)) ∧ OldK s₁.heap s'.heap ∧ s'.os = s₁.os ∧ AllBare s'.gens) s₁ := by
    intro H hO hS hok hA hK
    have base_of : ∀ {b : Addr} {o : Obj}, s₁.heap.get? b = some o → H b = none → (hidT s₁.heap H).get? b = some o := fun e n => hidT_get e n
    have noA : ∀ {b : Addr} {o : Obj} {es : Array DictEntry} {ep : Nat}, s₁.heap.get? b = some o → o.data = .dict es ep → H b = none := fun {b o es ep} e d => by
      cases q : H b with
      | none => rfl
      | some u =>
        have e' : b = a := hA b (by rw [q]; simp)
        subst e'
        rw [ha] at e; cases e
        have d' : Data.seq vs.toArray _ = Data.dict es ep := d
        cases d'
    have nsK : ∀ {b : Addr} {m : Str → Option Value}, s₁.heap.Ns b m → (hidT s₁.heap H).Ns b m := fun {b m} ⟨o, es, ep, e, d, r⟩ => ⟨o, es, ep, base_of e (noA e d), d, r⟩
    have hKb : K.In (hidT s₁.heap H) := fun b o e => base_of (KX b o e) (by
      cases q : H b with
      | none => rfl
      | some u =>
        have e' : b = a := hA b (by rw [q]; simp)
        subst e'
        rw [hK (by rw [q]; simp)] at e; cases e)
    have hM : Mod K mg (hidT s₁.heap H) := ⟨hKb, nsK hns, ⟨mb, nsK hb, hbb⟩, let ⟨mc, h1, h2⟩ := hlim; ⟨mc, nsK h1, h2⟩⟩
    have e0 : Env0 P w K mg (hidT s₁.heap H) callerA [] s₁ H := ⟨rfl, hM, fun b o e => of_hidT e, Nat.le_of_eq (hidT_size _ _), trivial, fun b hb => absurd (show b ∈ ([] : List Addr) from hb) (by simp), hok, .of_eq hg⟩
    refine codeAny_mono ((F _ hKb (nsK hns)).run callerA [] s₁ H ⟨[.ref a], []⟩ [.ref a] [.ref a] _ _ hr e0 (hbind s₁ (.ref a)) (.cons rfl .nil) (hsp H hO hS)) fun r s' h => ?_
    cases r with
    | error e => exact (hCX H e s' h).elim
    | ok fl =>
      cases fl with
      | next => exact False.elim h
      | brk => exact False.elim h
      | cont => exact False.elim h
      | ret u =>
        obtain ⟨v, H', os, bare, un, hok', r', q⟩ := h
        have q' : v = .bl true := q
        subst q'
        obtain rfl : u = Value.bool true := r'
        refine ⟨rfl, OldK.of_keep fun b o e => ?_, os, bare⟩
        cases q : H b with
        | none => exact un.keep b o e q (by intro z; exact absurd (show b ∈ ([] : List Addr) from z) (by simp)) (by simp)
        | some u =>
          rcases hO b with z | ⟨ob, xs, z⟩
          · rw [q] at z; cases z
          · have z2 := un.frzs b ob _ z
            obtain ⟨e1, _⟩ := hok b _ z
            obtain ⟨e2, _⟩ := hok' b _ z2
            rw [e] at e1; cases e1
            exact e2
  cases hk : K.lookup a with
  | some o =>
    -- the script is one of the module's own objects
    have e := KX a o hk
    rw [ha] at e
    cases e
    refine core (fun _ => none) (fun _ => .inl rfl) (.inr ⟨_, vs.toArray, _, hk, rfl, rfl, rfl, by rw [List.size_toArray, lenV]; exact hl, by simpa using rv⟩) (fun b u z => by have z' : (none : Option HO) = some u := z; cases z') (fun b z => absurd rfl z) fun z => absurd rfl z
  | none =>
    refine core (fun b => if b = a then some (.frz { cls := .type "list", data := .seq vs.toArray } (.lst (ns.map V.int))) else none) (fun b => ?_) (.inl (.inr ⟨{ cls := .type "list", data := .seq vs.toArray }, if_pos rfl⟩)) (fun b u z => ?_) (fun b z => ?_) fun _ => hk
    · by_cases hb : b = a
      · exact .inr ⟨_, _, if_pos hb⟩
      · exact .inl (if_neg hb)
    · by_cases hb : b = a
      · have z' := (if_pos hb).symm.trans z
        cases z'
        subst hb
        exact ⟨ha, by rw [List.length_map]; exact hl, vs, _, rv, ha⟩
      · have z' := (if_neg hb).symm.trans z
        cases z'
    · by_cases hb : b = a
      · exact hb
      · exact absurd (if_neg hb) z
end L2

namespace L2
open PySem PySem.Spec PyProof.Rows

abbrev KOf {K : PySem.W.Frag} {h : Heap} (_ : K.In h) : PySem.W.Frag := K

/-- the goal that k_head leaves (case hc), from the law's promise. F gives the function object fd (K's own) once, then the promise over every base -/
theorem walk_of {l : PySem.W.OpenLaw} {n k : Nat} {q : Program} {loose : List Str} {XP : (Str → Option Value) → Heap → Prop} {YP : World → Heap → Prop} {d : DefRec} {K : Params → PySem.W.Frag} {CX : World → CXT} {sp : World → Sp} {x : Str}
    (hn : l.most = some n) (hn2 : n ≤ sizeLine) (hdf : d.params.defaults = []) (hr : Room k callerA)
    (hY : ∀ (w : World) (h : Heap), YP w h → (K w.params).In h)
    (F : ∀ (w : World) (mg : Str → Option Value) (fa : Addr) (h : Heap), (K w.params).In h → h.Ns mainGlobals mg → mg d.name = some (.ref fa) →
      ∃ fd : FuncData, (∀ (s : Shared) (u : Value), BindsTo s fd ⟨[u], []⟩ [(x, u)]) ∧
        ∀ base : Heap, (K w.params).In base → base.Ns mainGlobals mg → FnOk l.prog w (K w.params) mg base (CX w) k fa fd [x] (sp w))
    (hsp : ∀ (w : World) (H : Hp) (a : Addr) (ns : List Int), ns.length ≤ n → Only H → SqL (K w.params) H a (ns.map V.int) → sp w [.ref a] H (fun v _ => v = .bl true) fun _ _ _ => False)
    (hCX : ∀ (w : World) (H : Hp) (s : Shared) (e : Value) (s' : Shared), CX w [] H s (fun _ _ _ => False) e s' → False) :
    PySem.W.WalkO q loose XP YP l.row.toRowW d [] (fun f vs => PySem.call f vs) := by
  refine Att.attach_call hn hdf fun w s₀ s₁ mg mb fa o pm cd doc a vs ns G Y ho hd hcd hmg hobj hints hlen hg => ?_
  have KX := hY w _ Y
  obtain ⟨fd, hb, hF⟩ := F w mg fa _ KX G.T.g hmg
  exact law_call KX G.T.g G.T.b G.T.builtins G.T.nolimit hg hobj hints (Nat.le_trans hlen hn2) hr hF hb (fun H hO hS => hsp w H a ns hlen hO hS) fun H e s' => hCX w H s₁ e s'
/-- the same where the promise hangs on the written part alone: (sp := My.sp_law), no hole under a binder -/
theorem walk_ofK {l : PySem.W.OpenLaw} {n k : Nat} {q : Program} {loose : List Str} {XP : (Str → Option Value) → Heap → Prop} {YP : World → Heap → Prop} {d : DefRec} {K : Params → PySem.W.Frag} {CX : CXT} {sp : PySem.W.Frag → Sp} {x : Str}
    (hn : l.most = some n) (hn2 : n ≤ sizeLine) (hdf : d.params.defaults = []) (hr : Room k callerA)
    (hY : ∀ (w : World) (h : Heap), YP w h → (K w.params).In h)
    (F : ∀ (w : World) (mg : Str → Option Value) (fa : Addr) (h : Heap), (K w.params).In h → h.Ns mainGlobals mg → mg d.name = some (.ref fa) →
      ∃ fd : FuncData, (∀ (s : Shared) (u : Value), BindsTo s fd ⟨[u], []⟩ [(x, u)]) ∧
        ∀ base : Heap, (K w.params).In base → base.Ns mainGlobals mg → FnOk l.prog w (K w.params) mg base CX k fa fd [x] (sp (K w.params)))
    (hsp : ∀ (K : PySem.W.Frag) (H : Hp) (a : Addr) (ns : List Int), ns.length ≤ n → Only H → SqL K H a (ns.map V.int) → sp K [.ref a] H (fun v _ => v = .bl true) fun _ _ _ => False)
    (hCX : ∀ (H : Hp) (s : Shared) (e : Value) (s' : Shared), CX [] H s (fun _ _ _ => False) e s' → False) :
    PySem.W.WalkO q loose XP YP l.row.toRowW d [] (fun f vs => PySem.call f vs) :=
  walk_of (K := K) (CX := fun _ => CX) (sp := fun w => sp (K w.params)) hn hn2 hdf hr hY F (fun w H a ns h1 h2 h3 => hsp (K w.params) H a ns h1 h2 h3) fun _ H s e s' => hCX H s e s'
end L2

/- THE LAST THEOREM (shape; LID, My.* are yours):
   My.Adr: a structure of the addresses that your layer names (classes, functions); My.Txt K t: a structure (Prop) of the equations over K;
   My.txt_mk : {K} {implicit addresses ..} (e1 : nsIn K mainGlobals "law" = some (some (.ref f))) (e2 : K.lookup f = some ⟨oc, od, .func (fnOf "law" "law" params body scope dV kV doc pm an cdv ct), sl⟩) (e3 : codeIn K cdv "law" = true) .. : ∃ t, My.Txt K t

set_option maxRecDepth 100000 in
set_option maxHeartbeats 0 in
theorem PySem.Challenge.cw_LID_holds : PySem.Challenge.rw_LID.Holds := by
  w_on; o_law; k_head; (case hw => w_witness2)
  k_fill
  refine L2.walk_of (l := PySem.Challenge.rw_LID) (n := 63) (k := 40) (x := "script") (CX := fun w => ..) (sp := fun _ => My.sp_law) rfl (by decide) rfl ⟨rfl, by decide, by decide⟩ (fun w h Y => PySem.W.kIn_of Y) ?F ?S ?C
  case F =>
    intro w mg fa h KX G hmg
    have T : ∃ t, My.Txt (L2.KOf KX) t := by
      dsimp only [L2.KOf]                          -- K must stand as «<heap const> w.params» for k_is
      refine' My.txt_mk ?e1 ?e2 ?e3 ..
      (case e1 => PySem.W.k_is)                    -- in the order: a name -> its address -> its object -> its parts
      (case e2 => PySem.W.k_is)
      ..
    obtain ⟨t, T⟩ := T
    have e0 := hmg.symm.trans (PySem.W.mg_of KX G T.law)
    cases e0                                       -- fa is the law's own address
    exact ⟨_, fun s u => .of_eq rfl, fun base kb nb => My.law_fn T kb nb⟩     -- if «.of_eq rfl» comes too early: refine' ⟨_, ?b, fun base kb nb => My.law_fn T kb nb⟩; exact fun s u => .of_eq rfl
  case S => exact fun w H a ns hl hO hS => ..
  case C => exact ..
(the tactic k_is has no namespace: write k_is) -/

/-! SHORT WORDS over the layer: a def of the text, its body, what a loop and a test want. -/
namespace L2
open PySem PySem.Spec PyProof.Rows

/-! ### the text by places -/
def defArgs (s : Stmt) : Arguments := match s with
  | .FunctionDef _ a _ _ _ _ _ _ _ _ => a
  | _ => { posonlyargs := [], args := [], vararg := none, kwonlyargs := [], kw_defaults := [], kwarg := none, defaults := [] }
def defBody (s : Stmt) : List Stmt := match s with
  | .FunctionDef _ _ b _ _ _ _ _ _ _ => b
  | _ => []
def defScope (s : Stmt) : Scope := match s with
  | .FunctionDef _ _ _ _ _ _ sc _ _ _ => sc
  | _ => { kind := .function, names := [], isGenerator := false, isCoroutine := false }

/-! ### no exception leaves a def -/
abbrev CX0 : CXT := fun _ _ _ _ _ _ => False
abbrev E0 : XK := fun _ _ _ => False
theorem pass0 {X : Cx} : Passes CX0 X E0 := fun _ _ _ _ _ _ _ h => h.elim

/-! ### a def (or method) of the text as it stands behind the top -/
structure Fun (K : PySem.W.Frag) (x qual : Str) (st : Stmt) (f : Addr) (fd : FuncData) : Prop where
  ex : ∃ (oc : Value) (od : Option Addr) (kV doc pm : Value) (an : Option Addr) (cdv ct : Value) (osl : Array (Option Value)),
    fd = PySem.W.fnOf x qual (defArgs st) (defBody st) (defScope st) .none kV doc pm an cdv ct ∧ K.lookup f = some ⟨oc, od, .func fd, osl⟩ ∧ PySem.W.codeIn K cdv qual = true
  kp : PySem.W.keepIn K (.ref f) = true
section
variable {P : Program} {w : World} {K : PySem.W.Frag} {mg : Str → Option Value} {base : Heap}
/-- THE RULE for a def: its body as a term of rules, and the reading of that term -/
theorem Fun.ok {x qual : Str} {st : Stmt} {f : Addr} {fd : FuncData} {N ps : List Str} {k : Nat} {sp : Sp} (F : Fun K x qual st f fd) (S : FnScope N ps (defScope st)) (len : ∀ vs H Q E, sp vs H Q E → vs.length = ps.length)
    (hbody : ∀ (cdv : Value) (A : Around) (outer : List Env) (s : Shared) (H : Hp) (vs : List V) (Q : VK) (E : XK), Room k (A.deeper (envOfC qual (defScope st) s.heap.objs.size f cdv)) → sp vs H Q E →
      ∃ t, PSs (cxOf CX0 P w K mg base N qual (defScope st) f cdv A outer s H E).nox (defBody st) t ∧ t { nx := fun _ H' => Q .non H', rt := Q } (start N vs) H) : FnOk P w K mg base CX0 (k + 1) f fd ps sp := by
  obtain ⟨oc, od, kV, doc, pm, an, cdv, ct, osl, rfl, lk, hcd⟩ := F.ex
  refine fn_of lk hcd S len fun A outer s H vs Q E hr hsp => ?_
  obtain ⟨t, h, q⟩ := hbody cdv A outer s H vs Q E hr hsp
  exact ⟨t, h.nox, q⟩
/-- how its arguments bind (no defaults): h is «fun _ _ _ _ _ _ us hl => match us, hl with | [_, _], _ => rfl», one _ a parameter -/
theorem Fun.binds {x qual : Str} {st : Stmt} {f : Addr} {fd : FuncData} {ps : List Str} (F : Fun K x qual st f fd)
    (h : ∀ (kV doc pm : Value) (an : Option Addr) (cdv ct : Value) (us : List Value), us.length = ps.length → bindArgs (PySem.W.fnOf x qual (defArgs st) (defBody st) (defScope st) .none kV doc pm an cdv ct) ⟨us, []⟩ = pure (ps.zip us)) : Binds K fd ps [] := by
  obtain ⟨oc, od, kV, doc, pm, an, cdv, ct, osl, rfl, lk, hcd⟩ := F.ex
  exact .all (h kV doc pm an cdv ct)
theorem fun_mk {x qual : Str} {st : Stmt} {f : Addr} {oc : Value} {od an : Option Addr} {osl : Array (Option Value)} {kV doc pm cdv ct : Value} (l : K.lookup f = some ⟨oc, od, .func (PySem.W.fnOf x qual (defArgs st) (defBody st) (defScope st) .none kV doc pm an cdv ct), osl⟩)
    (c : PySem.W.codeIn K cdv qual = true) (k : PySem.W.keepIn K (.ref f) = true) : Fun K x qual st f (PySem.W.fnOf x qual (defArgs st) (defBody st) (defScope st) .none kV doc pm an cdv ct) := ⟨⟨oc, od, kV, doc, pm, an, cdv, ct, osl, rfl, l, c⟩, k⟩
end
theorem hu_of {A : Around} {k : Nat} (hr : Room k A) : A.units + 1 < cLine := Nat.lt_of_le_of_lt (Nat.add_le_add_left (by decide : 1 ≤ 64) _) hr.units
/-! ### expressions in short: the name that stands in the i-th slot -/
section
variable {X : Cx}
theorem pv (i : Nat) {x : Str} {pos : Pos} (hN : X.N[i]? = some x := by rfl) (hv : Vis X.env.scope x := by first | exact Or.inl rfl | exact Or.inr (Or.inl rfl) | exact Or.inr (Or.inr rfl)) (hd : (x == ("__debug__" : Str)) = false := by decide)
    (hcd : (x == ("__classdict__" : Str)) = false := by decide) : PE X (.Name x pos) (tVar i) := pe_var hN hv hd hcd
/-- len of a dict -/
theorem call_lenD : CallR X (.builtin "len") (fun xs H Q => ∃ a kvs, xs = [V.ref a] ∧ H a = some (.dK kvs) ∧ Q (.int kvs.length) H) := by
  intro pins s σ H xs us Q I r h
  obtain ⟨a, kvs, rfl, ha, q⟩ := h
  obtain ⟨u, rfl, ru⟩ := vals1 r
  cases ru
  exact d_len I (.inl ha) fun t s' I' => ⟨.int kvs.length, H, I', ⟨t, rfl⟩, q⟩
end

/-! ### tests -/
theorem ite2 {c A B : Prop} [Decidable c] (h1 : c → A) (h2 : ¬ c → B) : if c then A else B := by
  by_cases h : c
  · rw [if_pos h]
    exact h1 h
  · rw [if_neg h]
    exact h2 h
/-! ### heaps -/
/-- all that was tracked is as it was -/
def Same (H H' : Hp) : Prop := ∀ b o, H b = some o → H' b = some o
theorem Same.refl (H : Hp) : Same H H := fun _ _ h => h
theorem Same.trans {H H1 H2 : Hp} (a : Same H H1) (b : Same H1 H2) : Same H H2 := fun c o h => b c o (a c o h)
theorem Same.free {H H' : Hp} (e : Same H H') {l : Addr} (h : H' l = Option.none) : H l = Option.none := by
  cases q : H l with
  | none => rfl
  | some o =>
    rw [e l o q] at h
    cases h
theorem Same.seq {K : PySem.W.Frag} {H H' : Hp} {a : Addr} {xs : List V} (e : Same H H') (h : SqL K H a xs) : SqL K H' a xs := by
  rcases h with (h | ⟨o, h⟩) | h
  · exact .inl (.inl (e _ _ h))
  · exact .inl (.inr ⟨o, e _ _ h⟩)
  · exact .inr h

/-! ### a dict's pairs: keys that differ -/
section
variable {κ : Type} [DecidableEq κ]
end
/-! ### lists -/
theorem at_of {xs : List V} {z : Int} {j : Nat} {v : V} (e : z = (j : Int)) (h : xs[j]? = some v) : atI xs z = some v := by
  rw [e]
  exact atI_nat h
/-- a new instance and its __init__ leave all that was tracked as it was -/
theorem Same.made {H H1 : Hp} {x dx C : Addr} (nx : H x = Option.none) (nd : H dx = Option.none) (k : ∀ b o, (upd (upd H dx (.own x)) x (.ins C dx [])) b = some o → b ≠ x → H1 b = some o) : Same H H1 := fun b o e =>
  k b o (by rw [upd_ne (ne_of_none e nx), upd_ne (ne_of_none e nd)]; exact e) (ne_of_none e nx)
end L2

set_option Elab.async false
set_option linter.all false
set_option maxRecDepth 100000
set_option maxHeartbeats 4000000
namespace L2
open PySem PySem.Spec PyProof.Rows

/-! ### a def by its name -/
structure FunN (K : PySem.W.Frag) (mg : Str → Option Value) (x : Str) (st : Stmt) (ps : List Str) : Prop where
  ex : ∃ (f : Addr) (fd : FuncData), Fun K x x st f fd ∧ mg x = some (.ref f) ∧ Binds K fd ps []
structure Cal (P : Program) (w : World) (K : PySem.W.Frag) (mg : Str → Option Value) (base : Heap) (k : Nat) (x : Str) (ps : List Str) (sp : Sp) : Prop where
  ex : ∃ (f : Addr) (fd : FuncData), FnOk P w K mg base CX0 k f fd ps sp ∧ mg x = some (.ref f) ∧ PySem.W.keepIn K (.ref f) = true ∧ Binds K fd ps []
section
variable {P : Program} {w : World} {K : PySem.W.Frag} {mg : Str → Option Value} {base : Heap}
theorem cal_of {x : Str} {st : Stmt} {N ps : List Str} {k : Nat} {sp : Sp} (F : FunN K mg x st ps) (S : FnScope N ps (defScope st)) (len : ∀ vs H Q E, sp vs H Q E → vs.length = ps.length)
    (hbody : ∀ (f : Addr) (cdv : Value) (A : Around) (outer : List Env) (s : Shared) (H : Hp) (vs : List V) (Q : VK) (E : XK), Room k (A.deeper (envOfC x (defScope st) s.heap.objs.size f cdv)) → sp vs H Q E →
      ∃ t, PSs (cxOf CX0 P w K mg base N x (defScope st) f cdv A outer s H E).nox (defBody st) t ∧ t { nx := fun _ H' => Q .non H', rt := Q } (start N vs) H) : Cal P w K mg base (k + 1) x ps sp := by
  obtain ⟨f, fd, F1, m, b⟩ := F.ex
  exact ⟨f, fd, F1.ok S len (fun cdv A outer s H vs Q E hr h => hbody f cdv A outer s H vs Q E hr h), m, F1.kp, b⟩
theorem Cal.mono {x : Str} {ps : List Str} {j k : Nat} {sp : Sp} (c : Cal P w K mg base j x ps sp) (h : j ≤ k) : Cal P w K mg base k x ps sp := by
  obtain ⟨f, fd, F, m, kp, b⟩ := c.ex
  exact ⟨f, fd, F.mono h, m, kp, b⟩
end
section
variable {X : Cx}
theorem pe_cal {k : Nat} {x : Str} {ps : List Str} {sp : Sp} {e : Expr} {es : List Expr} {t : TA} {p pos : Pos} (c : Cal X.prog X.w X.K X.mg X.base k x ps sp) (hr : Room k X.A) (hg : Gl X x) (ha : PA X (e :: es) t)
    (hdb : (x == ("__debug__" : Str)) = false := by decide) (he : starEach (e :: es) X.env = (false, eval e X.env) :: starEach es X.env := by rfl) (hpl : (backTo pos (starEach es X.env)).any (·.1) = false := by rfl) :
    PE X (.Call (.Name x p) (e :: es) [] pos) (tCall sp [] E0 t) := by
  obtain ⟨f, fd, F, m, kp, b⟩ := c.ex
  exact pe_call F hr hg m kp b .nil pass0 ha hdb he hpl

/-! ### isinstance -/
def rIsi (K : PySem.W.Frag) : List V → Hp → VK → Prop := fun xs H Q => ∃ x T t b, xs = [x, .ty T] ∧ TyOf K H x t ∧ PySem.W.kitOne K t (.type T) = some b ∧ Q (.bl b) H
theorem call_isi : CallR X (.builtin "isinstance") (rIsi X.K) := by
  intro pins s σ H xs us Q I r h
  obtain ⟨x, T, t, b, rfl, ty, e, q⟩ := h
  cases r with
  | cons r1 r =>
    cases r with
    | cons r2 r =>
      cases r
      cases r2
      exact isinst_ok I r1 ty e fun tk => ⟨.bl b, H, I.tok tk, rfl, q⟩
theorem kit_int_str {K : PySem.W.Frag} : PySem.W.kitOne K (.type "int") (.type "str") = some false := by kernel_rfl
theorem kit_bool_str {K : PySem.W.Frag} : PySem.W.kitOne K (.type "bool") (.type "str") = some false := by kernel_rfl
theorem kit_none_str {K : PySem.W.Frag} : PySem.W.kitOne K (.type "NoneType") (.type "str") = some false := by kernel_rfl
theorem kit_list_str {K : PySem.W.Frag} : PySem.W.kitOne K (.type "list") (.type "str") = some false := by kernel_rfl
theorem kit_tuple_str {K : PySem.W.Frag} : PySem.W.kitOne K (.type "tuple") (.type "str") = some false := by kernel_rfl
theorem kit_str_str {K : PySem.W.Frag} : PySem.W.kitOne K (.type "str") (.type "str") = some true := by kernel_rfl
theorem kit_int_int {K : PySem.W.Frag} : PySem.W.kitOne K (.type "int") (.type "int") = some true := by kernel_rfl
theorem kit_bool_int {K : PySem.W.Frag} : PySem.W.kitOne K (.type "bool") (.type "int") = some true := by kernel_rfl
theorem kit_none_int {K : PySem.W.Frag} : PySem.W.kitOne K (.type "NoneType") (.type "int") = some false := by kernel_rfl
theorem kit_list_int {K : PySem.W.Frag} : PySem.W.kitOne K (.type "list") (.type "int") = some false := by kernel_rfl
theorem kit_tuple_int {K : PySem.W.Frag} : PySem.W.kitOne K (.type "tuple") (.type "int") = some false := by kernel_rfl
theorem kit_str_int {K : PySem.W.Frag} : PySem.W.kitOne K (.type "str") (.type "int") = some false := by kernel_rfl
theorem kit_int_bool {K : PySem.W.Frag} : PySem.W.kitOne K (.type "int") (.type "bool") = some false := by kernel_rfl
theorem kit_bool_bool {K : PySem.W.Frag} : PySem.W.kitOne K (.type "bool") (.type "bool") = some true := by kernel_rfl
theorem kit_int_tuple {K : PySem.W.Frag} : PySem.W.kitOne K (.type "int") (.type "tuple") = some false := by kernel_rfl
theorem kit_bool_tuple {K : PySem.W.Frag} : PySem.W.kitOne K (.type "bool") (.type "tuple") = some false := by kernel_rfl
theorem kit_none_tuple {K : PySem.W.Frag} : PySem.W.kitOne K (.type "NoneType") (.type "tuple") = some false := by kernel_rfl
theorem kit_list_tuple {K : PySem.W.Frag} : PySem.W.kitOne K (.type "list") (.type "tuple") = some false := by kernel_rfl
theorem kit_tuple_tuple {K : PySem.W.Frag} : PySem.W.kitOne K (.type "tuple") (.type "tuple") = some true := by kernel_rfl
theorem kit_str_tuple {K : PySem.W.Frag} : PySem.W.kitOne K (.type "str") (.type "tuple") = some false := by kernel_rfl
/-! ### is True -/
theorem op_is_bl : OpR X (compareOp .Is) (fun x y H Q => ∃ a b, x = .bl a ∧ y = .bl b ∧ Q (.bl (a == b)) H) := by
  intro pins s σ H x y v u Q I rx ry h
  obtain ⟨a, b, rfl, rfl, q⟩ := h
  cases rx
  cases ry
  exact is_bool ⟨.bl _, H, I, rfl, q⟩
/-! ### // by any positive divisor of not too many bits -/
def CDivL (i j : Int) : Prop := 0 < j ∧ j.natAbs.log2 < 9000
theorem op_fdivL : OpR X (binaryOp .FloorDiv) (rI CDivL fun i j => .int (i / j)) := opI fun i j _ _ _ _ _ hc q => by
  have h1 : (0 : Int) < j := hc.1
  exact floordiv_int (by omega) (by rw [Int.fdiv_eq_ediv_of_nonneg i (by omega)]; exact q) (.inl (PyProof.noPylong_of_log2 hc.2))

/-! ### repr of data -/
def rRepr (K : PySem.W.Frag) : List V → Hp → VK → Prop := fun xs H Q => ∃ x d, xs = [x] ∧ Dp K H x d ∧ d.showable = true ∧ d.hasDict = false ∧ d.depth ≤ 40 ∧ d.shown.length ≤ sizeLine ∧ Q (.str d.shown) H
theorem call_repr (hg : X.A.guards = some []) (hu : X.A.units + 64 < cLine) : CallR X (.builtin "repr") (rRepr X.K) := by
  intro pins s σ H xs us Q I r h
  obtain ⟨x, d, rfl, dp, hs, hnd, hdp, hsz, q⟩ := h
  obtain ⟨u, rfl, rx⟩ := vals1 r
  obtain ⟨as, rd⟩ := Dp.reads I d x u dp rx
  cases dp with
  | non => cases rx; exact P.repr_of_none ⟨.str _, H, I.tok _, ⟨_, rfl⟩, q⟩
  | bl b => cases rx; exact P.repr_of_bool ⟨.str _, H, I.tok _, ⟨_, rfl⟩, by cases b <;> exact q⟩
  | int i =>
    obtain ⟨t, rfl⟩ := rx
    exact P.repr_of_int (by simpa [PyData.showable] using hs) ⟨.str _, H, I.tok _, ⟨_, rfl⟩, q⟩
  | str y => obtain ⟨t, rfl⟩ := rx; exact P.repr_of_str ⟨.str _, H, I.tok _, ⟨_, rfl⟩, q⟩ hsz
  | lst hsq ha =>
    cases rx
    exact repr_of_reads' rd hs (PyData.noDict_hsm hnd) hg (by omega) (fun _ _ e => e) (fun h' u tk hk => ⟨.str _, H, I.kept hk, ⟨_, rfl⟩, q⟩) hsz
  | tup hsq ha =>
    cases rx
    exact repr_of_reads' rd hs (PyData.noDict_hsm hnd) hg (by omega) (fun _ _ e => e) (fun h' u tk hk => ⟨.str _, H, I.kept hk, ⟨_, rfl⟩, q⟩) hsz

/-! ### list(text) -/
end

/-! ### over a text -/
theorem lc_str {x : Str} {g : TG} {tt : TT} {te : TE} {vs : List Nat} {σ : St} {H1 : Hp} {D : Addr} {Qd : Hp → Prop} (Pv : Nat → Hp → Prop) (h0 : Pv 0 (upd H1 D (.lst [])))
    (hs : ∀ i c H, x.cps.toList[i]? = some c → Pv i H → g (.str ⟨#[c]⟩) (wipe σ vs) H fun σ2 H2 => wipe σ2 vs = wipe σ vs ∧ tt σ2 H2 fun b H3 =>
      if b = true then te σ2 H3 fun y H4 => ∃ acc, H4 D = some (.lst acc) ∧ acc.length < sizeLine ∧ Pv (i + 1) (upd H4 D (.lst (acc ++ [y]))) else Pv (i + 1) H3) (hd : ∀ H, Pv x.cps.toList.length H → Qd H) :
    ∃ W : Nat → Nat → Hp → Prop, (∃ m, W 0 m (upd H1 D (.lst []))) ∧ ∀ i m H, W i m H →
      ((Its x).stop i H ∧ Qd H) ∨ ((Its x).go i H ∧ ∃ Nx : Hp → Prop, (∀ H', Nx H' → ∃ m', m' < m ∧ W (i + 1) m' H') ∧ ∀ y H', (Its x).yld i H y H' → g y (wipe σ vs) H' fun σ2 H2 => wipe σ2 vs = wipe σ vs ∧ tt σ2 H2 fun b H3 =>
        if b = true then te σ2 H3 fun y H4 => ∃ acc, H4 D = some (.lst acc) ∧ acc.length < sizeLine ∧ Nx (upd H4 D (.lst (acc ++ [y]))) else Nx H3) := by
  have el : x.cps.toList.length = x.cps.size := Array.length_toList
  refine ⟨fun i m H => m = x.cps.size - i ∧ i ≤ x.cps.size ∧ Pv i H, ⟨x.cps.size, by simp, Nat.zero_le _, h0⟩, ?_⟩
  rintro i m H ⟨rfl, hi, p⟩
  by_cases hlt : i < x.cps.size
  · refine .inr ⟨hlt, Pv (i + 1), fun H' p' => ⟨x.cps.size - (i + 1), by omega, rfl, hlt, p'⟩, fun y H' q => ?_⟩
    obtain ⟨e, c, hc, rfl⟩ := q
    subst e
    exact hs i c _ (by simpa using hc) p
  · have e : i = x.cps.size := by omega
    subst e
    exact .inl ⟨Nat.le_refl _, hd H (by rw [el]; exact p)⟩

/-! ### heaps that grow -/
theorem Same.seqT {K : PySem.W.Frag} {H H' : Hp} {a : Addr} {xs : List V} (e : Same H H') (h : SqT K H a xs) : SqT K H' a xs := by
  rcases h with (h | ⟨o, h⟩) | h
  · exact .inl (.inl (e _ _ h))
  · exact .inl (.inr ⟨o, e _ _ h⟩)
  · exact .inr h
mutual
theorem Dp.mono {K : PySem.W.Frag} {H H' : Hp} (e : Same H H') : ∀ {v : V} {d : PyData}, Dp K H v d → Dp K H' v d
  | _, _, .non => .non
  | _, _, .bl b => .bl b
  | _, _, .int i => .int i
  | _, _, .str x => .str x
  | _, _, .lst h a => .lst (e.seq h) (DpAll.mono e a)
  | _, _, .tup h a => .tup (e.seqT h) (DpAll.mono e a)
theorem DpAll.mono {K : PySem.W.Frag} {H H' : Hp} (e : Same H H') : ∀ {vs : List V} {ds : List PyData}, DpAll K H vs ds → DpAll K H' vs ds
  | _, _, .nil => .nil
  | _, _, .cons h a => .cons (Dp.mono e h) (DpAll.mono e a)
end
theorem Same.upd_new {H : Hp} {p : Addr} {o : HO} (h : H p = none) : Same H (upd H p o) := fun b u e => by rw [upd_ne (ne_of_none e h)]; exact e
/-- all but p as it was -/
def Off (p : Addr) (H H' : Hp) : Prop := ∀ b o, H b = some o → b ≠ p → H' b = some o
theorem Off.refl {p : Addr} {H : Hp} : Off p H H := fun _ _ h _ => h
theorem Off.trans {p : Addr} {H H1 H2 : Hp} (a : Off p H H1) (b : Off p H1 H2) : Off p H H2 := fun c o h n => b c o (a c o h n) n
theorem Same.off {p : Addr} {H H' : Hp} (a : Same H H') : Off p H H' := fun b o h _ => a b o h
theorem Off.upd {p : Addr} {H : Hp} {o : HO} : Off p H (upd H p o) := fun b u h n => by rw [upd_ne n]; exact h
/-- a thing of any kind that isinstance tells -/
inductive Thing (H : Hp) : V → Prop where
  | non : Thing H .non
  | bl (b : Bool) : Thing H (.bl b)
  | int (i : Int) : Thing H (.int i)
  | str (x : Str) (h : x.length ≤ sizeLine) (ok : ∀ c ∈ x.cps.toList, c < 1114112) : Thing H (.str x)
  | lst {a : Addr} {xs : List V} (h : H a = some (.lst xs)) : Thing H (.ref a)
  | tup {a : Addr} {xs : List V} (h : H a = some (.tup xs)) : Thing H (.ref a)
theorem Thing.mono {H H' : Hp} (e : Same H H') {v : V} (t : Thing H v) : Thing H' v := by
  cases t with
  | non => exact .non
  | bl b => exact .bl b
  | int i => exact .int i
  | str x h ok => exact .str x h ok
  | lst h => exact .lst (e _ _ h)
  | tup h => exact .tup (e _ _ h)
end L2

set_option Elab.async false
set_option linter.all false
set_option maxRecDepth 100000
set_option maxHeartbeats 4000000
namespace L2
open PySem PySem.Spec PyProof.Rows TL
/-! ### texts as lists of codes -/
abbrev cs (x : Str) : List Nat := x.cps.toList
theorem cs_len (x : Str) : (cs x).length = x.length := Array.length_toList
theorem cs_app (x y : Str) : cs (x ++ y) = cs x ++ cs y := tl_append x y
theorem len_app (x y : Str) : (x ++ y).length = x.length + y.length := by rw [← cs_len, cs_app, List.length_append, cs_len, cs_len]
theorem cs_cut (z : Str) (lo hi : Option Int) : cs (cutS z lo hi) = ((cs z).drop (HT.sIx z.length 0 lo)).take (HT.sIx z.length z.length hi - HT.sIx z.length 0 lo) := by
  unfold cutS cs
  rw [List.toList_toArray]
def Lets (x : Str) : Prop := ∀ c ∈ cs x, 97 ≤ c ∧ c ≤ 122
theorem Lets.app {x y : Str} (h : Lets x) (h' : Lets y) : Lets (x ++ y) := fun c m => by
  rw [cs_app] at m
  rcases List.mem_append.mp m with m | m
  · exact h c m
  · exact h' c m
theorem mem_cut {z : Str} {lo hi : Option Int} {c : Nat} (m : c ∈ cs (cutS z lo hi)) : c ∈ cs z := by
  rw [cs_cut] at m
  exact List.mem_of_mem_drop (List.mem_of_mem_take m)
theorem Lets.cut {z : Str} (h : Lets z) (lo hi : Option Int) : Lets (cutS z lo hi) := fun c m => h c (mem_cut m)
theorem len_cut (z : Str) (lo hi : Option Int) : (cutS z lo hi).length = min (HT.sIx z.length z.length hi - HT.sIx z.length 0 lo) (z.length - HT.sIx z.length 0 lo) := by
  rw [← cs_len, cs_cut, List.length_take, List.length_drop, cs_len]
theorem sIx_int (n d : Nat) (i : Int) (h : 0 ≤ i) : HT.sIx n d (some i) = min i.toNat n := by
  show (if i < 0 then (i + (n : Int)).toNat else min i.toNat n) = min i.toNat n
  rw [if_neg (by omega)]
/-- z[:k] -/
theorem len_take {z : Str} {k : Int} (h : 0 ≤ k) : (cutS z none (some k)).length = min k.toNat z.length := by
  rw [len_cut, sIx_int _ _ _ h]
  show min (min k.toNat z.length - 0) (z.length - 0) = _
  omega
/-- z[i:k] -/
theorem len_mid {z : Str} {i k : Int} (h : 0 ≤ i) (h' : 0 ≤ k) : (cutS z (some i) (some k)).length = min k.toNat z.length - min i.toNat z.length := by
  rw [len_cut, sIx_int _ _ _ h, sIx_int _ _ _ h']
  omega
theorem joinL_nil : ∀ ps : List (List Nat), joinL [] ps = ps.flatten
  | [] => rfl
  | [p] => by simp [joinL]
  | p :: q :: r => by
    show p ++ ([] ++ joinL [] (q :: r)) = _
    rw [joinL_nil (q :: r)]
    simp
theorem cs_join (e : Str) (he : cs e = []) (ys : List Str) : cs (Txt.join e ys) = (ys.map cs).flatten := by
  show tl (Txt.join e ys) = _
  rw [join_eq, tl_join]
  show joinL (tl e) (ys.map tl) = _
  have : tl e = [] := he
  rw [this, joinL_nil]
/-- texts of one letter each -/
def Ones (ys : List Str) : Prop := ∀ y ∈ ys, ∃ c, y = ⟨#[c]⟩ ∧ 97 ≤ c ∧ c ≤ 122
theorem ones_join {e : Str} (he : cs e = []) : ∀ {ys : List Str}, Ones ys → Lets (Txt.join e ys) ∧ (Txt.join e ys).length = ys.length := fun {ys} h => by
  have key : ∀ ys : List Str, Ones ys → (∀ c ∈ (ys.map cs).flatten, 97 ≤ c ∧ c ≤ 122) ∧ (ys.map cs).flatten.length = ys.length := by
    intro ys
    induction ys with
    | nil => intro _; exact ⟨fun c m => by simp at m, rfl⟩
    | cons y r ih =>
      intro h
      obtain ⟨c, rfl, hc⟩ := h y (List.mem_cons_self ..)
      obtain ⟨h1, h2⟩ := ih fun z m => h z (List.mem_cons_of_mem _ m)
      refine ⟨fun d m => ?_, ?_⟩
      · rw [List.map_cons, List.flatten_cons] at m
        rcases List.mem_append.mp m with m | m
        · have e : d = c := by simpa [cs] using m
          subst e
          exact hc
        · exact h1 d m
      · rw [List.map_cons, List.flatten_cons, List.length_append, h2]
        simp [cs]
        omega
  obtain ⟨h1, h2⟩ := key ys h
  refine ⟨fun c m => h1 c (by rw [← cs_join e he]; exact m), ?_⟩
  rw [← cs_len, cs_join e he, h2]
theorem map_app1 {ys : List Str} {c : Str} : ys.map V.str ++ [V.str c] = (ys ++ [c]).map V.str := by rw [List.map_append]; rfl
theorem sum_len1 {ys : List Str} (h : Ones ys) : (ys.map (·.length)).sum = ys.length := by
  induction ys with
  | nil => rfl
  | cons y r ih =>
    obtain ⟨c, rfl, _⟩ := h y (List.mem_cons_self ..)
    rw [List.map_cons, List.sum_cons, ih fun z m => h z (List.mem_cons_of_mem _ m)]
    show 1 + r.length = r.length + 1
    omega
theorem szl : (sizeLine : Nat) = 16777216 := sizeLine_eq
theorem atI_in {α : Type} {xs : List α} {i : Int} (h0 : 0 ≤ i) (h1 : i < xs.length) : atI xs i = some (xs[i.toNat]'(by omega)) := by
  have h2 : i.toNat < xs.length := by omega
  have h := atI_nat (xs := xs) (j := i.toNat) (v := xs[i.toNat]) (by simp [h2])
  rwa [Int.toNat_of_nonneg h0] at h
theorem small_log {m : Int} (h0 : 0 < m) (h : m ≤ 1000000) : m.natAbs.log2 < 9000 := by
  have h1 : m.natAbs < 2 ^ 20 := by
    have : m.natAbs ≤ 1000000 := by omega
    exact Nat.lt_of_le_of_lt this (by decide)
  have h2 : m.natAbs.log2 < 20 := (Nat.log2_lt (by omega)).mpr h1
  omega
/-! ### a display of constants -/
def constsOf : List Expr → Option (List V)
  | [] => some []
  | .Constant (.str x) _ _ :: r => (constsOf r).map (V.str x :: ·)
  | .Constant (.int i) _ _ :: r => (constsOf r).map (V.int i :: ·)
  | .Constant (.bool b) _ _ :: r => (constsOf r).map (V.bl b :: ·)
  | .Constant .none _ _ :: r => (constsOf r).map (V.non :: ·)
  | _ => none
def tCs (vs : List V) : TA := fun _ H Q => Q vs H
theorem pa_consts {X : Cx} : ∀ {es : List Expr} {vs : List V}, constsOf es = some vs → PA X es (tCs vs)
  | [], vs, h => by
    have e : ([] : List V) = vs := Option.some.inj h
    subst e
    exact pa_nil
  | .Constant c j pos :: r, vs, h => by
    have key : ∀ (v : V) (us : List V), constsOf r = some us → v :: us = vs → PE X (.Constant c j pos) (tC v) → PA X (.Constant c j pos :: r) (tCs vs) := by
      intro v us e1 e2 pv
      subst e2
      have hr := pa_consts (X := X) e1
      exact pa_cons pv hr
    cases c with
    | str x =>
      cases e : constsOf r with
      | none => rw [constsOf, e] at h; cases h
      | some us => rw [constsOf, e] at h; exact key _ us e (Option.some.inj h) pe_str
    | int x =>
      cases e : constsOf r with
      | none => rw [constsOf, e] at h; cases h
      | some us => rw [constsOf, e] at h; exact key _ us e (Option.some.inj h) pe_int
    | bool x =>
      cases e : constsOf r with
      | none => rw [constsOf, e] at h; cases h
      | some us => rw [constsOf, e] at h; exact key _ us e (Option.some.inj h) pe_bl
    | none =>
      cases e : constsOf r with
      | none => rw [constsOf, e] at h; cases h
      | some us => rw [constsOf, e] at h; exact key _ us e (Option.some.inj h) pe_non
    | _ => simp [constsOf] at h
/-- a cut between two statements -/
theorem seq_after {t u : TS} {D : Ends} {σ : St} {H : Hp} (M : St → Hp → Prop) (h2 : ∀ σ' H', M σ' H' → u D σ' H') (h1 : (∀ σ' H', M σ' H' → u D σ' H') → t { D with nx := u D } σ H) : tSeq t u D σ H := h1 h2
end L2

set_option Elab.async false
set_option linter.all false
set_option maxRecDepth 100000
set_option maxHeartbeats 1000000
namespace L2
open PySem PySem.Spec PyProof.Rows TL
section
variable {X : Cx}
/-- the ints lo, lo + 1, .. -/
def upInts (lo : Int) (n : Nat) : List Int := (List.range n).map fun (i : Nat) => lo + (i : Int)
end
end L2

set_option Elab.async false
set_option linter.all false
set_option maxRecDepth 100000
set_option maxHeartbeats 1000000
namespace L2
open PySem PySem.Spec PyProof.Rows TL
section
variable {X : Cx}
end
end L2

set_option Elab.async false
set_option linter.all false
set_option maxRecDepth 100000
set_option maxHeartbeats 1000000
namespace L2
open PySem PySem.Spec PyProof.Rows TL

section
variable {prog : Program} {w : World} {A : Around} {R : Result → Shared → Prop} {I : Addr} {fp wr : List Addr} {n : Nat} {P : Nat → Value → Prop} {St : Nat → Heap → Prop}
end

section
variable {prog : Program} {w : World} {A : Around} {R : Result → Shared → Prop} {I : Addr} {fp wr : List Addr} {n : Nat} {P : Nat → Value → Prop} {St : Nat → Heap → Prop}
end
end L2

set_option Elab.async false
set_option linter.all false
set_option maxRecDepth 100000
set_option maxHeartbeats 1000000
namespace L2
open PySem PySem.Spec PyProof.Rows TL
/-! ### f(xs, default=d) -/
section
variable {X : Cx}
end
end L2

set_option Elab.async false
set_option linter.all false
set_option maxRecDepth 100000
set_option maxHeartbeats 1000000
namespace L2
open PySem PySem.Spec PyProof.Rows TL
section
variable {prog : Program} {w : World} {A : Around} {E : Value → Shared → Prop} {s : Shared}
end
section
variable {X : Cx} {tg : Expr}
end
end L2

set_option Elab.async false
set_option linter.all false
set_option maxRecDepth 100000
set_option maxHeartbeats 1000000
namespace L2
open PySem PySem.Spec PyProof.Rows TL
/-! ### pieces, pins, what is missed -/
/-- so many signs from a place on -/
def sub (c : List Nat) (i L : Nat) : List Nat := (c.drop i).take L
theorem sub_len {c : List Nat} {i L : Nat} (h : i + L ≤ c.length) : (sub c i L).length = L := by
  unfold sub
  rw [List.length_take, List.length_drop]
  omega
/-- a piece that no pin touches -/
structure Missed (c : List Nat) (p : Nat → Bool) (w : List Nat) : Prop where
  ne : 1 ≤ w.length
  at' : ∃ i, i + w.length ≤ c.length ∧ sub c i w.length = w
  free : ∀ i, i + w.length ≤ c.length → sub c i w.length = w → ∀ j, j < w.length → p (i + j) = false
/-- the shortest one missed, of these the least, of a length from lo to hi -/
def FMin (c : List Nat) (p : Nat → Bool) (lo hi : Nat) (r : Option Str) : Prop :=
  match r with
  | none => ∀ w, lo ≤ w.length → w.length < hi → ¬ Missed c p w
  | some y => lo ≤ y.length ∧ y.length < hi ∧ Missed c p (cs y) ∧ ∀ w, lo ≤ w.length → w.length < hi → Missed c p w → y.length ≤ w.length ∧ (w.length = y.length → ¬ w < cs y)
theorem Missed.len {c : List Nat} {p : Nat → Bool} {w : List Nat} (h : Missed c p w) : w.length ≤ c.length := by
  obtain ⟨i, h1, _⟩ := h.at'
  omega
/-- of two that are so there is one -/
theorem FMin.uniq {c : List Nat} {p : Nat → Bool} {lo hi : Nat} {r s : Option Str} (h : FMin c p lo hi r) (h' : FMin c p lo hi s) : r = s := by
  cases r with
  | none =>
    cases s with
    | none => rfl
    | some y =>
      obtain ⟨h1, h2, h3, _⟩ := h'
      exact absurd h3 (h (cs y) (by rw [cs_len]; exact h1) (by rw [cs_len]; exact h2))
  | some y =>
    obtain ⟨h1, h2, h3, h4⟩ := h
    cases s with
    | none => exact absurd h3 (h' (cs y) (by rw [cs_len]; exact h1) (by rw [cs_len]; exact h2))
    | some z =>
      obtain ⟨g1, g2, g3, g4⟩ := h'
      obtain ⟨a1, a2⟩ := h4 (cs z) (by rw [cs_len]; exact g1) (by rw [cs_len]; exact g2) g3
      obtain ⟨b1, b2⟩ := g4 (cs y) (by rw [cs_len]; exact h1) (by rw [cs_len]; exact h2) h3
      rw [cs_len] at a1 a2 b1 b2
      have e : y.length = z.length := by omega
      have n1 := a2 e.symm
      have n2 := b2 e
      congr 1
      refine TL.ext_tl ?_
      show cs y = cs z
      rcases Classical.em (cs y = cs z) with q | q
      · exact q
      · exact absurd (List.le_antisymm n1 n2) q
theorem FMin.next {c : List Nat} {p : Nat → Bool} {lo mid : Nat} (h : FMin c p lo mid none) (hl : lo ≤ mid) {hi : Nat} (hm : mid < hi) {r : Option Str} (h' : FMin c p mid (mid + 1) r) : (r = none → FMin c p lo (mid + 1) none) ∧ ∀ y, r = some y → FMin c p lo hi (some y) := by
  constructor
  · rintro rfl w h1 h2
    rcases Nat.lt_or_ge w.length mid with q | q
    · exact h w h1 q
    · exact h' w q h2
  · rintro y rfl
    obtain ⟨h1, h2, h3, h4⟩ := h'
    refine ⟨by omega, by omega, h3, fun w w1 w2 mw => ?_⟩
    rcases Nat.lt_or_ge w.length mid with q | q
    · exact absurd mw (h w w1 q)
    · refine ⟨by omega, fun e => ?_⟩
      exact (h4 w (by omega) (by omega) mw).2 e
end L2

set_option Elab.async false
set_option linter.all false
set_option maxRecDepth 100000
set_option maxHeartbeats 1000000
namespace L2
open PySem PySem.Spec PyProof.Rows TL
theorem foldl_app {α : Type} : ∀ (l : List (Array α)) (a : Array α), (l.foldl (· ++ ·) a).toList = a.toList ++ (l.map Array.toList).flatten
  | [], a => by simp
  | x :: l, a => by
    rw [List.foldl_cons, foldl_app l]
    simp
/-- a text so many times -/
def rRepS : R2 := fun x y H Q => ∃ (z : Str) (n : Int), x = .str z ∧ y = .int n ∧ 1 ≤ n ∧ n ≤ 100000 ∧ z.length * n.toNat ≤ sizeLine ∧ ∀ u : Str, cs u = (List.replicate n.toNat (cs z)).flatten → Q (.str u) H
theorem op_rep_str {X : Cx} : OpR X (binaryOp .Mult) rRepS := by
  intro pins s σ H x y v u Q I rx ry h
  obtain ⟨z, n, rfl, rfl, h1, h2, h3, q⟩ := h
  obtain ⟨t, rfl⟩ := rx
  obtain ⟨t', rfl⟩ := ry
  have hS : (sizeLine : Nat) = 16777216 := szl
  refine PySem.P.mul_str ?_ ?_ ?_ ?_
  · rw [decide_eq_false (by omega), decide_eq_false (by omega)]
    rfl
  · intro _ _ hc
    have hz : z.length ≤ 16777216 := by
      have : z.length * 1 ≤ z.length * n.toNat := Nat.mul_le_mul_left _ (by omega)
      omega
    have : (16777216 : Int) ≤ (2 ^ 63 - 1) / n := by
      rw [Int.le_ediv_iff_mul_le (by omega)]
      omega
    omega
  · intro _ _
    unfold Builtin.Str.tooLong
    exact decide_eq_false (by omega)
  · rw [if_neg (by omega)]
    by_cases c : (n == 1 || z.length == 0) = true
    · rw [if_pos c]
      refine ⟨.str z, H, I, ⟨t, rfl⟩, q z ?_⟩
      rw [Bool.or_eq_true] at c
      rcases c with c | c
      · have e : n = 1 := by simpa using c
        subst e
        simp
      · have e : cs z = [] := List.eq_nil_of_length_eq_zero (by rw [cs_len]; simpa using c)
        rw [e]
        simp
    · rw [if_neg c]
      have e : cs (⟨(List.replicate n.toNat z.cps).foldl (· ++ ·) #[]⟩ : Str) = (List.replicate n.toNat (cs z)).flatten := by
        show ((List.replicate n.toNat z.cps).foldl (· ++ ·) #[]).toList = _
        rw [foldl_app, List.map_replicate]
        simp
      refine ⟨?_, .str _, H, I.tok _, ⟨_, rfl⟩, q _ e⟩
      have : (⟨(List.replicate n.toNat z.cps).foldl (· ++ ·) #[]⟩ : Str).length = z.length * n.toNat := by
        rw [← cs_len, e]
        simp [Nat.mul_comm]
        first | exact Nat.mul_comm _ _ | rfl
      omega
/-! ### rows of ints, compared -/
theorem dpAll_ints {K : PySem.W.Frag} {H : Hp} : ∀ ns : List Int, DpAll K H (ns.map V.int) (ns.map PyData.int)
  | [] => .nil
  | n :: ns => .cons (.int n) (dpAll_ints ns)
theorem eqvAll_ints : ∀ ns ms : List Int, PyData.eqvAll (ns.map PyData.int) (ms.map PyData.int) = decide (ns = ms)
  | [], [] => by simp [PyData.eqvAll]
  | [], m :: ms => by simp [PyData.eqvAll]
  | n :: ns, [] => by simp [PyData.eqvAll]
  | n :: ns, m :: ms => by
    rw [List.map_cons, List.map_cons]
    simp only [PyData.eqvAll, PyData.eqv]
    rw [eqvAll_ints ns ms, Bool.eq_iff_iff]
    simp
theorem eqv_ints (ns ms : List Int) : PyData.eqv (.list (ns.map PyData.int)) (.list (ms.map PyData.int)) = decide (ns = ms) := by
  simp only [PyData.eqv]
  exact eqvAll_ints ns ms
theorem flat_ints (ns : List Int) : PyData.canLayAll0 (ns.map PyData.int) = true ∧ PyData.depthAll (ns.map PyData.int) = 0 := by
  induction ns with
  | nil => exact ⟨rfl, rfl⟩
  | cons n ns ih => exact ⟨by simp [PyData.canLayAll0, PyData.canLay0, ih.1], by simp [PyData.depthAll, PyData.depth, ih.2]⟩
theorem shapedL_ints (ns : List Int) : SeqAt.shaped (.list (ns.map PyData.int)) = true := by
  unfold SeqAt.shaped
  simp [PyData.canLay0, PyData.depth, flat_ints]
/-! ### pins -/
/-- places of n, rising -/
structure Pins (n : Nat) (ps : List Int) : Prop where
  up : ps.Pairwise (· < ·)
  rg : ∀ p ∈ ps, 0 ≤ p ∧ p < (n : Int)
theorem Pins.nil {n : Nat} : Pins n [] := ⟨.nil, fun p m => nomatch m⟩
theorem Pins.mono {n m : Nat} {ps : List Int} (h : Pins n ps) (l : n ≤ m) : Pins m ps := ⟨h.up, fun p q => by have := h.rg p q; omega⟩
theorem Pins.snoc {n : Nat} {ps : List Int} (h : Pins n ps) : Pins (n + 1) (ps ++ [(0 : Int) + (n : Int)]) := by
  constructor
  · refine List.pairwise_append.mpr ⟨h.up, List.pairwise_singleton _ _, fun a ha b hb => ?_⟩
    have := h.rg a ha
    have e := List.mem_singleton.mp hb
    omega
  · intro p q
    rcases List.mem_append.mp q with q | q
    · have := h.rg p q; omega
    · have e := List.mem_singleton.mp q
      omega
theorem Pins.len {n : Nat} : ∀ {ps : List Int}, Pins n ps → ps.length ≤ n := by
  have key : ∀ (ps : List Int) (lo : Int), ps.Pairwise (· < ·) → (∀ p ∈ ps, lo ≤ p ∧ p < (n : Int)) → (ps.length : Int) ≤ max 0 ((n : Int) - lo) := by
    intro ps
    induction ps with
    | nil => intro lo _ _; show ((0 : Nat) : Int) ≤ _; omega
    | cons a r ih =>
      intro lo up rg
      have h1 := rg a (List.mem_cons_self ..)
      have h2 := ih (a + 1) (List.pairwise_cons.mp up).2 fun p m => ⟨by have := (List.pairwise_cons.mp up).1 p m; omega, (rg p (List.mem_cons_of_mem _ m)).2⟩
      rw [List.length_cons]
      omega
  intro ps h
  have := key ps 0 h.up h.rg
  omega
theorem Pins.erase {n : Nat} {ps : List Int} (h : Pins n ps) (k : Nat) : Pins n (ps.eraseIdx k) := ⟨h.up.sublist (List.eraseIdx_sublist ..), fun p m => h.rg p (List.mem_of_mem_eraseIdx m)⟩
end L2

set_option Elab.async false
set_option linter.all false
set_option maxRecDepth 100000
set_option maxHeartbeats 1000000
namespace L2
open PySem PySem.Spec PyProof.Rows TL
end L2

set_option Elab.async false
set_option linter.all false
set_option maxRecDepth 100000
set_option maxHeartbeats 1000000
namespace L2
open PySem PySem.Spec PyProof.Rows TL
def IsRvT (h : Heap) (a l : Addr) (i : Int) : Prop := ∃ o, h.get? a = some o ∧ o.cls = .type "reversed" ∧ o.data = .fields #[.ref l, rawInt i]
section
variable {prog : Program} {w : World} {A : Around} {E : Value → Shared → Prop} {s : Shared}
theorem IsRvT.ty {a l : Addr} {i : Int} (x : IsRvT s.heap a l i) : s.TypeIs (.ref a) "reversed" := let ⟨o, ho, hc, _⟩ := x; ⟨o, ho, hc⟩
theorem IsRvT.at' {h h' : Heap} {a l : Addr} {i : Int} (x : IsRvT h a l i) (e : ∀ o, h.get? a = some o → h'.get? a = some o) : IsRvT h' a l i := let ⟨o, ho, r⟩ := x; ⟨o, e _ ho, r⟩
end
section
variable {X : Cx} {tg : Expr}
end
end L2

set_option Elab.async false
set_option linter.all false
set_option maxRecDepth 100000
set_option maxHeartbeats 1000000
namespace L2
open PySem PySem.Spec PyProof.Rows TL
end L2

set_option Elab.async false
set_option linter.all false
set_option maxRecDepth 100000
set_option maxHeartbeats 1000000
namespace L2
open PySem PySem.Spec PyProof.Rows TL
section
variable {prog : Program} {w : World} {A : Around} {E : Value → Shared → Prop} {s : Shared} {a0 : Array Keyed}
end
end L2

set_option Elab.async false
set_option linter.all false
set_option maxRecDepth 100000
set_option maxHeartbeats 1000000
namespace L2
open PySem PySem.Spec PyProof.Rows TL
/-- pins from the end -/
def turn (n : Nat) (ps : List Int) : List Int := ps.reverse.map fun p => (n : Int) - 1 - p
theorem Pins.turn {n : Nat} {ps : List Int} (h : Pins n ps) : Pins n (L2.turn n ps) := by
  constructor
  · unfold L2.turn
    rw [List.pairwise_map, List.pairwise_reverse]
    exact h.up.imp fun q => by omega
  · intro p m
    unfold L2.turn at m
    obtain ⟨q, hq, rfl⟩ := List.mem_map.mp m
    have := h.rg q (List.mem_reverse.mp hq)
    omega
/-! ### read from the end -/
end L2

set_option Elab.async false
set_option linter.all false
set_option maxRecDepth 100000
set_option maxHeartbeats 1000000
namespace L2
open PySem PySem.Spec PyProof.Rows TL
/-! ### a set's table -/
def Rise (xs : Array Nat) : Prop := ∀ i j, i < j → j < xs.size → xs.getD i 0 < xs.getD j 0
theorem getD_in {xs : Array Nat} {i d e : Nat} (h : i < xs.size) : xs.getD i d = xs.getD i e := by simp [Array.getD, h]
theorem below_go {xs : Array Nat} {j : Nat} (hr : Rise xs) : ∀ (f lo hi : Nat), hi - lo ≤ f → lo ≤ hi → hi ≤ xs.size → (∀ i, i < lo → xs.getD i 0 < j) → (∀ i, hi ≤ i → i < xs.size → j ≤ xs.getD i 0) →
    SetTable.below.go xs j f lo hi ≤ xs.size ∧ (∀ i, i < SetTable.below.go xs j f lo hi → xs.getD i 0 < j) ∧ ∀ i, SetTable.below.go xs j f lo hi ≤ i → i < xs.size → j ≤ xs.getD i 0
  | 0, lo, hi, hf, hl, hs, h1, h2 => by
    have e : lo = hi := by omega
    subst e
    exact ⟨hs, h1, h2⟩
  | f + 1, lo, hi, hf, hl, hs, h1, h2 => by
    show _ ∧ _
    unfold SetTable.below.go
    by_cases h : lo < hi
    · rw [if_pos h]
      dsimp only
      have hm : (lo + hi) / 2 < xs.size := by omega
      rw [getD_in (e := 0) hm]
      by_cases hc : xs.getD ((lo + hi) / 2) 0 < j
      · rw [if_pos hc]
        refine below_go hr f _ _ (by omega) (by omega) hs (fun i hi' => ?_) h2
        rcases Nat.lt_or_ge i ((lo + hi) / 2) with q | q
        · have := hr i _ q hm
          omega
        · have e : i = (lo + hi) / 2 := by omega
          rw [e]
          exact hc
      · rw [if_neg hc]
        refine below_go hr f _ _ (by omega) (by omega) (by omega) h1 fun i hi' his => ?_
        rcases Nat.lt_or_ge ((lo + hi) / 2) i with q | q
        · have := hr _ i q his
          omega
        · have e : i = (lo + hi) / 2 := by omega
          rw [e]
          omega
    · rw [if_neg h]
      have e : lo = hi := by omega
      subst e
      exact ⟨hs, h1, h2⟩
theorem below_spec {xs : Array Nat} (hr : Rise xs) (j : Nat) : SetTable.below xs j ≤ xs.size ∧ (∀ i, i < SetTable.below xs j → xs.getD i 0 < j) ∧ ∀ i, SetTable.below xs j ≤ i → i < xs.size → j ≤ xs.getD i 0 :=
  below_go hr _ _ _ (by omega) (Nat.zero_le _) (Nat.le_refl _) (fun i h => absurd h (Nat.not_lt_zero _)) fun i h1 h2 => by omega
theorem insertAt_list {α : Type} (xs : Array α) (p : Nat) (x : α) (h : p ≤ xs.size) : (SetTable.insertAt xs p x).toList = xs.toList.take p ++ x :: xs.toList.drop p := by
  unfold SetTable.insertAt
  simp
  exact List.take_of_length_le (by simp)
theorem Rise.pw {xs : Array Nat} (h : Rise xs) : xs.toList.Pairwise (· < ·) := by
  rw [List.pairwise_iff_getElem]
  intro i j hi hj hij
  rw [Array.length_toList] at hi hj
  have := h i j hij hj
  simp only [Array.getD, hi, hj, dif_pos] at this
  simpa using this
theorem Rise.of {xs : Array Nat} (h : xs.toList.Pairwise (· < ·)) : Rise xs := by
  intro i j hij hj
  rw [List.pairwise_iff_getElem] at h
  have := h i j (by rw [Array.length_toList]; omega) (by rw [Array.length_toList]; omega) hij
  simp only [Array.getD, hj, show i < xs.size by omega, dif_pos]
  simpa using this
theorem Rise.insert {xs : Array Nat} (h : Rise xs) {j : Nat} (hn : ¬ xs[SetTable.below xs j]? = some j) : Rise (SetTable.insertAt xs (SetTable.below xs j) j) := by
  obtain ⟨b1, b2, b3⟩ := below_spec h j
  refine Rise.of ?_
  rw [insertAt_list _ _ _ b1]
  have hp := h.pw
  have lt_of : ∀ i, i < xs.size → xs.toList[i]? = some (xs.getD i 0) := fun i hi => by simp [Array.getD, hi]
  refine List.pairwise_append.mpr ⟨hp.sublist (List.take_sublist ..), List.pairwise_cons.mpr ⟨fun y hy => ?_, hp.sublist (List.drop_sublist ..)⟩, fun y hy z hz => ?_⟩
  · obtain ⟨i, hi, rfl⟩ := List.mem_iff_getElem.mp hy
    rw [List.length_drop, Array.length_toList] at hi
    rw [List.getElem_drop]
    have q := b3 (SetTable.below xs j + i) (by omega) (by omega)
    have e : xs.toList[SetTable.below xs j + i]'(by rw [Array.length_toList]; omega) = xs.getD (SetTable.below xs j + i) 0 := by simp [Array.getD, show SetTable.below xs j + i < xs.size by omega]
    rw [e]
    rcases Nat.lt_or_ge j (xs.getD (SetTable.below xs j + i) 0) with r | r
    · exact r
    · exfalso
      have e0 : xs.getD (SetTable.below xs j + i) 0 = j := by omega
      rcases Nat.eq_zero_or_pos i with z | z
      · subst z
        rw [Nat.add_zero] at e0
        refine hn ?_
        have hb : SetTable.below xs j < xs.size := by omega
        have e2 : xs.getD (SetTable.below xs j) 0 = xs[SetTable.below xs j] := by simp [Array.getD, hb]
        rw [Array.getElem?_eq_getElem hb, ← e2, e0]
      · have c1 := h (SetTable.below xs j) (SetTable.below xs j + i) (by omega) (by omega)
        have c2 := b3 (SetTable.below xs j) (Nat.le_refl _) (by omega)
        omega
  · have hy' : y < j := by
      obtain ⟨i, hi, rfl⟩ := List.mem_iff_getElem.mp hy
      rw [List.length_take, Array.length_toList] at hi
      rw [List.getElem_take]
      have q := b2 i (by omega)
      simpa [Array.getD, show i < xs.size by omega] using q
    rcases List.mem_cons.mp hz with rfl | hz
    · exact hy'
    · obtain ⟨i, hi, rfl⟩ := List.mem_iff_getElem.mp hz
      rw [List.length_drop, Array.length_toList] at hi
      rw [List.getElem_drop]
      have q := b3 (SetTable.below xs j + i) (by omega) (by omega)
      have e : xs.toList[SetTable.below xs j + i]'(by rw [Array.length_toList]; omega) = xs.getD (SetTable.below xs j + i) 0 := by simp [Array.getD, show SetTable.below xs j + i < xs.size by omega]
      rw [e]
      omega
theorem Rise.range (n : Nat) : Rise (Array.range n) := Rise.of (by
  rw [Array.toList_range]
  exact List.pairwise_lt_range)
/-- what is known of a table -/
structure TabOk (led : Bool) (t : SetTable) : Prop where
  rise : Rise t.place
  led : t.led = led
end L2

set_option Elab.async false
set_option linter.all false
set_option maxRecDepth 100000
set_option maxHeartbeats 1000000
namespace L2
open PySem PySem.Spec PyProof.Rows TL
/-! ### a set of ints and texts -/
def kOf : Value → Key
  | .int i _ => .inl i
  | .str x _ => .inr x
  | _ => .inl 0
section
variable {prog : Program} {w : World} {A : Around} {E : Value → Shared → Prop} {s : Shared}
end
end L2

set_option Elab.async false
set_option linter.all false
set_option maxRecDepth 100000
set_option maxHeartbeats 1000000
namespace L2
open PySem PySem.Spec PyProof.Rows TL
/-! ### going through a set -/
section
variable {prog : Program} {w : World} {A : Around} {E : Value → Shared → Prop}
end
end L2

set_option Elab.async false
set_option linter.all false
set_option maxRecDepth 100000
set_option maxHeartbeats 1000000
namespace L2
open PySem PySem.Spec PyProof.Rows TL
def IsSi (h : Heap) (I a : Addr) (first : Value) (i n ep : Nat) : Prop := ∃ o, h.get? I = some o ∧ o.cls = .type "set_iterator" ∧ o.data = .fields #[first, rawInt i, .ref a, rawInt n, rawInt ep]
/-- the set itself -/
structure SetAt (h : Heap) (a : Addr) (es : Array (Int × Value)) (ep : Nat) (t : SetTable) : Prop where
  at' : ∃ o, h.get? a = some o ∧ o.ExactSet ∧ o.data = .set es ep t
  fits : t.fits es.size = true
section
variable {prog : Program} {w : World} {A : Around} {E : Value → Shared → Prop} {s : Shared}
theorem IsSi.ty {I a : Addr} {f : Value} {i n ep : Nat} (x : IsSi s.heap I a f i n ep) : s.TypeIs (.ref I) "set_iterator" := let ⟨o, ho, hc, _⟩ := x; ⟨o, ho, hc⟩
theorem IsSi.at' {h h' : Heap} {I a : Addr} {f : Value} {i n ep : Nat} (x : IsSi h I a f i n ep) (e : ∀ o, h.get? I = some o → h'.get? I = some o) : IsSi h' I a f i n ep := let ⟨o, ho, r⟩ := x; ⟨o, e _ ho, r⟩
/-! what the next one is -/
end
end L2

set_option Elab.async false
set_option linter.all false
set_option maxRecDepth 100000
set_option maxHeartbeats 1000000
namespace L2
open PySem PySem.Spec PyProof.Rows TL
section
variable {prog : Program} {w : World} {A : Around}
end
end L2

set_option Elab.async false
set_option linter.all false
set_option maxRecDepth 100000
set_option maxHeartbeats 1000000
namespace L2
open PySem PySem.Spec PyProof.Rows TL
section
variable {prog : Program} {w : World} {A : Around} {E : Value → Shared → Prop} {s : Shared}
/-- what going through a set brings -/
structure Goes (prog : Program) (w : World) (ks : List Key) (I : Addr) (fp : List Addr) (vs : List Value) (St : Nat → Heap → Prop) : Prop where
  walk : ∀ A' : Around, A'.handled = none → Walks prog w A' I fp [I] vs.length (fun i v => vs[i]? = some v) St
  perm : (vs.map kOf).Perm ks
  is : ∀ v ∈ vs, keyIs (kOf v) v = true
end
end L2

set_option Elab.async false
set_option linter.all false
set_option maxRecDepth 100000
set_option maxHeartbeats 1000000
namespace L2
open PySem PySem.Spec PyProof.Rows TL
section
variable {prog : Program} {w : World} {A : Around} {E : Value → Shared → Prop} {s : Shared}
end
end L2

set_option Elab.async false
set_option linter.all false
set_option maxRecDepth 100000
set_option maxHeartbeats 1000000
namespace L2
open PySem PySem.Spec PyProof.Rows TL
section
variable {X : Cx} {pins : List (Addr × Obj)} {σ : St} {H : Hp} {s : Shared}
end
end L2

set_option Elab.async false
set_option linter.all false
set_option maxRecDepth 100000
set_option maxHeartbeats 1000000
namespace L2
open PySem PySem.Spec PyProof.Rows TL
section
variable {X : Cx}
end
end L2

set_option Elab.async false
set_option linter.all false
set_option maxRecDepth 100000
set_option maxHeartbeats 1000000
namespace L2
open PySem PySem.Spec PyProof.Rows TL
end L2

set_option Elab.async false
set_option linter.all false
set_option maxRecDepth 100000
set_option maxHeartbeats 1000000
namespace L2
open PySem PySem.Spec PyProof.Rows TL
section
variable {prog : Program} {w : World} {A : Around} {E : Value → Shared → Prop} {s : Shared}
end
end L2

set_option Elab.async false
set_option linter.all false
set_option maxRecDepth 100000
set_option maxHeartbeats 1000000
namespace L2
open PySem PySem.Spec PyProof.Rows TL
section
variable {prog : Program} {w : World} {A : Around} {R : Result → Shared → Prop} {I : Addr} {fp wr : List Addr} {G : Array GenState → Array GenState → Prop} {St : Nat → Shared → Prop}
end
end L2

set_option Elab.async false
set_option linter.all false
set_option maxRecDepth 100000
set_option maxHeartbeats 3200000
namespace L2
open PySem PySem.Spec PyProof.Rows TL
section
variable {prog : Program} {w : World} {A : Around} {E : Value → Shared → Prop} {s : Shared}
end
end L2

set_option Elab.async false
set_option linter.all false
set_option maxRecDepth 100000
set_option maxHeartbeats 1000000
namespace L2
open PySem PyProof.Rows
/-- the key of a pair -/
def kf (κ : KeyKind) (p : Keyed) : κ.α := (κ.keyOf p.1).getD κ.dflt
def HasK (κ : KeyKind) (p : Keyed) : Prop := ∃ a, κ.keyOf p.1 = some a
/-- the kind by which is compared -/
class Kd where
  kd : SortKind
/-- what stays: the kind, no failure -/
structure SG [Kd] (st : SortSt) : Prop where
  kind : kindOf st = Kd.kd
  failed : failedOf st = none
section
variable [Kd]
variable {prog : Program} {w : World} {A : Around} {E : Value → Shared → Prop} {s : Shared} {κ : KeyKind}
end
end L2

set_option Elab.async false
set_option linter.all false
set_option maxRecDepth 100000
set_option maxHeartbeats 1000000
namespace L2
open PySem PyProof.Rows
variable [Kd]
section
variable {prog : Program} {w : World} {A : Around} {E : Value → Shared → Prop} {s : Shared} {κ : KeyKind}
end
end L2

set_option Elab.async false
set_option linter.all false
set_option maxRecDepth 100000
set_option maxHeartbeats 1000000
namespace L2
open PySem PyProof.Rows
variable [Kd]
section
variable {κ : KeyKind}
def LE (κ : KeyKind) (x y : Keyed) : Prop := κ.kle (kf κ x) (kf κ y)
def SL (κ : KeyKind) (l : List Keyed) : Prop := l.Pairwise (LE κ)
theorem LE.refl (x : Keyed) : LE κ x x := KeyOrd.kle_refl _
theorem LE.trans {x y z : Keyed} (a : LE κ x y) (b : LE κ y z) : LE κ x z := KeyOrd.kle_trans a b
theorem SL.at {l : List Keyed} (h : SL κ l) {i j : Nat} (hij : i ≤ j) (hj : j < l.length) : LE κ (l[i]'(by omega)) l[j] := by
  rcases Nat.lt_or_ge i j with q | q
  · exact (List.pairwise_iff_getElem.mp h) i j (by omega) hj q
  · have e : i = j := by omega
    subst e
    exact LE.refl _
/-- what a merge has to tell -/
def Merged (κ : KeyKind) (a b : Array Keyed) (r : Array Keyed) : Prop := r.toList.Perm (a.toList ++ b.toList) ∧ SL κ r.toList
structure MI (κ : KeyKind) (a b out : Array Keyed) (ia ib : Nat) : Prop where
  la : ia ≤ a.size
  lb : ib ≤ b.size
  perm : out.toList.Perm (a.toList.take ia ++ b.toList.take ib)
  so : SL κ out.toList
  ra : ∀ x ∈ out.toList, ∀ y ∈ a.toList.drop ia, LE κ x y
  rb : ∀ x ∈ out.toList, ∀ y ∈ b.toList.drop ib, LE κ x y
theorem MI.size {a b out : Array Keyed} {ia ib : Nat} (m : MI κ a b out ia ib) : out.size = ia + ib := by
  have := m.perm.length_eq
  have h1 := m.la
  have h2 := m.lb
  simp only [Array.length_toList, List.length_append, List.length_take] at this
  omega
theorem MI.pushA {a b out : Array Keyed} {ia ib : Nat} (m : MI κ a b out ia ib) (sa : SL κ a.toList) (h : ia < a.size) (hb : ∀ y ∈ b.toList.drop ib, LE κ a[ia] y) : MI κ a b (out.push a[ia]) (ia + 1) ib := by
  have hl : ia < a.toList.length := by simpa using h
  have ed : a.toList.drop ia = a[ia] :: a.toList.drop (ia + 1) := by rw [List.drop_eq_getElem_cons hl]; simp
  have et : a.toList.take (ia + 1) = a.toList.take ia ++ [a[ia]] := by rw [List.take_succ_eq_append_getElem hl]; simp
  refine ⟨h, m.lb, ?_, ?_, ?_, ?_⟩
  · rw [Array.toList_push, et, List.append_assoc]
    exact (m.perm.append_right _).trans (by rw [List.append_assoc]; exact List.Perm.append_left _ List.perm_append_comm)
  · rw [Array.toList_push]
    refine List.pairwise_append.mpr ⟨m.so, List.pairwise_singleton _ _, fun x hx y hy => ?_⟩
    rw [List.mem_singleton.mp hy]
    exact m.ra x hx _ (by rw [ed]; exact List.mem_cons_self ..)
  · intro x hx y hy
    rw [Array.toList_push] at hx
    rcases List.mem_append.mp hx with q | q
    · exact m.ra x q y (by rw [ed]; exact List.mem_cons_of_mem _ hy)
    · rw [List.mem_singleton.mp q]
      have p1 : (a.toList.drop ia).Pairwise (LE κ) := List.Pairwise.sublist (List.drop_sublist _ _) sa
      rw [ed] at p1
      exact List.rel_of_pairwise_cons p1 hy
  · intro x hx y hy
    rw [Array.toList_push] at hx
    rcases List.mem_append.mp hx with q | q
    · exact m.rb x q y hy
    · rw [List.mem_singleton.mp q]
      exact hb y hy
theorem MI.swap {a b out : Array Keyed} {ia ib : Nat} (m : MI κ a b out ia ib) : MI κ b a out ib ia := ⟨m.lb, m.la, m.perm.trans List.perm_append_comm, m.so, m.rb, m.ra⟩
theorem MI.manyA {a b out : Array Keyed} {ia ib : Nat} (m : MI κ a b out ia ib) (sa : SL κ a.toList) : ∀ (k : Nat), ia + k ≤ a.size → (∀ i, i < k → ∀ (q : ia + i < a.size), ∀ y ∈ b.toList.drop ib, LE κ a[ia + i] y) → MI κ a b (out ++ a.extract ia (ia + k)) (ia + k) ib
  | 0, _, _ => by
    have e : out ++ a.extract ia (ia + 0) = out := by simp; omega
    rw [e]
    exact m
  | k + 1, hk, h => by
    have M := MI.manyA m sa k (by omega) (fun i hi => h i (by omega))
    have P := M.pushA sa (by omega) (h k (by omega) (by omega))
    have e : out ++ a.extract ia (ia + (k + 1)) = (out ++ a.extract ia (ia + k)).push a[ia + k] := by
      rw [← Array.append_push]
      congr 1
      rw [Array.push_extract_getElem (by omega)]
      congr 1
      omega
    rw [e]
    exact P
theorem MI.done {a b out : Array Keyed} {ia ib : Nat} (m : MI κ a b out ia ib) (sa : SL κ a.toList) (sb : SL κ b.toList) (h : ∀ x ∈ a.toList.drop ia, ∀ y ∈ b.toList.drop ib, LE κ x y) : Merged κ a b (out ++ a.extract ia a.size ++ b.extract ib b.size) := by
  have e1 : (a.extract ia a.size).toList = a.toList.drop ia := by
    rw [Array.toList_extract, List.extract_eq_take_drop, List.take_of_length_le]
    simp
  have e2 : (b.extract ib b.size).toList = b.toList.drop ib := by
    rw [Array.toList_extract, List.extract_eq_take_drop, List.take_of_length_le]
    simp
  unfold Merged
  rw [Array.toList_append, Array.toList_append, e1, e2]
  constructor
  · refine ((m.perm.append_right _).append_right _).trans ?_
    conv => rhs; rw [← List.take_append_drop ia a.toList, ← List.take_append_drop ib b.toList]
    simp only [List.append_assoc]
    refine List.Perm.append_left _ ?_
    rw [← List.append_assoc, ← List.append_assoc]
    exact List.perm_append_comm.append_right _
  · refine List.pairwise_append.mpr ⟨List.pairwise_append.mpr ⟨m.so, List.Pairwise.sublist (List.drop_sublist _ _) sa, m.ra⟩, List.Pairwise.sublist (List.drop_sublist _ _) sb, fun x hx y hy => ?_⟩
    rcases List.mem_append.mp hx with q | q
    · exact m.rb x q y hy
    · exact h x q y hy
theorem Merged.swap {a b r : Array Keyed} (m : Merged κ a b r) : Merged κ b a r := ⟨m.1.trans List.perm_append_comm, m.2⟩
end
end L2

set_option Elab.async false
set_option linter.all false
set_option maxRecDepth 100000
set_option maxHeartbeats 1000000
namespace L2
open PySem PyProof.Rows
variable [Kd]
end L2

set_option Elab.async false
set_option linter.all false
set_option maxRecDepth 100000
set_option maxHeartbeats 1000000
namespace L2
open PySem PyProof.Rows
variable [Kd]
def AllK (κ : KeyKind) (a : Array Keyed) : Prop := ∀ i, (h : i < a.size) → HasK κ a[i]
/-- what a merge leaves: the same but for its own count -/
structure Keeps (st st' : SortSt) : Prop where
  arr : arrOf st' = arrOf st
  pend : pendingOf st' = pendingOf st
  kind : kindOf st' = kindOf st
  failed : failedOf st' = failedOf st
theorem Keeps.refl (st : SortSt) : Keeps st st := ⟨rfl, rfl, rfl, rfl⟩
theorem Keeps.set {st st' : SortSt} (k : Keeps st st') (g : Nat) : Keeps st (SortSt.mk' (kindOf st') (arrOf st') (pendingOf st') g (failedOf st')) := ⟨k.arr, k.pend, k.kind, k.failed⟩
theorem Keeps.sg {st st' : SortSt} (k : Keeps st st') (g : SG st) : SG st' := ⟨k.kind.trans g.kind, k.failed.trans g.failed⟩
section
variable {prog : Program} {w : World} {A : Around} {E : Value → Shared → Prop} {s : Shared} {κ : KeyKind} {st : SortSt} {a b : Array Keyed}
theorem SL.ix {b : Array Keyed} (h : SL κ b.toList) {i j : Nat} (hij : i ≤ j) (hj : j < b.size) : LE κ (b[i]'(by omega)) b[j] := by
  have := SL.at h hij (by simpa using hj)
  simpa using this
/-- a merge under way -/
structure Lo (κ : KeyKind) (a b : Array Keyed) (n : Nat) (out : Array Keyed) (ia ib : Nat) : Prop where
  mi : MI κ a b out ia ib
  ha : ia + 1 < a.size
  hb : ib < b.size
  hn : n ≤ ia + ib
/-- both rows of a merge -/
structure Two (κ : KeyKind) (a b : Array Keyed) : Prop where
  ka : AllK κ a
  kb : AllK κ b
  sa : SL κ a.toList
  sb : SL κ b.toList
  na : 0 < a.size
  nb : 0 < b.size
  first : LE κ b[0] a[0]
  lst : ∀ j, (h : j < b.size) → LE κ b[j] a[a.size - 1]
theorem Lo.mono {n m : Nat} {out : Array Keyed} {ia ib : Nat} (L : Lo κ a b n out ia ib) (h : m ≤ n) : Lo κ a b m out ia ib := ⟨L.mi, L.ha, L.hb, Nat.le_trans h L.hn⟩
end
end L2

set_option Elab.async false
set_option linter.all false
set_option maxRecDepth 100000
set_option maxHeartbeats 1000000
namespace L2
open PySem PyProof.Rows
variable [Kd]
def hiDone (a b out : Array Keyed) (na nb : Nat) : Array Keyed := a.extract 0 na ++ b.extract 0 nb ++ out.reverse
def hiFirst (a b out : Array Keyed) (na nb : Nat) : Array Keyed := b.extract 0 nb ++ a.extract 0 na ++ out.reverse
section
variable {κ : KeyKind}
structure MH (κ : KeyKind) (a b out : Array Keyed) (na nb : Nat) : Prop where
  la : na ≤ a.size
  lb : nb ≤ b.size
  perm : out.toList.Perm (a.toList.drop na ++ b.toList.drop nb)
  so : SL κ out.toList.reverse
  ra : ∀ x ∈ a.toList.take na, ∀ y ∈ out.toList, LE κ x y
  rb : ∀ x ∈ b.toList.take nb, ∀ y ∈ out.toList, LE κ x y
theorem MH.swap {a b out : Array Keyed} {na nb : Nat} (m : MH κ a b out na nb) : MH κ b a out nb na := ⟨m.lb, m.la, m.perm.trans List.perm_append_comm, m.so, m.rb, m.ra⟩
theorem MH.pushA {a b out : Array Keyed} {na nb : Nat} (m : MH κ a b out (na + 1) nb) (sa : SL κ a.toList) (h : na < a.size) (hb : ∀ y ∈ b.toList.take nb, LE κ y a[na]) : MH κ a b (out.push a[na]) na nb := by
  have hl : na < a.toList.length := by simpa using h
  have ed : a.toList.drop na = a[na] :: a.toList.drop (na + 1) := by rw [List.drop_eq_getElem_cons hl]; simp
  have et : a.toList.take (na + 1) = a.toList.take na ++ [a[na]] := by rw [List.take_succ_eq_append_getElem hl]; simp
  refine ⟨Nat.le_of_lt h, m.lb, ?_, ?_, ?_, ?_⟩
  · rw [Array.toList_push, ed]
    exact List.perm_append_comm.trans (m.perm.cons _)
  · rw [Array.toList_push, List.reverse_append]
    refine List.pairwise_append.mpr ⟨List.pairwise_singleton _ _, m.so, fun x hx y hy => ?_⟩
    have hx' : x = a[na] := by simpa using hx
    rw [hx']
    exact m.ra _ (by rw [et]; exact List.mem_append_right _ (List.mem_singleton_self _)) y (List.mem_reverse.mp hy)
  · intro x hx y hy
    rw [Array.toList_push] at hy
    rcases List.mem_append.mp hy with q | q
    · exact m.ra x (by rw [et]; exact List.mem_append_left _ hx) y q
    · rw [List.mem_singleton.mp q]
      have p1 : (a.toList.take (na + 1)).Pairwise (LE κ) := List.Pairwise.sublist (List.take_sublist _ _) sa
      rw [et] at p1
      exact (List.pairwise_append.mp p1).2.2 x hx _ (List.mem_singleton_self _)
  · intro x hx y hy
    rw [Array.toList_push] at hy
    rcases List.mem_append.mp hy with q | q
    · exact m.rb x hx y q
    · rw [List.mem_singleton.mp q]
      exact hb x hx
theorem MH.manyA {a b out : Array Keyed} {nb : Nat} (sa : SL κ a.toList) : ∀ (d na : Nat), d ≤ na → MH κ a b out na nb → (∀ i, na - d ≤ i → i < na → ∀ (q : i < a.size), ∀ y ∈ b.toList.take nb, LE κ y a[i]) → MH κ a b (out ++ (a.extract (na - d) na).reverse) (na - d) nb
  | 0, na, _, m, _ => by
    have e : out ++ (a.extract (na - 0) na).reverse = out := by simp; omega
    rw [e]
    exact m
  | d + 1, na, hd, m, h => by
    have h0 := m.la
    have M := MH.manyA sa d na (by omega) m (fun i h1 h2 => h i (by omega) h2)
    have P := MH.pushA (na := na - (d + 1)) (by rw [show na - (d + 1) + 1 = na - d by omega]; exact M) sa (by omega) (h (na - (d + 1)) (by omega) (by omega) (by omega))
    have e : out ++ (a.extract (na - (d + 1)) na).reverse = (out ++ (a.extract (na - d) na).reverse).push a[na - (d + 1)] := by
      rw [← Array.append_push]
      congr 1
      apply Array.ext'
      rw [Array.toList_push, Array.toList_reverse, Array.toList_reverse, Array.toList_extract, Array.toList_extract, List.extract_eq_take_drop, List.extract_eq_take_drop]
      have hl : na - (d + 1) < a.toList.length := by simp; omega
      rw [List.drop_eq_getElem_cons hl, show na - (na - (d + 1)) = (na - (na - d)) + 1 by omega, List.take_succ_cons, List.reverse_cons, show na - (d + 1) + 1 = na - d by omega]
      simp
    rw [e]
    exact P
theorem MH.many {a b out : Array Keyed} {na nb k : Nat} (sa : SL κ a.toList) (m : MH κ a b out na nb) (hk : k ≤ na) (h : ∀ i, k ≤ i → i < na → ∀ (q : i < a.size), ∀ y ∈ b.toList.take nb, LE κ y a[i]) : MH κ a b (out ++ (a.extract k na).reverse) k nb := by
  have := MH.manyA sa (na - k) na (by omega) m (fun i h1 h2 => h i (by omega) h2)
  rwa [show na - (na - k) = k by omega] at this
theorem MH.done {a b out : Array Keyed} {na nb : Nat} (m : MH κ a b out na nb) (sa : SL κ a.toList) (sb : SL κ b.toList) (h : ∀ x ∈ a.toList.take na, ∀ y ∈ b.toList.take nb, LE κ x y) : Merged κ a b (hiDone a b out na nb) := by
  have e1 : (a.extract 0 na).toList = a.toList.take na := by
    rw [Array.toList_extract, List.extract_eq_take_drop, List.drop_zero, Nat.sub_zero]
  have e2 : (b.extract 0 nb).toList = b.toList.take nb := by
    rw [Array.toList_extract, List.extract_eq_take_drop, List.drop_zero, Nat.sub_zero]
  unfold Merged hiDone
  rw [Array.toList_append, Array.toList_append, e1, e2, Array.toList_reverse]
  constructor
  · refine (List.Perm.append_left _ ((List.reverse_perm _).trans m.perm)).trans ?_
    conv => rhs; rw [← List.take_append_drop na a.toList, ← List.take_append_drop nb b.toList]
    simp only [List.append_assoc]
    refine List.Perm.append_left _ ?_
    rw [← List.append_assoc, ← List.append_assoc]
    exact List.perm_append_comm.append_right _
  · refine List.pairwise_append.mpr ⟨List.pairwise_append.mpr ⟨List.Pairwise.sublist (List.take_sublist _ _) sa, List.Pairwise.sublist (List.take_sublist _ _) sb, h⟩, m.so, fun x hx y hy => ?_⟩
    rcases List.mem_append.mp hx with q | q
    · exact m.ra x q y (List.mem_reverse.mp hy)
    · exact m.rb x q y (List.mem_reverse.mp hy)
theorem MH.first {a b out : Array Keyed} {na nb : Nat} (m : MH κ a b out na nb) (sa : SL κ a.toList) (sb : SL κ b.toList) (h : ∀ y ∈ b.toList.take nb, ∀ x ∈ a.toList.take na, LE κ y x) : Merged κ a b (hiFirst a b out na nb) :=
  (m.swap.done sb sa h).swap
end
end L2

set_option Elab.async false
set_option linter.all false
set_option maxRecDepth 100000
set_option maxHeartbeats 1000000
namespace L2
open PySem PyProof.Rows
variable [Kd]
section
variable {prog : Program} {w : World} {A : Around} {E : Value → Shared → Prop} {s : Shared} {κ : KeyKind} {st : SortSt} {a b : Array Keyed}
structure Hi (κ : KeyKind) (a b : Array Keyed) (n : Nat) (out : Array Keyed) (na nb : Nat) : Prop where
  mh : MH κ a b out na nb
  ha : 0 < na
  hb : 1 < nb
  hn : na + nb + n ≤ a.size + b.size
theorem Hi.mono {n m : Nat} {out : Array Keyed} {na nb : Nat} (L : Hi κ a b n out na nb) (h : m ≤ n) : Hi κ a b m out na nb := ⟨L.mh, L.ha, L.hb, by have := L.hn; omega⟩
end
end L2

set_option Elab.async false
set_option linter.all false
set_option maxRecDepth 100000
set_option maxHeartbeats 1000000
namespace L2
open PySem PyProof.Rows
variable [Kd]
end L2

set_option Elab.async false
set_option linter.all false
set_option maxRecDepth 100000
set_option maxHeartbeats 1000000
namespace L2
open PySem PyProof.Rows
variable [Kd]
/-- sorting from lo on: what lies ahead of lo stays -/
structure SF (a0 : Array Keyed) (lo : Nat) (x0 : Array Keyed) (pd : Array (Nat × Nat × Nat)) (st : SortSt) : Prop where
  perm : (arrOf st).Perm a0
  low : ∀ k, k < lo → (arrOf st)[k]? = x0[k]?
  sg : SG st
  pend : pendingOf st = pd
section
variable {prog : Program} {w : World} {A : Around} {E : Value → Shared → Prop} {s : Shared} {κ : KeyKind} {a0 x0 : Array Keyed} {lo : Nat} {pd : Array (Nat × Nat × Nat)} {st : SortSt}
theorem SF.size (F : SF a0 lo x0 pd st) : (arrOf st).size = a0.size := F.perm.size_eq
theorem SF.all (F : SF a0 lo x0 pd st) (h0 : KeysOf κ a0) : AllK κ (arrOf st) := fun i h => h0 _ ((Array.perm_iff_toList_perm.mp F.perm).mem_iff.mp (by simp))
/-- sorted from lo on, n signs -/
def SoA (κ : KeyKind) (xs : Array Keyed) (lo n : Nat) : Prop := ∀ i j, i ≤ j → j < n → κ.kle (KK κ xs (lo + i)) (KK κ xs (lo + j))
def SoD (κ : KeyKind) (xs : Array Keyed) (lo n : Nat) : Prop := ∀ i j, i ≤ j → j < n → κ.kle (KK κ xs (lo + j)) (KK κ xs (lo + i))
end
end L2

set_option Elab.async false
set_option linter.all false
set_option maxRecDepth 100000
set_option maxHeartbeats 1000000
namespace L2
open PySem PyProof.Rows
variable [Kd]
section
variable {prog : Program} {w : World} {A : Around} {E : Value → Shared → Prop} {s : Shared} {κ : KeyKind} {a0 x0 : Array Keyed} {lo : Nat} {pd : Array (Nat × Nat × Nat)} {st : SortSt}
theorem SF.move (F : SF a0 lo x0 pd st) {k l : Nat} (hk : lo + k < a0.size) (hl : l ≤ k) : SF a0 lo x0 pd (setArr st (bubble (arrOf st) (lo + k) (lo + k - (lo + l)))) :=
  ⟨(bubble_perm _ _ _).trans F.perm, fun i hi => by
    show (bubble (arrOf st) (lo + k) (lo + k - (lo + l)))[i]? = _
    rw [getElem?_bubble (by rw [F.size]; exact hk) _ (by omega), if_neg (by omega), if_neg (by omega)]
    exact F.low i hi, ⟨F.sg.kind, F.sg.failed⟩, F.pend⟩
end
end L2

set_option Elab.async false
set_option linter.all false
set_option maxRecDepth 100000
set_option maxHeartbeats 1000000
namespace L2
open PySem PyProof.Rows
variable [Kd]
/-- rows of the pending ones, one behind the other -/
def Chn : Nat → List (Nat × Nat × Nat) → Nat → Prop
  | a, [], b => a = b
  | a, t :: ps, b => t.1 = a ∧ 1 ≤ t.2.1 ∧ Chn (a + t.2.1) ps b
theorem Chn.le : ∀ {ps : List (Nat × Nat × Nat)} {a b : Nat}, Chn a ps b → a ≤ b
  | [], _, _, h => Nat.le_of_eq h
  | t :: ps, a, b, h => by have := Chn.le h.2.2; omega
theorem Chn.mem : ∀ {ps : List (Nat × Nat × Nat)} {a b : Nat}, Chn a ps b → ∀ t ∈ ps, a ≤ t.1 ∧ t.1 + t.2.1 ≤ b
  | [], _, _, _, t, ht => nomatch ht
  | u :: ps, a, b, h, t, ht => by
    obtain ⟨h1, h2, h3⟩ := h
    have l := h3.le
    rcases List.mem_cons.mp ht with rfl | q
    · omega
    · have := Chn.mem h3 t q
      omega
theorem Chn.app : ∀ {ps qs : List (Nat × Nat × Nat)} {a b : Nat}, Chn a (ps ++ qs) b ↔ ∃ m, Chn a ps m ∧ Chn m qs b
  | [], qs, a, b => ⟨fun h => ⟨a, rfl, h⟩, fun ⟨m, h1, h2⟩ => by cases h1; exact h2⟩
  | t :: ps, qs, a, b => by
    constructor
    · rintro ⟨h1, h2, h3⟩
      obtain ⟨m, h4, h5⟩ := Chn.app.mp h3
      exact ⟨m, ⟨h1, h2, h4⟩, h5⟩
    · rintro ⟨m, ⟨h1, h2, h4⟩, h5⟩
      exact ⟨h1, h2, Chn.app.mpr ⟨m, h4, h5⟩⟩
theorem Chn.len : ∀ {ps : List (Nat × Nat × Nat)} {a b : Nat}, Chn a ps b → a + ps.length ≤ b
  | [], _, _, h => Nat.le_of_eq h
  | t :: ps, a, b, h => by
    have := Chn.len h.2.2
    have := h.2.1
    rw [List.length_cons]
    omega
/-- sorted from lo to hi -/
def RS (κ : KeyKind) (xs : Array Keyed) (lo hi : Nat) : Prop := ∀ i j, lo ≤ i → i ≤ j → j < hi → κ.kle (KK κ xs i) (KK κ xs j)
theorem RS.congr {κ : KeyKind} {xs ys : Array Keyed} {lo hi : Nat} (h : RS κ xs lo hi) (e : ∀ k, lo ≤ k → k < hi → ys[k]? = xs[k]?) : RS κ ys lo hi := fun i j a b c => by
  rw [KK_congr (e i a (by omega)), KK_congr (e j (by omega) c)]
  exact h i j a b c
end L2

set_option Elab.async false
set_option linter.all false
set_option maxRecDepth 100000
set_option maxHeartbeats 1000000
namespace L2
open PySem PyProof.Rows
variable [Kd]
section
variable {prog : Program} {w : World} {A : Around} {E : Value → Shared → Prop} {s : Shared} {κ : KeyKind} {st : SortSt}
/-- what a merge of two rows leaves -/
structure MAt (κ : KeyKind) (st st' : SortSt) (sa se : Nat) : Prop where
  perm : (arrOf st').Perm (arrOf st)
  out : ∀ k, k < sa ∨ se ≤ k → (arrOf st')[k]? = (arrOf st)[k]?
  so : RS κ (arrOf st') sa se
  sg : SG st'
end
end L2

set_option Elab.async false
set_option linter.all false
set_option maxRecDepth 100000
set_option maxHeartbeats 1000000
namespace L2
open PySem PyProof.Rows
variable [Kd]
end L2

set_option Elab.async false
set_option linter.all false
set_option maxRecDepth 100000
set_option maxHeartbeats 1000000
namespace L2
open PySem PyProof.Rows
variable [Kd]
theorem Chn.congr : ∀ {ps qs : List (Nat × Nat × Nat)} {a b : Nat}, ps.map (fun t => (t.1, t.2.1)) = qs.map (fun t => (t.1, t.2.1)) → Chn a ps b → Chn a qs b
  | [], [], _, _, _, h => h
  | [], q :: qs, _, _, e, _ => by simp at e
  | p :: ps, [], _, _, e, _ => by simp at e
  | p :: ps, q :: qs, a, b, e, h => by
    rw [List.map_cons, List.map_cons] at e
    injection e with e1 e2
    injection e1 with e3 e4
    obtain ⟨h1, h2, h3⟩ := h
    exact ⟨e3.symm.trans h1, by omega, by rw [← e4]; exact Chn.congr e2 h3⟩
/-- the state between two runs -/
structure RI (κ : KeyKind) (a0 : Array Keyed) (lo : Nat) (st : SortSt) : Prop where
  perm : (arrOf st).Perm a0
  sg : SG st
  chn : Chn 0 (pendingOf st).toList lo
  so : ∀ t ∈ (pendingOf st).toList, RS κ (arrOf st) t.1 (t.1 + t.2.1)
section
variable {prog : Program} {w : World} {A : Around} {E : Value → Shared → Prop} {s : Shared} {κ : KeyKind} {a0 : Array Keyed} {st : SortSt} {lo : Nat}
/-- a run found behind the pending ones -/
structure RF (κ : KeyKind) (a0 : Array Keyed) (lo n : Nat) (st : SortSt) : Prop where
  ri : RI κ a0 lo st
  run : RS κ (arrOf st) lo (lo + n)
theorem RF.congr {n : Nat} {st' : SortSt} (R : RF κ a0 lo n st) (R' : RI κ a0 lo st') (e : ∀ k, lo ≤ k → (arrOf st')[k]? = (arrOf st)[k]?) : RF κ a0 lo n st' := ⟨R', R.run.congr fun k k1 _ => e k k1⟩
theorem RF.of (R : RI κ a0 lo st) {st' : SortSt} {n : Nat} (F : SF a0 lo (arrOf st) (pendingOf st) st') (so : SoA κ (arrOf st') lo n) : RF κ a0 lo n st' := by
  refine ⟨⟨F.perm, F.sg, by rw [F.pend]; exact R.chn, fun t ht => ?_⟩, fun i j a b c => ?_⟩
  · rw [F.pend] at ht
    have := R.chn.mem t ht
    exact (R.so t ht).congr fun k _ k2 => F.low k (by omega)
  · have := so (i - lo) (j - lo) (by omega) (by omega)
    rwa [show lo + (i - lo) = i by omega, show lo + (j - lo) = j by omega] at this
end
omit [Kd]
end L2

set_option Elab.async false
set_option linter.all false
set_option maxRecDepth 100000
set_option maxHeartbeats 1000000
namespace L2S
open PySem PyProof.Rows L2
/-- a stable sort: what is ordered is an item's key with its place at the start -/
class St where
  kd : SortKind
  b : KeyKind
  pos : Keyed → Nat
instance [St] : L2.Kd := ⟨St.kd⟩
/-- pairs of a key and a place, by the key and then by the place -/
def lexOrd (b : KeyOrd) : KeyOrd where
  α := b.α × Nat
  blt x y := b.blt x.1 y.1 || (!b.blt y.1 x.1 && decide (x.2 < y.2))
  irrefl a := by simp [b.irrefl]
  trans x y z h1 h2 := by
    simp only [Bool.or_eq_true, Bool.and_eq_true, Bool.not_eq_true', decide_eq_true_eq] at h1 h2 ⊢
    rcases h1 with h1 | ⟨h1, p1⟩
    · rcases h2 with h2 | ⟨h2, p2⟩
      · exact .inl (b.trans _ _ _ h1 h2)
      · rcases b.negTrans _ z.1 _ h1 with h3 | h3
        · exact .inl h3
        · rw [h2] at h3; cases h3
    · rcases h2 with h2 | ⟨h2, p2⟩
      · rcases b.negTrans _ x.1 _ h2 with h3 | h3
        · rw [h1] at h3; cases h3
        · exact .inl h3
      · refine .inr ⟨?_, by omega⟩
        cases h3 : b.blt z.1 x.1 with
        | false => rfl
        | true =>
          rcases b.negTrans _ y.1 _ h3 with h4 | h4
          · rw [h2] at h4; cases h4
          · rw [h1] at h4; cases h4
  negTrans x y z h := by
    simp only [Bool.or_eq_true, Bool.and_eq_true, Bool.not_eq_true', decide_eq_true_eq] at h ⊢
    cases h1 : b.blt x.1 y.1 with
    | true => exact .inl (.inl rfl)
    | false =>
      cases h2 : b.blt y.1 z.1 with
      | true => exact .inr (.inl rfl)
      | false =>
        rcases h with h | ⟨h, p⟩
        · rcases b.negTrans _ y.1 _ h with h3 | h3
          · rw [h1] at h3; cases h3
          · rw [h2] at h3; cases h3
        · cases h3 : b.blt y.1 x.1 with
          | true =>
            rcases b.negTrans _ z.1 _ h3 with h4 | h4
            · rw [h2] at h4; cases h4
            · rw [h] at h4; cases h4
          | false =>
            cases h4 : b.blt z.1 y.1 with
            | true =>
              rcases b.negTrans _ x.1 _ h4 with h5 | h5
              · rw [h] at h5; cases h5
              · rw [h1] at h5; cases h5
            | false =>
              rcases Nat.lt_or_ge x.2 y.2 with q | q
              · exact .inl (.inr ⟨rfl, q⟩)
              · exact .inr (.inr ⟨rfl, by omega⟩)
  total x y h1 h2 := by
    simp only [Bool.or_eq_false_iff, Bool.and_eq_false_iff, Bool.not_eq_false', decide_eq_false_iff_not] at h1 h2
    have e := b.total _ _ h1.1 h2.1
    have p1 : ¬ x.2 < y.2 := h1.2.resolve_left (by rw [h2.1]; decide)
    have p2 : ¬ y.2 < x.2 := h2.2.resolve_left (by rw [h1.1]; decide)
    exact Prod.ext e (by omega)
abbrev κ [St] : KeyOrd := lexOrd St.b.toKeyOrd
variable [St]
/-- the key alone -/
def bk (p : Keyed) : St.b.α := (St.b.keyOf p.1).getD St.b.dflt
def kf (p : Keyed) : κ.α := (bk p, St.pos p)
def HasK (p : Keyed) : Prop := ∃ a, St.b.keyOf p.1 = some a
def St.aft (x y : Keyed) : Prop := St.pos y < St.pos x
section
variable {prog : Program} {w : World} {A : Around} {E : Value → Shared → Prop} {s : Shared}
end
end L2S

set_option Elab.async false
set_option linter.all false
set_option maxRecDepth 100000
set_option maxHeartbeats 1000000
namespace L2S
open PySem PyProof.Rows L2
variable [St]
section
variable {prog : Program} {w : World} {A : Around} {E : Value → Shared → Prop} {s : Shared}
end
end L2S

set_option Elab.async false
set_option linter.all false
set_option maxRecDepth 100000
set_option maxHeartbeats 1000000
namespace L2S
open PySem PyProof.Rows L2
variable [St]
section
def LE (x y : Keyed) : Prop := κ.kle (kf x) (kf y)
def SL (l : List Keyed) : Prop := l.Pairwise (LE)
theorem LE.refl (x : Keyed) : LE x x := KeyOrd.kle_refl _
theorem LE.trans {x y z : Keyed} (a : LE x y) (b : LE y z) : LE x z := KeyOrd.kle_trans a b
theorem SL.at {l : List Keyed} (h : SL l) {i j : Nat} (hij : i ≤ j) (hj : j < l.length) : LE (l[i]'(by omega)) l[j] := by
  rcases Nat.lt_or_ge i j with q | q
  · exact (List.pairwise_iff_getElem.mp h) i j (by omega) hj q
  · have e : i = j := by omega
    subst e
    exact LE.refl _
/-- what a merge has to tell -/
def Merged (a b : Array Keyed) (r : Array Keyed) : Prop := r.toList.Perm (a.toList ++ b.toList) ∧ SL r.toList
structure MI (a b out : Array Keyed) (ia ib : Nat) : Prop where
  la : ia ≤ a.size
  lb : ib ≤ b.size
  perm : out.toList.Perm (a.toList.take ia ++ b.toList.take ib)
  so : SL out.toList
  ra : ∀ x ∈ out.toList, ∀ y ∈ a.toList.drop ia, LE x y
  rb : ∀ x ∈ out.toList, ∀ y ∈ b.toList.drop ib, LE x y
theorem MI.size {a b out : Array Keyed} {ia ib : Nat} (m : MI a b out ia ib) : out.size = ia + ib := by
  have := m.perm.length_eq
  have h1 := m.la
  have h2 := m.lb
  simp only [Array.length_toList, List.length_append, List.length_take] at this
  omega
theorem MI.pushA {a b out : Array Keyed} {ia ib : Nat} (m : MI a b out ia ib) (sa : SL a.toList) (h : ia < a.size) (hb : ∀ y ∈ b.toList.drop ib, LE a[ia] y) : MI a b (out.push a[ia]) (ia + 1) ib := by
  have hl : ia < a.toList.length := by simpa using h
  have ed : a.toList.drop ia = a[ia] :: a.toList.drop (ia + 1) := by rw [List.drop_eq_getElem_cons hl]; simp
  have et : a.toList.take (ia + 1) = a.toList.take ia ++ [a[ia]] := by rw [List.take_succ_eq_append_getElem hl]; simp
  refine ⟨h, m.lb, ?_, ?_, ?_, ?_⟩
  · rw [Array.toList_push, et, List.append_assoc]
    exact (m.perm.append_right _).trans (by rw [List.append_assoc]; exact List.Perm.append_left _ List.perm_append_comm)
  · rw [Array.toList_push]
    refine List.pairwise_append.mpr ⟨m.so, List.pairwise_singleton _ _, fun x hx y hy => ?_⟩
    rw [List.mem_singleton.mp hy]
    exact m.ra x hx _ (by rw [ed]; exact List.mem_cons_self ..)
  · intro x hx y hy
    rw [Array.toList_push] at hx
    rcases List.mem_append.mp hx with q | q
    · exact m.ra x q y (by rw [ed]; exact List.mem_cons_of_mem _ hy)
    · rw [List.mem_singleton.mp q]
      have p1 : (a.toList.drop ia).Pairwise (LE) := List.Pairwise.sublist (List.drop_sublist _ _) sa
      rw [ed] at p1
      exact List.rel_of_pairwise_cons p1 hy
  · intro x hx y hy
    rw [Array.toList_push] at hx
    rcases List.mem_append.mp hx with q | q
    · exact m.rb x q y hy
    · rw [List.mem_singleton.mp q]
      exact hb y hy
theorem MI.swap {a b out : Array Keyed} {ia ib : Nat} (m : MI a b out ia ib) : MI b a out ib ia := ⟨m.lb, m.la, m.perm.trans List.perm_append_comm, m.so, m.rb, m.ra⟩
theorem MI.manyA {a b out : Array Keyed} {ia ib : Nat} (m : MI a b out ia ib) (sa : SL a.toList) : ∀ (k : Nat), ia + k ≤ a.size → (∀ i, i < k → ∀ (q : ia + i < a.size), ∀ y ∈ b.toList.drop ib, LE a[ia + i] y) → MI a b (out ++ a.extract ia (ia + k)) (ia + k) ib
  | 0, _, _ => by
    have e : out ++ a.extract ia (ia + 0) = out := by simp; omega
    rw [e]
    exact m
  | k + 1, hk, h => by
    have M := MI.manyA m sa k (by omega) (fun i hi => h i (by omega))
    have P := M.pushA sa (by omega) (h k (by omega) (by omega))
    have e : out ++ a.extract ia (ia + (k + 1)) = (out ++ a.extract ia (ia + k)).push a[ia + k] := by
      rw [← Array.append_push]
      congr 1
      rw [Array.push_extract_getElem (by omega)]
      congr 1
      omega
    rw [e]
    exact P
theorem MI.done {a b out : Array Keyed} {ia ib : Nat} (m : MI a b out ia ib) (sa : SL a.toList) (sb : SL b.toList) (h : ∀ x ∈ a.toList.drop ia, ∀ y ∈ b.toList.drop ib, LE x y) : Merged a b (out ++ a.extract ia a.size ++ b.extract ib b.size) := by
  have e1 : (a.extract ia a.size).toList = a.toList.drop ia := by
    rw [Array.toList_extract, List.extract_eq_take_drop, List.take_of_length_le]
    simp
  have e2 : (b.extract ib b.size).toList = b.toList.drop ib := by
    rw [Array.toList_extract, List.extract_eq_take_drop, List.take_of_length_le]
    simp
  unfold Merged
  rw [Array.toList_append, Array.toList_append, e1, e2]
  constructor
  · refine ((m.perm.append_right _).append_right _).trans ?_
    conv => rhs; rw [← List.take_append_drop ia a.toList, ← List.take_append_drop ib b.toList]
    simp only [List.append_assoc]
    refine List.Perm.append_left _ ?_
    rw [← List.append_assoc, ← List.append_assoc]
    exact List.perm_append_comm.append_right _
  · refine List.pairwise_append.mpr ⟨List.pairwise_append.mpr ⟨m.so, List.Pairwise.sublist (List.drop_sublist _ _) sa, m.ra⟩, List.Pairwise.sublist (List.drop_sublist _ _) sb, fun x hx y hy => ?_⟩
    rcases List.mem_append.mp hx with q | q
    · exact m.rb x q y hy
    · exact h x q y hy
theorem Merged.swap {a b r : Array Keyed} (m : Merged a b r) : Merged b a r := ⟨m.1.trans List.perm_append_comm, m.2⟩
end
end L2S

set_option Elab.async false
set_option linter.all false
set_option maxRecDepth 100000
set_option maxHeartbeats 1000000
namespace L2S
open PySem PyProof.Rows L2
variable [St]
def AllK (a : Array Keyed) : Prop := ∀ i, (h : i < a.size) → HasK a[i]
section
variable {prog : Program} {w : World} {A : Around} {E : Value → Shared → Prop} {s : Shared} {st : SortSt} {a b : Array Keyed}
theorem SL.ix {b : Array Keyed} (h : SL b.toList) {i j : Nat} (hij : i ≤ j) (hj : j < b.size) : LE (b[i]'(by omega)) b[j] := by
  have := SL.at h hij (by simpa using hj)
  simpa using this
/-- a merge under way -/
structure Lo (a b : Array Keyed) (n : Nat) (out : Array Keyed) (ia ib : Nat) : Prop where
  mi : MI a b out ia ib
  ha : ia + 1 < a.size
  hb : ib < b.size
  hn : n ≤ ia + ib
/-- both rows of a merge -/
structure Two (a b : Array Keyed) : Prop where
  ka : AllK a
  kb : AllK b
  sa : SL a.toList
  sb : SL b.toList
  na : 0 < a.size
  nb : 0 < b.size
  first : LE b[0] a[0]
  lst : ∀ j, (h : j < b.size) → LE b[j] a[a.size - 1]
  af : ∀ i j, (hi : i < a.size) → (hj : j < b.size) → St.aft b[j] a[i]
theorem Lo.mono {n m : Nat} {out : Array Keyed} {ia ib : Nat} (L : Lo a b n out ia ib) (h : m ≤ n) : Lo a b m out ia ib := ⟨L.mi, L.ha, L.hb, Nat.le_trans h L.hn⟩
end
end L2S

set_option Elab.async false
set_option linter.all false
set_option maxRecDepth 100000
set_option maxHeartbeats 1000000
namespace L2S
open PySem PyProof.Rows L2
variable [St]
section
structure MH (a b out : Array Keyed) (na nb : Nat) : Prop where
  la : na ≤ a.size
  lb : nb ≤ b.size
  perm : out.toList.Perm (a.toList.drop na ++ b.toList.drop nb)
  so : SL out.toList.reverse
  ra : ∀ x ∈ a.toList.take na, ∀ y ∈ out.toList, LE x y
  rb : ∀ x ∈ b.toList.take nb, ∀ y ∈ out.toList, LE x y
theorem MH.swap {a b out : Array Keyed} {na nb : Nat} (m : MH a b out na nb) : MH b a out nb na := ⟨m.lb, m.la, m.perm.trans List.perm_append_comm, m.so, m.rb, m.ra⟩
theorem MH.pushA {a b out : Array Keyed} {na nb : Nat} (m : MH a b out (na + 1) nb) (sa : SL a.toList) (h : na < a.size) (hb : ∀ y ∈ b.toList.take nb, LE y a[na]) : MH a b (out.push a[na]) na nb := by
  have hl : na < a.toList.length := by simpa using h
  have ed : a.toList.drop na = a[na] :: a.toList.drop (na + 1) := by rw [List.drop_eq_getElem_cons hl]; simp
  have et : a.toList.take (na + 1) = a.toList.take na ++ [a[na]] := by rw [List.take_succ_eq_append_getElem hl]; simp
  refine ⟨Nat.le_of_lt h, m.lb, ?_, ?_, ?_, ?_⟩
  · rw [Array.toList_push, ed]
    exact List.perm_append_comm.trans (m.perm.cons _)
  · rw [Array.toList_push, List.reverse_append]
    refine List.pairwise_append.mpr ⟨List.pairwise_singleton _ _, m.so, fun x hx y hy => ?_⟩
    have hx' : x = a[na] := by simpa using hx
    rw [hx']
    exact m.ra _ (by rw [et]; exact List.mem_append_right _ (List.mem_singleton_self _)) y (List.mem_reverse.mp hy)
  · intro x hx y hy
    rw [Array.toList_push] at hy
    rcases List.mem_append.mp hy with q | q
    · exact m.ra x (by rw [et]; exact List.mem_append_left _ hx) y q
    · rw [List.mem_singleton.mp q]
      have p1 : (a.toList.take (na + 1)).Pairwise (LE) := List.Pairwise.sublist (List.take_sublist _ _) sa
      rw [et] at p1
      exact (List.pairwise_append.mp p1).2.2 x hx _ (List.mem_singleton_self _)
  · intro x hx y hy
    rw [Array.toList_push] at hy
    rcases List.mem_append.mp hy with q | q
    · exact m.rb x hx y q
    · rw [List.mem_singleton.mp q]
      exact hb x hx
theorem MH.manyA {a b out : Array Keyed} {nb : Nat} (sa : SL a.toList) : ∀ (d na : Nat), d ≤ na → MH a b out na nb → (∀ i, na - d ≤ i → i < na → ∀ (q : i < a.size), ∀ y ∈ b.toList.take nb, LE y a[i]) → MH a b (out ++ (a.extract (na - d) na).reverse) (na - d) nb
  | 0, na, _, m, _ => by
    have e : out ++ (a.extract (na - 0) na).reverse = out := by simp; omega
    rw [e]
    exact m
  | d + 1, na, hd, m, h => by
    have h0 := m.la
    have M := MH.manyA sa d na (by omega) m (fun i h1 h2 => h i (by omega) h2)
    have P := MH.pushA (na := na - (d + 1)) (by rw [show na - (d + 1) + 1 = na - d by omega]; exact M) sa (by omega) (h (na - (d + 1)) (by omega) (by omega) (by omega))
    have e : out ++ (a.extract (na - (d + 1)) na).reverse = (out ++ (a.extract (na - d) na).reverse).push a[na - (d + 1)] := by
      rw [← Array.append_push]
      congr 1
      apply Array.ext'
      rw [Array.toList_push, Array.toList_reverse, Array.toList_reverse, Array.toList_extract, Array.toList_extract, List.extract_eq_take_drop, List.extract_eq_take_drop]
      have hl : na - (d + 1) < a.toList.length := by simp; omega
      rw [List.drop_eq_getElem_cons hl, show na - (na - (d + 1)) = (na - (na - d)) + 1 by omega, List.take_succ_cons, List.reverse_cons, show na - (d + 1) + 1 = na - d by omega]
      simp
    rw [e]
    exact P
theorem MH.many {a b out : Array Keyed} {na nb k : Nat} (sa : SL a.toList) (m : MH a b out na nb) (hk : k ≤ na) (h : ∀ i, k ≤ i → i < na → ∀ (q : i < a.size), ∀ y ∈ b.toList.take nb, LE y a[i]) : MH a b (out ++ (a.extract k na).reverse) k nb := by
  have := MH.manyA sa (na - k) na (by omega) m (fun i h1 h2 => h i (by omega) h2)
  rwa [show na - (na - k) = k by omega] at this
theorem MH.done {a b out : Array Keyed} {na nb : Nat} (m : MH a b out na nb) (sa : SL a.toList) (sb : SL b.toList) (h : ∀ x ∈ a.toList.take na, ∀ y ∈ b.toList.take nb, LE x y) : Merged a b (hiDone a b out na nb) := by
  have e1 : (a.extract 0 na).toList = a.toList.take na := by
    rw [Array.toList_extract, List.extract_eq_take_drop, List.drop_zero, Nat.sub_zero]
  have e2 : (b.extract 0 nb).toList = b.toList.take nb := by
    rw [Array.toList_extract, List.extract_eq_take_drop, List.drop_zero, Nat.sub_zero]
  unfold Merged hiDone
  rw [Array.toList_append, Array.toList_append, e1, e2, Array.toList_reverse]
  constructor
  · refine (List.Perm.append_left _ ((List.reverse_perm _).trans m.perm)).trans ?_
    conv => rhs; rw [← List.take_append_drop na a.toList, ← List.take_append_drop nb b.toList]
    simp only [List.append_assoc]
    refine List.Perm.append_left _ ?_
    rw [← List.append_assoc, ← List.append_assoc]
    exact List.perm_append_comm.append_right _
  · refine List.pairwise_append.mpr ⟨List.pairwise_append.mpr ⟨List.Pairwise.sublist (List.take_sublist _ _) sa, List.Pairwise.sublist (List.take_sublist _ _) sb, h⟩, m.so, fun x hx y hy => ?_⟩
    rcases List.mem_append.mp hx with q | q
    · exact m.ra x q y (List.mem_reverse.mp hy)
    · exact m.rb x q y (List.mem_reverse.mp hy)
theorem MH.first {a b out : Array Keyed} {na nb : Nat} (m : MH a b out na nb) (sa : SL a.toList) (sb : SL b.toList) (h : ∀ y ∈ b.toList.take nb, ∀ x ∈ a.toList.take na, LE y x) : Merged a b (hiFirst a b out na nb) :=
  (m.swap.done sb sa h).swap
end
end L2S

set_option Elab.async false
set_option linter.all false
set_option maxRecDepth 100000
set_option maxHeartbeats 1000000
namespace L2S
open PySem PyProof.Rows L2
variable [St]
section
variable {prog : Program} {w : World} {A : Around} {E : Value → Shared → Prop} {s : Shared} {st : SortSt} {a b : Array Keyed}
structure Hi (a b : Array Keyed) (n : Nat) (out : Array Keyed) (na nb : Nat) : Prop where
  mh : MH a b out na nb
  ha : 0 < na
  hb : 1 < nb
  hn : na + nb + n ≤ a.size + b.size
theorem Hi.mono {n m : Nat} {out : Array Keyed} {na nb : Nat} (L : Hi a b n out na nb) (h : m ≤ n) : Hi a b m out na nb := ⟨L.mh, L.ha, L.hb, by have := L.hn; omega⟩
end
end L2S

set_option Elab.async false
set_option linter.all false
set_option maxRecDepth 100000
set_option maxHeartbeats 1000000
namespace L2S
open PySem PyProof.Rows L2
variable [St]
/-- the pair at a place -/
def KK2 (xs : Array Keyed) (i : Nat) : κ.α := match xs[i]? with | some p => kf p | none => (St.b.dflt, 0)
def BK (xs : Array Keyed) (i : Nat) : St.b.α := (KK2 xs i).1
def PP (xs : Array Keyed) (i : Nat) : Nat := (KK2 xs i).2
def KeysO (a0 : Array Keyed) : Prop := ∀ p ∈ a0.toList, HasK p
theorem KK2_mirror {xs : Array Keyed} {i j : Nat} (h : j ≤ xs.size) (k : Nat) : KK2 (mirror xs i j ((j - i) / 2)) k = if i ≤ k ∧ k < j then KK2 xs (i + j - 1 - k) else KK2 xs k := by
  unfold KK2
  rw [getElem?_mirror_all h]
  by_cases hc : i ≤ k ∧ k < j
  · rw [if_pos hc, if_pos hc]
  · rw [if_neg hc, if_neg hc]
theorem KK2_bubble {xs : Array Keyed} {src d : Nat} (h1 : src < xs.size) (h2 : d ≤ src) (k : Nat) : KK2 (bubble xs src d) k = if k = src - d then KK2 xs src else if src - d < k ∧ k ≤ src then KK2 xs (k - 1) else KK2 xs k := by
  unfold KK2
  rw [getElem?_bubble h1 d h2]
  by_cases hc : k = src - d
  · rw [if_pos hc, if_pos hc]
  · rw [if_neg hc, if_neg hc]
    by_cases hd : src - d < k ∧ k ≤ src
    · rw [if_pos hd, if_pos hd]
    · rw [if_neg hd, if_neg hd]
theorem klt_base {x y : κ.α} (h : St.b.blt x.1 y.1 = true) : κ.klt x y := by
  show (St.b.blt x.1 y.1 || _) = true
  rw [h]
  rfl
theorem kle_base {x y : κ.α} (h : κ.kle x y) : St.b.blt y.1 x.1 = false := by
  have h : (St.b.blt y.1 x.1 || (!St.b.blt x.1 y.1 && decide (y.2 < x.2))) = false := h
  rw [Bool.or_eq_false_iff] at h
  exact h.1
theorem kle_pos {x y : κ.α} (h : x.1 = y.1) (hp : x.2 ≤ y.2) : κ.kle x y := by
  show (St.b.blt y.1 x.1 || (!St.b.blt x.1 y.1 && decide (y.2 < x.2))) = false
  rw [h, St.b.irrefl, decide_eq_false (by omega)]
  rfl
/-- sorting from lo on, a block of n: what lies ahead of lo stays, what lies behind the block has not been moved yet -/
structure SF (a0 : Array Keyed) (lo n : Nat) (x0 : Array Keyed) (pd : Array (Nat × Nat × Nat)) (st : SortSt) : Prop where
  perm : (arrOf st).Perm a0
  low : ∀ k, k < lo → (arrOf st)[k]? = x0[k]?
  sg : SG st
  pend : pendingOf st = pd
  inb : ∀ k, lo ≤ k → k < lo + n → lo ≤ PP (arrOf st) k ∧ PP (arrOf st) k < lo + n
  hi : ∀ k, lo + n ≤ k → k < a0.size → PP (arrOf st) k = k
section
variable {prog : Program} {w : World} {A : Around} {E : Value → Shared → Prop} {s : Shared} {a0 x0 : Array Keyed} {lo n : Nat} {pd : Array (Nat × Nat × Nat)} {st : SortSt}
theorem SF.size (F : SF a0 lo n x0 pd st) : (arrOf st).size = a0.size := F.perm.size_eq
theorem SF.all (F : SF a0 lo n x0 pd st) (h0 : KeysO a0) : AllK (arrOf st) := fun i h => h0 _ ((Array.perm_iff_toList_perm.mp F.perm).mem_iff.mp (by simp))
theorem SF.grow (F : SF a0 lo n x0 pd st) {m : Nat} (h : n ≤ m) (hm : lo + m ≤ a0.size) : SF a0 lo m x0 pd st :=
  ⟨F.perm, F.low, F.sg, F.pend, fun k h1 h2 => by
    rcases Nat.lt_or_ge k (lo + n) with q | q
    · have := F.inb k h1 q
      omega
    · have := F.hi k q (by omega)
      omega, fun k h1 h2 => F.hi k (by omega) h2⟩
/-- sorted from lo on, n signs -/
def SoA (xs : Array Keyed) (lo n : Nat) : Prop := ∀ i j, i ≤ j → j < n → κ.kle (KK2 xs (lo + i)) (KK2 xs (lo + j))
def SoD (xs : Array Keyed) (lo n : Nat) : Prop := ∀ i j, i ≤ j → j < n → κ.kle (KK2 xs (lo + j)) (KK2 xs (lo + i))
/-- a falling run under way: the last q + 1 have one key and have not been moved -/
structure DI (xs : Array Keyed) (lo x q : Nat) : Prop where
  le : q + 1 ≤ x
  d1 : ∀ i j, i ≤ j → j < x - (q + 1) → κ.kle (KK2 xs (lo + j)) (KK2 xs (lo + i))
  d2 : ∀ i j, i < x - (q + 1) → x - (q + 1) ≤ j → j < x → St.b.blt (BK xs (lo + j)) (BK xs (lo + i)) = true
  eq : ∀ i, x - (q + 1) ≤ i → i < x → BK xs (lo + i) = BK xs (lo + x - 1)
  po : ∀ i, x - (q + 1) ≤ i → i < x → PP xs (lo + i) = lo + i
/-- the last ones turned about, all fall -/
theorem DI.turn {xs : Array Keyed} {lo x q : Nat} (d : DI xs lo x q) (hz : lo + x ≤ xs.size) : SoD (mirror xs (lo + x - (q + 1)) (lo + x) ((lo + x - (lo + x - (q + 1))) / 2)) lo x := by
  have := d.le
  have hm : ∀ k, KK2 (mirror xs (lo + x - (q + 1)) (lo + x) ((lo + x - (lo + x - (q + 1))) / 2)) k = if lo + x - (q + 1) ≤ k ∧ k < lo + x then KK2 xs (lo + x - (q + 1) + (lo + x) - 1 - k) else KK2 xs k := KK2_mirror hz
  intro i j hij hj
  rw [hm, hm]
  by_cases hi : i < x - (q + 1)
  · rw [if_neg (show ¬ (lo + x - (q + 1) ≤ lo + i ∧ lo + i < lo + x) by omega)]
    by_cases hj2 : j < x - (q + 1)
    · rw [if_neg (by omega)]
      exact d.d1 i j hij hj2
    · rw [if_pos (by omega), show lo + x - (q + 1) + (lo + x) - 1 - (lo + j) = lo + (x - (q + 1) + x - 1 - j) by omega]
      exact KeyOrd.kle_of_klt (klt_base (d.d2 i _ hi (by omega) (by omega)))
  · rw [if_pos (by omega), if_pos (by omega), show lo + x - (q + 1) + (lo + x) - 1 - (lo + j) = lo + (x - (q + 1) + x - 1 - j) by omega, show lo + x - (q + 1) + (lo + x) - 1 - (lo + i) = lo + (x - (q + 1) + x - 1 - i) by omega]
    refine kle_pos ((d.eq _ (by omega) (by omega)).trans (d.eq _ (by omega) (by omega)).symm) ?_
    have e1 := d.po (x - (q + 1) + x - 1 - j) (by omega) (by omega)
    have e2 := d.po (x - (q + 1) + x - 1 - i) (by omega) (by omega)
    unfold PP at e1 e2
    omega
/-- where the last one stands alone, all fall -/
theorem DI.alone {xs : Array Keyed} {lo x : Nat} (d : DI xs lo x 0) : SoD xs lo x := by
  have := d.le
  intro i j hij hj
  rcases Nat.lt_or_ge j (x - 1) with h | h
  · exact d.d1 i j hij (by omega)
  · rcases Nat.lt_or_ge i j with h2 | h2
    · exact KeyOrd.kle_of_klt (klt_base (d.d2 i j (by omega) (by omega) hj))
    · have e : i = j := by omega
      subst e
      exact KeyOrd.kle_refl _
/-- one more that is less -/
theorem DI.next {xs : Array Keyed} {lo x : Nat} (hx : 1 ≤ x) (sd : SoD xs lo x) (hlt : St.b.blt (BK xs (lo + x)) (BK xs (lo + x - 1)) = true) (hp : PP xs (lo + x) = lo + x) : DI xs lo (x + 1) 0 := by
  refine ⟨by omega, fun i j hij hj => sd i j hij (by omega), fun i j hi hj hj2 => ?_, fun i h1 h2 => ?_, fun i h1 h2 => ?_⟩
  · have e : j = x := by omega
    subst e
    have h1 := kle_base (sd i (j - 1) (by omega) (by omega))
    rw [show lo + (j - 1) = lo + j - 1 by omega] at h1
    rcases St.b.negTrans _ (BK xs (lo + i)) _ hlt with h | h
    · exact h
    · have h1 : St.b.blt (BK xs (lo + i)) (BK xs (lo + j - 1)) = false := h1
      rw [h1] at h
      cases h
  · have e : i = x := by omega
    subst e
    rfl
  · have e : i = x := by omega
    subst e
    exact hp
theorem DI.more {xs : Array Keyed} {lo x q : Nat} (d : DI xs lo x q) (e : BK xs (lo + x) = BK xs (lo + x - 1)) (hp : PP xs (lo + x) = lo + x) : DI xs lo (x + 1) (q + 1) := by
  have := d.le
  refine ⟨by omega, fun i j hij hj => d.d1 i j hij (by omega), fun i j hi hj hj2 => ?_, fun i h1 h2 => ?_, fun i h1 h2 => ?_⟩
  · rcases Nat.lt_or_ge j x with h | h
    · exact d.d2 i j (by omega) (by omega) h
    · have ej : j = x := by omega
      subst ej
      have h3 := d.d2 i (j - 1) (by omega) (by omega) (by omega)
      rw [show lo + (j - 1) = lo + j - 1 by omega] at h3
      rw [e]
      exact h3
  · rw [show lo + (x + 1) - 1 = lo + x by omega]
    rcases Nat.lt_or_ge i x with h | h
    · rw [d.eq i (by omega) h, e]
    · have ei : i = x := by omega
      subst ei
      rfl
  · rcases Nat.lt_or_ge i x with h | h
    · exact d.po i (by omega) h
    · have ei : i = x := by omega
      subst ei
      exact hp
end
end L2S

set_option Elab.async false
set_option linter.all false
set_option maxRecDepth 100000
set_option maxHeartbeats 1000000
namespace L2S
open PySem PyProof.Rows L2
variable [St]
section
variable {prog : Program} {w : World} {A : Around} {E : Value → Shared → Prop} {s : Shared} {a0 x0 : Array Keyed} {lo : Nat} {pd : Array (Nat × Nat × Nat)} {st : SortSt}
theorem SF.move {n : Nat} (F : SF a0 lo n x0 pd st) {k l : Nat} (hk : k < n) (hz : lo + n ≤ a0.size) (hl : l ≤ k) : SF a0 lo n x0 pd (setArr st (bubble (arrOf st) (lo + k) (lo + k - (lo + l)))) := by
  have z := F.size
  have hm : ∀ i, KK2 (bubble (arrOf st) (lo + k) (lo + k - (lo + l))) i = if i = lo + k - (lo + k - (lo + l)) then KK2 (arrOf st) (lo + k) else if lo + k - (lo + k - (lo + l)) < i ∧ i ≤ lo + k then KK2 (arrOf st) (i - 1) else KK2 (arrOf st) i := KK2_bubble (by omega) (by omega)
  refine ⟨(bubble_perm _ _ _).trans F.perm, fun i hi => ?_, ⟨F.sg.kind, F.sg.failed⟩, F.pend, fun i h1 h2 => ?_, fun i h1 h2 => ?_⟩
  · show (bubble (arrOf st) (lo + k) (lo + k - (lo + l)))[i]? = _
    rw [getElem?_bubble (by rw [F.size]; omega) _ (by omega), if_neg (by omega), if_neg (by omega)]
    exact F.low i hi
  · show lo ≤ (KK2 (bubble (arrOf st) (lo + k) (lo + k - (lo + l))) i).2 ∧ (KK2 (bubble (arrOf st) (lo + k) (lo + k - (lo + l))) i).2 < lo + n
    rw [hm i]
    split
    · exact F.inb _ (by omega) (by omega)
    · split
      · exact F.inb _ (by omega) (by omega)
      · exact F.inb i h1 h2
  · show (KK2 (bubble (arrOf st) (lo + k) (lo + k - (lo + l))) i).2 = i
    rw [hm i, if_neg (by omega), if_neg (by omega)]
    exact F.hi i h1 h2
end
end L2S

set_option Elab.async false
set_option linter.all false
set_option maxRecDepth 100000
set_option maxHeartbeats 1000000
namespace L2S
open PySem PyProof.Rows L2
variable [St]
section
variable {prog : Program} {w : World} {A : Around} {E : Value → Shared → Prop} {s : Shared} {st : SortSt}
theorem KK2_congr {xs ys : Array Keyed} {k : Nat} (e : ys[k]? = xs[k]?) : KK2 ys k = KK2 xs k := by
  unfold KK2
  rw [e]
/-- sorted from lo to hi -/
def RS (xs : Array Keyed) (lo hi : Nat) : Prop := ∀ i j, lo ≤ i → i ≤ j → j < hi → κ.kle (KK2 xs i) (KK2 xs j)
theorem RS.congr {xs ys : Array Keyed} {lo hi : Nat} (h : RS xs lo hi) (e : ∀ k, lo ≤ k → k < hi → ys[k]? = xs[k]?) : RS ys lo hi := fun i j a b c => by
  rw [KK2_congr (e i a (by omega)), KK2_congr (e j (by omega) c)]
  exact h i j a b c
/-- what stands in a block comes out of it -/
def InB (xs : Array Keyed) (lo hi : Nat) : Prop := ∀ k, lo ≤ k → k < hi → lo ≤ PP xs k ∧ PP xs k < hi
theorem InB.congr {xs ys : Array Keyed} {lo hi : Nat} (h : InB xs lo hi) (e : ∀ k, lo ≤ k → k < hi → ys[k]? = xs[k]?) : InB ys lo hi := fun k a b => by
  unfold PP
  rw [KK2_congr (e k a b)]
  exact h k a b
theorem InB.app {xs : Array Keyed} {a b c : Nat} (h1 : InB xs a b) (h2 : InB xs b c) (hab : a ≤ b) (hbc : b ≤ c) : InB xs a c := fun k k1 k2 => by
  rcases Nat.lt_or_ge k b with q | q
  · have := h1 k k1 q; omega
  · have := h2 k q k2; omega
/-- what a merge of two rows leaves -/
structure MAt (st st' : SortSt) (sa se : Nat) : Prop where
  perm : (arrOf st').Perm (arrOf st)
  out : ∀ k, k < sa ∨ se ≤ k → (arrOf st')[k]? = (arrOf st)[k]?
  so : RS (arrOf st') sa se
  po : InB (arrOf st') sa se
  sg : SG st'
end
end L2S

set_option Elab.async false
set_option linter.all false
set_option maxRecDepth 100000
set_option maxHeartbeats 1000000
namespace L2S
open PySem PyProof.Rows L2
variable [St]
/-- the state between two runs -/
structure RI (a0 : Array Keyed) (lo u : Nat) (st : SortSt) : Prop where
  perm : (arrOf st).Perm a0
  sg : SG st
  chn : Chn 0 (pendingOf st).toList lo
  so : ∀ t ∈ (pendingOf st).toList, RS (arrOf st) t.1 (t.1 + t.2.1)
  po : ∀ t ∈ (pendingOf st).toList, InB (arrOf st) t.1 (t.1 + t.2.1)
  hi : ∀ k, u ≤ k → k < a0.size → PP (arrOf st) k = k
section
variable {prog : Program} {w : World} {A : Around} {E : Value → Shared → Prop} {s : Shared} {a0 : Array Keyed} {st : SortSt} {lo u : Nat}
/-- a run found behind the pending ones -/
structure RF (a0 : Array Keyed) (lo n : Nat) (st : SortSt) : Prop where
  ri : RI a0 lo (lo + n) st
  run : RS (arrOf st) lo (lo + n)
  inb : InB (arrOf st) lo (lo + n)
theorem RF.congr {n : Nat} {st' : SortSt} (R : RF a0 lo n st) (R' : RI a0 lo (lo + n) st') (e : ∀ k, lo ≤ k → (arrOf st')[k]? = (arrOf st)[k]?) : RF a0 lo n st' := ⟨R', R.run.congr fun k k1 _ => e k k1, R.inb.congr fun k k1 _ => e k k1⟩
theorem RF.of (R : RI a0 lo lo st) {st' : SortSt} {n : Nat} (F : SF a0 lo n (arrOf st) (pendingOf st) st') (so : SoA (arrOf st') lo n) : RF a0 lo n st' := by
  refine ⟨⟨F.perm, F.sg, by rw [F.pend]; exact R.chn, fun t ht => ?_, fun t ht => ?_, F.hi⟩, fun i j a b c => ?_, F.inb⟩
  · rw [F.pend] at ht
    have := R.chn.mem t ht
    exact (R.so t ht).congr fun k _ k2 => F.low k (by omega)
  · rw [F.pend] at ht
    have := R.chn.mem t ht
    exact (R.po t ht).congr fun k _ k2 => F.low k (by omega)
  · have := so (i - lo) (j - lo) (by omega) (by omega)
    rwa [show lo + (i - lo) = i by omega, show lo + (j - lo) = j by omega] at this
end
end L2S

set_option Elab.async false
set_option linter.all false
set_option maxRecDepth 100000
set_option maxHeartbeats 1000000
namespace L2
open PySem PySem.Spec PyProof.Rows TL
/-- ints as keys -/
@[reducible] def ikind : PyProof.Rows.KeyKind where
  α := Int
  blt a b := decide (a < b)
  irrefl a := by simp
  trans a b c h1 h2 := by simp only [decide_eq_true_eq] at *; omega
  negTrans a b c h := by simp only [decide_eq_true_eq] at *; omega
  total a b h1 h2 := by simp only [decide_eq_false_iff_not] at *; omega
  keyOf v := match v with | .int n _ => some n | _ => none
  dflt := 0
section
variable {prog : Program} {w : World} {A : Around} {E : Value → Shared → Prop} {s : Shared}
end
end L2

set_option Elab.async false
set_option linter.all false
set_option maxRecDepth 100000
set_option maxHeartbeats 1000000
namespace L2
open PySem PySem.Spec PyProof.Rows TL
/-- how many pieces of a length begin -/
def mny (x : Str) (m : Int) : Nat := ((x.length : Int) - m + 1).toNat
def pce (x : Str) (L : Nat) (i : Nat) : Str := cutS x (some ((0 : Int) + (i : Int))) (some ((0 : Int) + (i : Int) + (L : Int)))
theorem nodup_sub {α : Type} : ∀ (l1 l2 : List α), l1.Nodup → (∀ a ∈ l1, a ∈ l2) → l1.length ≤ l2.length
  | [], l2, _, _ => Nat.zero_le _
  | a :: l1, l2, hn, hs => by
    obtain ⟨s, t, e⟩ := List.append_of_mem (hs a (List.mem_cons_self ..))
    obtain ⟨h1, h2⟩ := List.nodup_cons.mp hn
    have ih := nodup_sub l1 (s ++ t) h2 fun b hb => by
      have := hs b (List.mem_cons_of_mem _ hb)
      rw [e] at this
      rcases List.mem_append.mp this with q | q
      · exact List.mem_append_left _ q
      · rcases List.mem_cons.mp q with q | q
        · exact absurd (q ▸ hb) h1
        · exact List.mem_append_right _ q
    rw [e, List.length_append, List.length_cons, List.length_cons]
    rw [List.length_append] at ih
    omega
open Classical in
/-- each once -/
noncomputable def uq {α : Type} : List α → List α
  | [] => []
  | a :: l => if a ∈ l then uq l else a :: uq l
theorem mem_uq {α : Type} {b : α} : ∀ {l : List α}, b ∈ uq l ↔ b ∈ l
  | [] => Iff.rfl
  | a :: l => by
    unfold uq
    split
    · rename_i h
      rw [mem_uq, List.mem_cons]
      constructor
      · exact .inr
      · rintro (rfl | q)
        · exact h
        · exact q
    · rw [List.mem_cons, List.mem_cons, mem_uq]
theorem uq_nodup {α : Type} : ∀ (l : List α), (uq l).Nodup
  | [] => List.nodup_nil
  | a :: l => by
    unfold uq
    split
    · exact uq_nodup l
    · rename_i h
      exact List.nodup_cons.mpr ⟨fun q => h (mem_uq.mp q), uq_nodup l⟩
/-- all pieces of a length, as they stand -/
def allP (x : Str) (L : Nat) : List Str := (List.range (mny x L)).map (pce x L)
theorem mem_allP {x : Str} {L : Nat} {y : Str} : y ∈ allP x L ↔ ∃ j, j < mny x L ∧ pce x L j = y := by
  unfold allP
  rw [List.mem_map]
  constructor
  · rintro ⟨j, h1, h2⟩
    exact ⟨j, List.mem_range.mp h1, h2⟩
  · rintro ⟨j, h1, h2⟩
    exact ⟨j, List.mem_range.mpr h1, h2⟩
/-- how many unlike pieces -/
noncomputable def cntP (x : Str) (L : Nat) : Nat := (uq (allP x L)).length
theorem cnt_of {x : Str} {L : Nat} {ys : List Str} (nd : ys.Nodup) (mem : ∀ y, y ∈ ys ↔ ∃ j, j < mny x L ∧ pce x L j = y) : ys.length = cntP x L :=
  Nat.le_antisymm (nodup_sub _ _ nd fun y h => mem_uq.mpr (mem_allP.mpr ((mem y).mp h))) (nodup_sub _ _ (uq_nodup _) fun y h => (mem y).mpr (mem_allP.mp (mem_uq.mp h)))
/-- the unlike pieces, sorted -/
structure Pcs (x : Str) (L : Nat) (ys : List Str) : Prop where
  mem : ∀ y, y ∈ ys ↔ ∃ j, j < mny x L ∧ pce x L j = y
  nd : ys.Nodup
  so : PyProof.Rows.sortedS ys = true
theorem Pcs.len {x : Str} {L : Nat} {ys : List Str} (h : Pcs x L ys) : ys.length = cntP x L := cnt_of h.nd h.mem
theorem rise_pw : ∀ (ys : List Str) (p : Str), PyProof.Rows.risingS p ys = true → (∀ b ∈ ys, ¬ cs b < cs p) ∧ ys.Pairwise fun a b => ¬ cs b < cs a
  | [], p, _ => ⟨fun b m => (by cases m), List.Pairwise.nil⟩
  | x :: r, p, h => by
    unfold PyProof.Rows.risingS at h
    rw [Bool.and_eq_true, PyProof.Rows.ltCps_eq] at h
    obtain ⟨h1, h2⟩ := h
    have h1 : ¬ cs x < cs p := by simpa using h1
    obtain ⟨i1, i2⟩ := rise_pw r x h2
    refine ⟨fun b hb => ?_, List.pairwise_cons.mpr ⟨i1, i2⟩⟩
    rcases List.mem_cons.mp hb with rfl | hb
    · exact h1
    · exact List.not_lt.mpr (List.le_trans (List.not_lt.mp h1) (List.not_lt.mp (i1 b hb)))
theorem sort_pw (ys : List Str) (h : PyProof.Rows.sortedS ys = true) : ys.Pairwise fun a b => ¬ cs b < cs a := by
  cases ys with
  | nil => exact .nil
  | cons a r =>
    obtain ⟨i1, i2⟩ := rise_pw r a h
    exact List.pairwise_cons.mpr ⟨i1, i2⟩
theorem cs_inj {x y : Str} (h : cs x = cs y) : x = y := TL.ext_tl h
theorem sortedS_uniq {ys zs : List Str} (p : ys.Perm zs) (h1 : PyProof.Rows.sortedS ys = true) (h2 : PyProof.Rows.sortedS zs = true) : ys = zs :=
  List.Perm.eq_of_pairwise (fun a b _ _ q1 q2 => cs_inj (List.le_antisymm (List.not_lt.mp q1) (List.not_lt.mp q2))) (sort_pw ys h1) (sort_pw zs h2) p
theorem perm_nd {α : Type} {ys zs : List α} (n1 : ys.Nodup) (n2 : zs.Nodup) (h : ∀ a, a ∈ ys ↔ a ∈ zs) : ys.Perm zs := (List.perm_ext_iff_of_nodup n1 n2).mpr h
theorem Pcs.uniq {x : Str} {L : Nat} {ys zs : List Str} (h1 : Pcs x L ys) (h2 : Pcs x L zs) : ys = zs :=
  sortedS_uniq (perm_nd h1.nd h2.nd fun a => (h1.mem a).trans (h2.mem a).symm) h1.so h2.so
theorem putK_keys (kvs : List (Key × V)) (k : Key) (v : V) : (k ∈ kvs.map (·.1) → (putK kvs k v).map (·.1) = kvs.map (·.1)) ∧ (k ∉ kvs.map (·.1) → (putK kvs k v).map (·.1) = kvs.map (·.1) ++ [k]) := by
  unfold putK
  constructor
  · intro h
    have : (kvs.any fun kv => decide (kv.1 = k)) = true := by
      obtain ⟨p, hp, e⟩ := List.mem_map.mp h
      exact List.any_eq_true.mpr ⟨p, hp, decide_eq_true e⟩
    rw [if_pos this, List.map_map]
    refine List.map_congr_left fun p _ => ?_
    show (if p.1 = k then (p.1, v) else p).1 = p.1
    split <;> rfl
  · intro h
    have : ¬ (kvs.any fun kv => decide (kv.1 = k)) = true := fun q => by
      obtain ⟨p, hp, e⟩ := List.any_eq_true.mp q
      exact h (List.mem_map.mpr ⟨p, hp, of_decide_eq_true e⟩)
    rw [if_neg this, List.map_append]
    rfl
/-- the pieces that begin ahead of n, as a dict's keys -/
structure Dic (x : Str) (L n : Nat) (kvs : List (Key × V)) : Prop where
  nd : (kvs.map (·.1)).Nodup
  mem : ∀ k, k ∈ kvs.map (·.1) ↔ ∃ j, j < n ∧ Sum.inr (pce x L j) = k
theorem Dic.nil (x : Str) (L : Nat) : Dic x L 0 [] := ⟨List.nodup_nil, fun k => by simp⟩
theorem below_succ {n : Nat} {p : Nat → Prop} : (∃ j, j < n + 1 ∧ p j) ↔ (∃ j, j < n ∧ p j) ∨ p n := by
  constructor
  · rintro ⟨j, a, b⟩
    rcases Nat.lt_or_ge j n with q | q
    · exact .inl ⟨j, q, b⟩
    · have e : j = n := by omega
      subst e
      exact .inr b
  · rintro (⟨j, a, b⟩ | b)
    · exact ⟨j, by omega, b⟩
    · exact ⟨n, by omega, b⟩
theorem Dic.put {x : Str} {L n : Nat} {kvs : List (Key × V)} (h : Dic x L n kvs) (v : V) : Dic x L (n + 1) (putK kvs (Sum.inr (pce x L n)) v) := by
  obtain ⟨k1, k2⟩ := putK_keys kvs (Sum.inr (pce x L n)) v
  by_cases hin : (Sum.inr (pce x L n) : Key) ∈ kvs.map (·.1)
  · refine ⟨by rw [k1 hin]; exact h.nd, fun k => ?_⟩
    rw [k1 hin, below_succ, ← h.mem]
    constructor
    · exact .inl
    · rintro (q | q)
      · exact q
      · rw [← q]; exact hin
  · refine ⟨?_, fun k => ?_⟩
    · rw [k2 hin, List.nodup_append]
      refine ⟨h.nd, List.nodup_cons.mpr ⟨by simp, List.nodup_nil⟩, fun a ha b hb e => ?_⟩
      rw [List.mem_singleton.mp hb] at e
      exact hin (e ▸ ha)
    · rw [k2 hin, List.mem_append, List.mem_singleton, below_succ, ← h.mem]
      constructor
      · rintro (q | q)
        · exact .inl q
        · exact .inr q.symm
      · rintro (q | q)
        · exact .inl q
        · exact .inr q.symm
theorem Dic.few {x : Str} {L n : Nat} {kvs : List (Key × V)} (h : Dic x L n kvs) : kvs.length ≤ n := by
  have := nodup_sub (kvs.map (·.1)) ((List.range n).map fun j => (Sum.inr (pce x L j) : Key)) h.nd fun k hk => by
    obtain ⟨j, a, b⟩ := (h.mem k).mp hk
    exact List.mem_map.mpr ⟨j, List.mem_range.mpr a, b⟩
  rw [List.length_map, List.length_map, List.length_range] at this
  exact this
theorem Dic.len {x : Str} {L : Nat} {kvs : List (Key × V)} (h : Dic x L (mny x L) kvs) : kvs.length = cntP x L := by
  have e1 := nodup_sub (kvs.map (·.1)) ((uq (allP x L)).map (Sum.inr : Str → Key)) h.nd fun k hk => by
    obtain ⟨j, a, b⟩ := (h.mem k).mp hk
    exact List.mem_map.mpr ⟨_, mem_uq.mpr (mem_allP.mpr ⟨j, a, rfl⟩), b⟩
  have e2 := nodup_sub ((uq (allP x L)).map (Sum.inr : Str → Key)) (kvs.map (·.1)) (List.Pairwise.map _ (fun a b e q => e (Sum.inr.inj q)) (uq_nodup _)) fun k hk => by
    obtain ⟨y, a, rfl⟩ := List.mem_map.mp hk
    obtain ⟨j, a, b⟩ := mem_allP.mp (mem_uq.mp a)
    exact (h.mem _).mpr ⟨j, a, by rw [b]⟩
  rw [List.length_map, List.length_map] at e1 e2
  exact Nat.le_antisymm e1 e2
end L2
namespace L2
open PySem PySem.Spec PyProof.Rows TL
theorem Dic.strs {x : Str} {L n : Nat} {kvs : List (Key × V)} (h : Dic x L n kvs) : ∃ xs : List Str, kvs.map (·.1) = xs.map Sum.inr ∧ xs.Nodup ∧ ∀ y, y ∈ xs ↔ ∃ j, j < n ∧ pce x L j = y := by
  refine ⟨kvs.map fun kv => match kv.1 with | .inr y => y | .inl _ => Str.empty, ?_, ?_, fun y => ?_⟩
  · rw [List.map_map]
    refine List.map_congr_left fun kv hkv => ?_
    obtain ⟨j, _, e⟩ := (h.mem kv.1).mp (List.mem_map.mpr ⟨kv, hkv, rfl⟩)
    show kv.1 = Sum.inr (match kv.1 with | .inr y => y | .inl _ => Str.empty)
    rw [← e]
  · have e : kvs.map (fun kv => match kv.1 with | .inr y => y | .inl _ => Str.empty) = (kvs.map (·.1)).map (fun k : Key => match k with | .inr y => y | .inl _ => Str.empty) := by rw [List.map_map]; rfl
    rw [e]
    refine List.pairwise_map.mpr (h.nd.imp_of_mem fun {a b} ha hb ne q => ne ?_)
    obtain ⟨i, _, e1⟩ := (h.mem a).mp ha
    obtain ⟨j, _, e2⟩ := (h.mem b).mp hb
    rw [← e1, ← e2] at q ⊢
    exact congrArg Sum.inr q
  · rw [List.mem_map]
    constructor
    · rintro ⟨kv, hkv, e⟩
      obtain ⟨j, a, b⟩ := (h.mem kv.1).mp (List.mem_map.mpr ⟨kv, hkv, rfl⟩)
      rw [← b] at e
      exact ⟨j, a, e⟩
    · rintro ⟨j, a, b⟩
      obtain ⟨kv, h1, h2⟩ := List.mem_map.mp ((h.mem (Sum.inr y)).mpr ⟨j, a, by rw [b]⟩)
      exact ⟨kv, h1, by show (match kv.1 with | .inr y => y | .inl _ => Str.empty) = y; rw [h2]⟩
end L2

set_option Elab.async false
set_option linter.all false
set_option maxRecDepth 100000
set_option maxHeartbeats 1000000
namespace L2
open PySem PySem.Spec PyProof.Rows TL
section
variable {prog : Program} {w : World} {A : Around} {E : Value → Shared → Prop} {s : Shared} {T : String} {r d : Addr} {n : Nat} {P : Nat → Value → Prop} {OK : Heap → Prop}
end
end L2

set_option Elab.async false
set_option linter.all false
set_option maxRecDepth 100000
set_option maxHeartbeats 1000000
namespace L2
open PySem PySem.Spec PyProof.Rows TL
section
variable {prog : Program} {w : World} {A : Around} {E : Value → Shared → Prop} {s : Shared}
end
end L2

set_option Elab.async false
set_option linter.all false
set_option maxRecDepth 100000
set_option maxHeartbeats 1000000
namespace L2
open PySem PySem.Spec PyProof.Rows TL
section
variable {M : Model} {A : Around} {E : Value → Shared → Prop} {s : Shared} {env : Env}
end
section
variable {prog : Program} {w : World} {A : Around} {E : Value → Shared → Prop} {s : Shared}
end
end L2

set_option Elab.async false
set_option linter.all false
set_option maxRecDepth 100000
set_option maxHeartbeats 1000000
namespace L2
open PySem PySem.Spec PyProof.Rows TL
section
variable {prog : Program} {w : World} {A : Around} {E : Value → Shared → Prop} {s : Shared}
end
end L2

set_option Elab.async false
set_option linter.all false
set_option maxRecDepth 100000
set_option maxHeartbeats 1000000
namespace L2
open PySem PySem.Spec PyProof.Rows TL
end L2

set_option Elab.async false
set_option linter.all false
set_option maxRecDepth 100000
set_option maxHeartbeats 1000000
namespace L2
open PySem PySem.Spec PyProof.Rows TL
/-! ### rows of texts, compared -/
theorem Lets.ok {x : Str} (h : Lets x) : PyData.strOk x = true := by
  unfold PyData.strOk
  rw [Array.all_eq_true']
  intro c hc
  have := h c (by simpa using hc)
  exact decide_eq_true (by omega)
end L2

set_option Elab.async false
set_option linter.all false
set_option maxRecDepth 100000
set_option maxHeartbeats 1000000
namespace L2
open PySem PySem.Spec PyProof.Rows TL
/-! ### more pins, other letters -/
theorem Missed.fewer {c : List Nat} {p p' : Nat → Bool} {w : List Nat} (h : Missed c p' w) (hp : ∀ i, p i = true → p' i = true) : Missed c p w :=
  ⟨h.ne, h.at', fun i h1 h2 j hj => by
    cases e : p (i + j) with
    | false => rfl
    | true =>
      have := h.free i h1 h2 j hj
      rw [hp _ e] at this
      cases this⟩
end L2

set_option Elab.async false
set_option linter.all false
set_option maxRecDepth 100000
set_option maxHeartbeats 1000000
namespace L2
open PySem PySem.Spec PyProof.Rows TL
/-- t + u of tuples, either perhaps without items -/
def rCatT0 (K : PySem.W.Frag) : R2 := fun x y H Q => ∃ a b xs ys, x = .ref a ∧ y = .ref b ∧ SqT K H a xs ∧ SqT K H b ys ∧ xs.length + ys.length ≤ sizeLine ∧
  (xs = [] → Q (.ref b) H) ∧ (xs ≠ [] → ys = [] → Q (.ref a) H) ∧ (xs ≠ [] → ys ≠ [] → ∀ p, H p = none → Q (.ref p) (upd H p (.tup (xs ++ ys))))
theorem op_catT0 {X : Cx} : OpR X (binaryOp .Add) (rCatT0 X.K) := by
  intro pins s σ H x y v u Q I rx ry h
  obtain ⟨a, b, xs, ys, rfl, rfl, ha, hb, hz, q0, q1, q2⟩ := h
  by_cases hx : xs = []
  · cases rx
    cases ry
    obtain ⟨its, r1, p1, _⟩ := I.tuple ha
    obtain ⟨its2, r2, p2, _⟩ := I.tuple hb
    have hv := r1.nil_iff.mpr hx
    obtain ⟨⟨c, dd, dt, sl⟩, ho, hc, n, hd⟩ := p1
    obtain ⟨⟨c2, dd2, dt2, sl2⟩, ho2, hc2, n2, hd2⟩ := p2
    replace hc : c = .type "tuple" := hc
    replace hd : dt = .seq its.toArray n := hd
    replace hc2 : c2 = .type "tuple" := hc2
    replace hd2 : dt2 = .seq its2.toArray n2 := hd2
    subst hc hd hc2 hd2
    exact concat_meets ⟨_, ho, rfl⟩ ⟨_, ho2, rfl⟩ noFill_tuple_add seq_tuple_add PySem.F.slot_tuple_add PySem.F.entry_tuple_add (PySem.F.args_tuple_add_2 _ _) (tuple_addW0 a b its.toArray its2.toArray n n2 dd dd2 sl sl2 (by simp [hv])) ⟨ho, ho2, ⟨.ref b, H, I, rfl, q0 hx⟩⟩
  · exact op_catT pins s σ H (.ref a) (.ref b) v u Q I rx ry ⟨a, b, xs, ys, rfl, rfl, ha, hb, hx, hz, q1 hx, q2 hx⟩
/-- the letters a, b, c by q, a, b -/
def f3 (c : Nat) : Nat := if c = 97 then 113 else if c = 98 then 97 else if c = 99 then 98 else c
end L2

set_option Elab.async false
set_option linter.all false
set_option maxRecDepth 100000
set_option maxHeartbeats 3200000
namespace L2
open PySem PySem.Spec PyProof.Rows TL
section
variable {prog : Program} {w : World} {A : Around} {E : Value → Shared → Prop} {s : Shared}
end
end L2

set_option Elab.async false
set_option linter.all false
set_option maxRecDepth 100000
set_option maxHeartbeats 1000000
namespace L2
open PySem PySem.Spec PyProof.Rows TL
/-! ### joined ones -/
theorem sub_left {c d : List Nat} {i L : Nat} (h : i + L ≤ c.length) : sub (c ++ d) i L = sub c i L := by
  unfold sub
  rw [List.drop_append, List.take_append_of_le_length (by rw [List.length_drop]; omega)]
theorem sub_right {c d : List Nat} {i L : Nat} : sub (c ++ d) (c.length + i) L = sub d i L := by
  unfold sub
  rw [List.drop_append, List.drop_eq_nil_of_le (by omega), List.nil_append]
  congr 2
  omega
end L2

set_option Elab.async false
set_option linter.all false
set_option maxRecDepth 100000
set_option maxHeartbeats 1000000
namespace L2
open PySem PySem.Spec PyProof.Rows TL
/-! ### x.find(y, 0, hi) -/
end L2

set_option Elab.async false
set_option linter.all false
set_option maxRecDepth 100000
set_option maxHeartbeats 1000000
namespace L2
open PySem PySem.Spec PyProof.Rows TL
section
open PySem.SeqAt
open PySem.AutoSeq1 (wpAny_loadPart')
open PySem.MeetsSeq PySem.MeetsSeq2 PySem.MeetsSeq3
end
section
variable {prog : Program} {w : World} {A : Around} {E : Value → Shared → Prop} {s : Shared}
end
end L2

set_option Elab.async false
set_option linter.all false
set_option maxRecDepth 100000
set_option maxHeartbeats 1000000
namespace L2
open PySem PySem.Spec PyProof.Rows TL
/-! ### how many different pieces: facts -/
/-- all pieces of a length, in their places' order -/
def pcsL (c : List Nat) (L : Nat) : List (List Nat) := (List.range (c.length + 1 - L)).map fun i => sub c i L
noncomputable def cntL (c : List Nat) (L : Nat) : Nat := (uq (pcsL c L)).length
end L2

set_option Elab.async false
set_option linter.all false
set_option maxRecDepth 100000
set_option maxHeartbeats 1000000
namespace L2
open PySem PySem.Spec PyProof.Rows TL
end L2

set_option Elab.async false
set_option linter.all false
set_option maxRecDepth 100000
set_option maxHeartbeats 1000000
namespace L2
open PySem PySem.Spec PyProof.Rows TL
section
variable {X : Cx}
end
end L2

set_option Elab.async false
set_option linter.all false
set_option maxRecDepth 100000
set_option maxHeartbeats 1000000
namespace L2
open PySem PySem.Spec PyProof.Rows TL
/-! ### the facts of cuts -/
def Eqm (c : List Nat) (s j k : Nat) : Prop := s + k ≤ c.length ∧ sub c j k = sub c s k
theorem sub_take {c : List Nat} {j k k' : Nat} (h : k ≤ k') : sub c j k = (sub c j k').take k := by
  unfold sub
  rw [List.take_take, Nat.min_eq_left h]
theorem Eqm.less {c : List Nat} {s j k k' : Nat} (h : Eqm c s j k') (hk : k ≤ k') : Eqm c s j k := ⟨by have := h.1; omega, by rw [sub_take hk, h.2, ← sub_take hk]⟩
theorem Eqm.zero {c : List Nat} {s j : Nat} (h : s ≤ c.length) : Eqm c s j 0 := ⟨h, rfl⟩
/-- the best of the starts before i -/
structure Bs (c : List Nat) (s i M o : Nat) : Prop where
  fit : s + M ≤ c.length
  most : ∀ j, j < i → ∀ k, Eqm c s j k → k ≤ M
  at' : 0 < M → o < i ∧ Eqm c s o M ∧ ∀ j, j < o → ¬ Eqm c s j M
  non : M = 0 → o = 0
theorem Bs.uniq {c : List Nat} {s i M o M' o' : Nat} (h : Bs c s i M o) (h' : Bs c s i M' o') : M = M' ∧ o = o' := by
  have a : ∀ {M o M' o' : Nat}, Bs c s i M o → Bs c s i M' o' → M ≤ M' := fun {M o M' o'} h h' => by
    rcases Nat.eq_zero_or_pos M with e | e
    · omega
    · obtain ⟨h1, h2, _⟩ := h.at' e
      exact h'.most o h1 M h2
  have e : M = M' := Nat.le_antisymm (a h h') (a h' h)
  subst e
  refine ⟨rfl, ?_⟩
  rcases Nat.eq_zero_or_pos M with e | e
  · rw [h.non e, h'.non e]
  · obtain ⟨_, h2, h3⟩ := h.at' e
    obtain ⟨_, h2', h3'⟩ := h'.at' e
    rcases Nat.lt_trichotomy o o' with q | q | q
    · exact absurd h2 (h3' o q)
    · exact q
    · exact absurd h2' (h3 o' q)
/-- one more start, that fits m signs -/
theorem Bs.next {c : List Nat} {s i M o m : Nat} (h : Bs c s i M o) (h1 : Eqm c s i m) (h2 : ∀ k, Eqm c s i k → k ≤ m) : (M < m → Bs c s (i + 1) m i) ∧ (¬ M < m → Bs c s (i + 1) M o) := by
  constructor
  · intro hlt
    refine ⟨h1.1, fun j hj k hk => ?_, fun _ => ⟨by omega, h1, fun j hj hk => ?_⟩, fun e => by omega⟩
    · rcases Nat.lt_or_ge j i with q | q
      · have := h.most j q k hk
        omega
      · have : j = i := by omega
        subst this
        exact h2 k hk
    · have := h.most j hj m hk
      omega
  · intro hlt
    refine ⟨h.fit, fun j hj k hk => ?_, fun e => ?_, h.non⟩
    · rcases Nat.lt_or_ge j i with q | q
      · exact h.most j q k hk
      · have : j = i := by omega
        subst this
        have := h2 k hk
        omega
    · obtain ⟨a, b, d⟩ := h.at' e
      exact ⟨by omega, b, d⟩
/-- a part: a sign, or a place and a length -/
abbrev Prt := Sum Nat (Nat × Nat)
def pLen : Prt → Nat
  | .inl _ => 1
  | .inr (_, m) => m
def pV : Prt → List V
  | .inl a => [.str (Str.ofString "sign"), .str ⟨#[a]⟩]
  | .inr (o, m) => [.str (Str.ofString "copy"), .int o, .int m]
def pD : Prt → PyData
  | .inl a => .tuple [.str (Str.ofString "sign"), .str ⟨#[a]⟩]
  | .inr (o, m) => .tuple [.str (Str.ofString "copy"), .int o, .int m]
/-- the part from s on -/
def Pt (c : List Nat) (s : Nat) : Prt → Prop
  | .inl a => c[s]? = some a ∧ Bs c s s 0 0
  | .inr (o, m) => 0 < m ∧ Bs c s s m o
theorem Pt.uniq {c : List Nat} {s : Nat} : ∀ {p q : Prt}, Pt c s p → Pt c s q → p = q
  | .inl a, .inl b, h, h' => by have := h.1.symm.trans h'.1; rw [Option.some.inj this]
  | .inl a, .inr (o, m), h, h' => by have := (h.2.uniq h'.2).1; have := h'.1; omega
  | .inr (o, m), .inl a, h, h' => by have := (h.2.uniq h'.2).1; have := h.1; omega
  | .inr (o, m), .inr (o', m'), h, h' => by obtain ⟨e1, e2⟩ := h.2.uniq h'.2; rw [e1, e2]
theorem Pt.len {c : List Nat} {s : Nat} (hs : s < c.length) : ∀ {p : Prt}, Pt c s p → 1 ≤ pLen p ∧ s + pLen p ≤ c.length
  | .inl a, h => ⟨Nat.le_refl _, hs⟩
  | .inr (o, m), h => ⟨h.1, h.2.fit⟩
/-- the parts from s on -/
inductive Fw (c : List Nat) : Nat → List Prt → Prop where
  | nil : Fw c c.length []
  | cons {s : Nat} {p : Prt} {r : List Prt} : s < c.length → Pt c s p → Fw c (s + pLen p) r → Fw c s (p :: r)
theorem Fw.uniq {c : List Nat} {s : Nat} {ps qs : List Prt} (h : Fw c s ps) (h' : Fw c s qs) : ps = qs := by
  induction h generalizing qs with
  | nil =>
    cases h' with
    | nil => rfl
    | cons a _ _ => exact absurd a (Nat.lt_irrefl _)
  | cons a b d ih =>
    cases h' with
    | nil => exact absurd a (Nat.lt_irrefl _)
    | cons a' b' d' =>
      have e := b.uniq b'
      subst e
      rw [ih d']
theorem Fw.all {c : List Nat} {s : Nat} {ps : List Prt} (h : Fw c s ps) : ps.length + s ≤ c.length ∧ ∀ p ∈ ps, ∃ t, t < c.length ∧ Pt c t p := by
  induction h with
  | nil => exact ⟨by simp, fun p m => nomatch m⟩
  | cons a b d ih =>
    have := b.len a
    refine ⟨by rw [List.length_cons]; omega, fun p m => ?_⟩
    rcases List.mem_cons.mp m with rfl | q
    · exact ⟨_, a, b⟩
    · exact ih.2 p q
/-- refs of parts -/
inductive Prts (H : Hp) : List V → List Prt → Prop where
  | nil : Prts H [] []
  | cons {r : Addr} {p : Prt} {vs : List V} {ps : List Prt} : H r = some (.tup (pV p)) → Prts H vs ps → Prts H (.ref r :: vs) (p :: ps)
theorem Prts.kept {H H' : Hp} {vs : List V} {ps : List Prt} (h : Prts H vs ps) (k : ∀ r o, H r = some o → (∃ xs, o = .tup xs) → H' r = some o) : Prts H' vs ps := by
  induction h with
  | nil => exact .nil
  | cons a _ ih => exact .cons (k _ _ a ⟨_, rfl⟩) ih
theorem Prts.snoc {H : Hp} {vs : List V} {ps : List Prt} (h : Prts H vs ps) {r : Addr} {p : Prt} (hr : H r = some (.tup (pV p))) : Prts H (vs ++ [.ref r]) (ps ++ [p]) := by
  induction h with
  | nil => exact .cons hr .nil
  | cons a _ ih => exact .cons a ih
theorem Prts.len {H : Hp} {vs : List V} {ps : List Prt} (h : Prts H vs ps) : vs.length = ps.length := by
  induction h with
  | nil => rfl
  | cons _ _ ih => rw [List.length_cons, List.length_cons, ih]
theorem pV_dp {K : PySem.W.Frag} {H : Hp} {r : Addr} : ∀ {p : Prt}, H r = some (.tup (pV p)) → Dp K H (.ref r) (pD p)
  | .inl _, h => .tup (SqT.of h) (.cons (.str _) (.cons (.str _) .nil))
  | .inr (_, _), h => .tup (SqT.of h) (.cons (.str _) (.cons (.int _) (.cons (.int _) .nil)))
theorem Prts.dp {K : PySem.W.Frag} {H : Hp} {vs : List V} {ps : List Prt} (h : Prts H vs ps) : DpAll K H vs (ps.map pD) := by
  induction h with
  | nil => exact .nil
  | cons a _ ih => exact .cons (pV_dp a) ih
/-! ### where each sign comes from -/
abbrev Ori := Sum Nat Nat
def oV : Ori → V
  | .inl c => .str ⟨#[c]⟩
  | .inr j => .int j
def orgP : Prt → List Ori
  | .inl c => [.inl c]
  | .inr (o, m) => (List.range m).map fun k => .inr (o + k)
def org (ps : List Prt) : List Ori := ps.flatMap orgP
theorem orgP_len : ∀ p : Prt, (orgP p).length = pLen p
  | .inl _ => rfl
  | .inr (o, m) => by simp [orgP, pLen]
theorem org_snoc (ps : List Prt) (p : Prt) : org (ps ++ [p]) = org ps ++ orgP p := by simp [org]
def sumL (ps : List Prt) : Nat := (ps.map pLen).sum
theorem org_len (ps : List Prt) : (org ps).length = sumL ps := by
  induction ps with
  | nil => rfl
  | cons p r ih =>
    show (orgP p ++ org r).length = pLen p + sumL r
    rw [List.length_append, orgP_len, ih]
/-- a text that the origins come to, by a rank that falls -/
structure Sol (t : List Nat) (rk : Nat → Nat) (os : List Ori) : Prop where
  len : os.length = t.length
  sg : ∀ i c : Nat, os[i]? = some (Sum.inl c : Ori) → t[i]? = some c
  cp : ∀ i j : Nat, os[i]? = some (Sum.inr j : Ori) → j < t.length ∧ t[j]? = t[i]? ∧ rk j < rk i
  bd : ∀ i : Nat, i < t.length → rk i < t.length
theorem Sol.put {t : List Nat} {rk : Nat → Nat} {os : List Ori} (h : Sol t rk os) {i c : Nat} (e : t[i]? = some c) : Sol t rk (os.set i (.inl c)) := by
  refine ⟨by rw [List.length_set]; exact h.len, fun k d hk => ?_, fun k j hk => ?_, h.bd⟩
  · rw [List.getElem?_set] at hk
    split at hk
    · next q =>
      subst q
      split at hk
      · cases hk
        exact e
      · cases hk
    · exact h.sg k d hk
  · rw [List.getElem?_set] at hk
    split at hk
    · split at hk <;> cases hk
    · exact h.cp k j hk
theorem sub_at {c : List Nat} {a b k m : Nat} (h : sub c a m = sub c b m) (hk : k < m) : c[a + k]? = c[b + k]? := by
  have := congrArg (fun l : List Nat => l[k]?) h
  simpa [sub, hk] using this
theorem Fw.orgs {c : List Nat} {s : Nat} {ps : List Prt} (h : Fw c s ps) : (org ps).length + s = c.length ∧ ∀ (i : Nat) (o : Ori), (org ps)[i]? = some o → match o with | Sum.inl a => c[s + i]? = some a | Sum.inr j => j < s + i ∧ c[j]? = c[s + i]? := by
  induction h with
  | nil => exact ⟨by simp [org], fun i o hi => by simp [org] at hi⟩
  | @cons s p r a b d ih =>
    have e : org (p :: r) = orgP p ++ org r := rfl
    obtain ⟨ih1, ih2⟩ := ih
    refine ⟨by rw [e, List.length_append, orgP_len]; omega, fun i o hi => ?_⟩
    rw [e] at hi
    rcases Nat.lt_or_ge i (orgP p).length with q | q
    · rw [List.getElem?_append_left q] at hi
      match p, b with
      | .inl x, b =>
        have hi0 : i = 0 := by have : (orgP (.inl x)).length = 1 := rfl; omega
        subst hi0
        cases hi
        exact b.1
      | .inr (o', m), b =>
        rw [orgP_len] at q
        have q : i < m := q
        have e2 : o = .inr (o' + i) := by
          have : ((List.range m).map fun k => (Sum.inr (o' + k) : Ori))[i]? = some (.inr (o' + i)) := by simp [q]
          exact Option.some.inj (hi.symm.trans this)
        subst e2
        obtain ⟨b1, b2, _⟩ := b.2.at' b.1
        exact ⟨by omega, sub_at b2.2 q⟩
    · rw [List.getElem?_append_right q] at hi
      have := ih2 _ _ hi
      rw [orgP_len] at this q
      rw [show s + pLen p + (i - pLen p) = s + i by omega] at this
      exact this
theorem Fw.sol {c : List Nat} {ps : List Prt} (h : Fw c 0 ps) : Sol c id (org ps) := by
  obtain ⟨h1, h2⟩ := h.orgs
  refine ⟨by omega, fun i a hi => ?_, fun i j hi => ?_, fun i hi => hi⟩
  · have := h2 i _ hi
    rwa [Nat.zero_add] at this
  · have := h2 i _ hi
    rw [Nat.zero_add] at this
    have hl := (List.getElem?_eq_some_iff.mp hi).1
    exact ⟨by omega, this.2, this.1⟩
/-- the last places of the parts -/
def lpI (s : Nat) : List Prt → List Int
  | [] => []
  | p :: r => (((s + pLen p : Nat) : Int) - 1) :: lpI (s + pLen p) r
theorem sumL_snoc (ps : List Prt) (p : Prt) : sumL (ps ++ [p]) = sumL ps + pLen p := by simp [sumL]
/-- a place of the parts lies in a part: its beginning, its end -/
theorem Fw.part {c : List Nat} {s : Nat} {ps : List Prt} (h : Fw c s ps) {i : Nat} (h1 : s ≤ i) (h2 : i < c.length) : ∃ t p, Pt c t p ∧ t ≤ i ∧ i < t + pLen p ∧ ((t + pLen p : Nat) : Int) - 1 ∈ lpI s ps ∧ t < c.length := by
  induction h with
  | nil => omega
  | @cons s p r a b d ih =>
    rcases Nat.lt_or_ge i (s + pLen p) with q | q
    · exact ⟨s, p, b, h1, q, List.mem_cons_self, a⟩
    · obtain ⟨t, p', x1, x2, x3, x4, x5⟩ := ih q
      exact ⟨t, p', x1, x2, x3, List.mem_cons_of_mem _ x4, x5⟩
theorem sub_mid {c : List Nat} {a b m k L : Nat} (h : sub c a m = sub c b m) (hk : k + L ≤ m) : sub c (a + k) L = sub c (b + k) L := by
  have := congrArg (fun l : List Nat => (l.drop k).take L) h
  simp only [sub, List.drop_take, List.take_take, List.drop_drop] at this
  rw [Nat.min_eq_left (by omega)] at this
  exact this
/-- each piece stands over the end of a part -/
theorem Fw.touch {c : List Nat} {ps : List Prt} (h : Fw c 0 ps) {w : List Nat} (hw : 1 ≤ w.length) : ∀ {i : Nat}, i + w.length ≤ c.length → sub c i w.length = w → ∃ j z, j + w.length ≤ c.length ∧ sub c j w.length = w ∧ z ∈ lpI 0 ps ∧ (j : Int) ≤ z ∧ z < (j : Int) + w.length := by
  intro i
  induction i using Nat.strongRecOn with
  | _ i ih =>
    intro h1 h2
    obtain ⟨t, p, x1, x2, x3, x4, x5⟩ := h.part (Nat.zero_le i) (show i < c.length by omega)
    rcases Nat.lt_or_ge (t + pLen p) (i + w.length + 1) with q | q
    · exact ⟨i, _, h1, h2, x4, by omega, by omega⟩
    · match p, x1 with
      | .inl a, x1 =>
        have : pLen (.inl a) = 1 := rfl
        omega
      | .inr (o, m), x1 =>
        have e : pLen (.inr (o, m)) = m := rfl
        rw [e] at q x3
        obtain ⟨b1, b2, _⟩ := x1.2.at' x1.1
        have e2 := sub_mid (k := i - t) (L := w.length) b2.2 (by omega)
        rw [show t + (i - t) = i by omega, h2] at e2
        have := b2.1
        exact ih (o + (i - t)) (by omega) (by omega) e2
end L2

set_option Elab.async false
set_option linter.all false
set_option maxRecDepth 100000
set_option maxHeartbeats 1000000
namespace L2
open PySem PySem.Spec PyProof.Rows TL
end L2

set_option Elab.async false
set_option linter.all false
set_option maxRecDepth 100000
set_option maxHeartbeats 1000000
namespace L2
open PySem PySem.Spec PyProof.Rows TL
/-! ### forms whose copies come from earlier places -/
def Pe (c : List Nat) (s : Nat) : Prt → Prop
  | .inl a => c[s]? = some a
  | .inr (o, m) => 0 < m ∧ o < s ∧ Eqm c s o m
inductive Ew (c : List Nat) : Nat → List Prt → Prop where
  | nil : Ew c c.length []
  | cons {s : Nat} {p : Prt} {r : List Prt} : s < c.length → Pe c s p → Ew c (s + pLen p) r → Ew c s (p :: r)
theorem Pe.len {c : List Nat} {s : Nat} (hs : s < c.length) : ∀ {p : Prt}, Pe c s p → 1 ≤ pLen p ∧ s + pLen p ≤ c.length
  | .inl a, h => ⟨Nat.le_refl _, hs⟩
  | .inr (o, m), h => ⟨h.1, h.2.2.1⟩
theorem Ew.orgs {c : List Nat} {s : Nat} {ps : List Prt} (h : Ew c s ps) : (org ps).length + s = c.length ∧ ∀ (i : Nat) (o : Ori), (org ps)[i]? = some o → match o with | Sum.inl a => c[s + i]? = some a | Sum.inr j => j < s + i ∧ c[j]? = c[s + i]? := by
  induction h with
  | nil => exact ⟨by simp [org], fun i o hi => by simp [org] at hi⟩
  | @cons s p r a b d ih =>
    have e : org (p :: r) = orgP p ++ org r := rfl
    obtain ⟨ih1, ih2⟩ := ih
    refine ⟨by rw [e, List.length_append, orgP_len]; omega, fun i o hi => ?_⟩
    rw [e] at hi
    rcases Nat.lt_or_ge i (orgP p).length with q | q
    · rw [List.getElem?_append_left q] at hi
      match p, b with
      | .inl x, b =>
        have hi0 : i = 0 := by have : (orgP (.inl x)).length = 1 := rfl; omega
        subst hi0
        cases hi
        exact b
      | .inr (o', m), b =>
        rw [orgP_len] at q
        have q : i < m := q
        have e2 : o = .inr (o' + i) := by
          have : ((List.range m).map fun k => (Sum.inr (o' + k) : Ori))[i]? = some (.inr (o' + i)) := by simp [q]
          exact Option.some.inj (hi.symm.trans this)
        subst e2
        obtain ⟨_, b1, b2⟩ := b
        exact ⟨by omega, sub_at b2.2 q⟩
    · rw [List.getElem?_append_right q] at hi
      have := ih2 _ _ hi
      rw [orgP_len] at this q
      rw [show s + pLen p + (i - pLen p) = s + i by omega] at this
      exact this
theorem Ew.sol {c : List Nat} {ps : List Prt} (h : Ew c 0 ps) : Sol c id (org ps) := by
  obtain ⟨h1, h2⟩ := h.orgs
  refine ⟨by omega, fun i a hi => ?_, fun i j hi => ?_, fun i hi => hi⟩
  · have := h2 i _ hi
    rwa [Nat.zero_add] at this
  · have := h2 i _ hi
    rw [Nat.zero_add] at this
    have hl := (List.getElem?_eq_some_iff.mp hi).1
    exact ⟨by omega, this.2, this.1⟩
theorem Ew.all {c : List Nat} {s : Nat} {ps : List Prt} (h : Ew c s ps) : ps.length + s ≤ c.length ∧ ∀ p ∈ ps, ∃ t, t < c.length ∧ Pe c t p := by
  induction h with
  | nil => exact ⟨by simp, fun p m => nomatch m⟩
  | cons a b d ih =>
    have := b.len a
    refine ⟨by rw [List.length_cons]; omega, fun p m => ?_⟩
    rcases List.mem_cons.mp m with rfl | q
    · exact ⟨_, a, b⟩
    · exact ih.2 p q
theorem Fw.ew {c : List Nat} {s : Nat} {ps : List Prt} (h : Fw c s ps) : Ew c s ps := by
  induction h with
  | nil => exact .nil
  | @cons s p r a b d ih =>
    refine .cons a ?_ ih
    match p, b with
    | .inl x, b => exact b.1
    | .inr (o, m), b =>
      obtain ⟨h1, h2, _⟩ := b.2.at' b.1
      exact ⟨b.1, h1, h2⟩
end L2

set_option Elab.async false
set_option linter.all false
set_option maxRecDepth 100000
set_option maxHeartbeats 1000000
namespace L2
open PySem PySem.Spec PyProof.Rows TL
theorem noFill_tuple_mul : fillsNumberSlot (.type "tuple") "mul" = pure false :=
  PySem.fillsNumberSlot_seq (id := "tuple.__mul__") (r := some (.builtin "tuple.__rmul__")) PySem.F.slot_tuple_mul.lookup (by decide +kernel) PySem.F.slot_tuple_rmul.lookup (by decide +kernel)
theorem repeat_tuple : seqRepeat? (.type "tuple") = pure (some (.builtin "tuple.__mul__")) := by
  unfold seqRepeat?
  rw [PySem.seqSlot_of (T := "tuple") (name := "__mul__") (id := "tuple.__mul__") PySem.F.slot_tuple_mul.lookup (by decide +kernel), PySem.seqSlot_of (T := "tuple") (name := "__rmul__") (id := "tuple.__rmul__") PySem.F.slot_tuple_rmul.lookup (by decide +kernel)]
  rfl
open Builtin in
theorem rmul_tup (a : Int) (t : Tok) (l : Addr) (items : Array Value) (n : Nat) (dd : Option Addr) (sl : Array (Option Value)) :
    Meets (Builtin.«int.__rmul__» ⟨[.int a t, .ref l], []⟩) (fun _ R s => s.heap.get? l = some { cls := .type "tuple", dict := dd, data := .seq items n, slots := sl } ∧ R (.ok (.ret Value.notImplemented)) s) :=
  .of_wp fun prog w A R s h => by obtain ⟨hp, g, d, tk, os⟩ := s; obtain ⟨hl, h⟩ := h; wp_walk; exact ⟨_, rfl, h⟩
theorem mul_tup1 (l : Addr) (items : Array Value) (n : Nat) (dd : Option Addr) (sl : Array (Option Value)) (u : Tok) :
    Meets (Builtin.«tuple.__mul__» ⟨[.ref l, .int 1 u], []⟩) (fun _ R s => s.heap.get? l = some { cls := .type "tuple", dict := dd, data := .seq items n, slots := sl } ∧ R (.ok (.ret (Value.ref l))) { s with heap := s.heap, toks := s.toks }) :=
  .of_wp fun prog w A R s h => by
    obtain ⟨hp, g, d, tk, os⟩ := s; obtain ⟨hl, h⟩ := h; have f1 := AutoSeq1.idx_int; have f2 := AutoSeq1.sub_tuple_tuple
    wp_walk using wpAny_loadPart' hl
    exact ⟨_, rfl, h⟩
end L2

set_option Elab.async false
set_option linter.all false
set_option maxRecDepth 100000
set_option maxHeartbeats 1000000
namespace L2
open PySem PySem.Spec PyProof.Rows TL
theorem snoc_ind {α : Type} {P : List α → Prop} (h0 : P []) (hs : ∀ l a, P l → P (l ++ [a])) (l : List α) : P l := by
  have key : ∀ m : List α, P m.reverse := fun m => by
    induction m with
    | nil => exact h0
    | cons a m ih => rw [List.reverse_cons]; exact hs _ _ ih
  have := key l.reverse
  rwa [List.reverse_reverse] at this
/-! ### rows that name earlier ones -/
abbrev Row := List Ori
def itL (acc : List (List Nat)) : Ori → List Nat
  | .inl c => [c]
  | .inr j => acc.getD j []
def rowT (acc : List (List Nat)) (r : Row) : List Nat := r.flatMap (itL acc)
def txs (rs : List Row) : List (List Nat) := rs.foldl (fun acc r => acc ++ [rowT acc r]) []
theorem txs_snoc (rs : List Row) (r : Row) : txs (rs ++ [r]) = txs rs ++ [rowT (txs rs) r] := by
  unfold txs
  rw [List.foldl_append]
  rfl
theorem txs_len (rs : List Row) : (txs rs).length = rs.length := by
  refine snoc_ind (P := fun rs => (txs rs).length = rs.length) rfl (fun rs r ih => ?_) rs
  rw [txs_snoc, List.length_append, List.length_append, ih]
  rfl
def itOk (n : Nat) : Ori → Prop
  | .inl c => 97 ≤ c ∧ c ≤ 122
  | .inr j => j < n
def rowOk (n : Nat) (r : Row) : Prop := 1 ≤ r.length ∧ r.length ≤ 12 ∧ ∀ o ∈ r, itOk n o
def Rok (rs : List Row) : Prop := ∀ i r, rs[i]? = some r → rowOk i r
def Small (rs : List Row) : Prop := ∀ t ∈ txs rs, t.length ≤ 300
theorem Rok.nil : Rok [] := fun i r h => by simp at h
theorem Rok.snoc {rs : List Row} {r : Row} (h : Rok rs) (hr : rowOk rs.length r) : Rok (rs ++ [r]) := fun i r' h' => by
  rcases Nat.lt_or_ge i rs.length with q | q
  · rw [List.getElem?_append_left q] at h'
    exact h i r' h'
  · rw [List.getElem?_append_right q] at h'
    have hl := (List.getElem?_eq_some_iff.mp h').1
    have : i = rs.length := by simp at hl; omega
    subst this
    simp at h'
    subst h'
    exact hr
theorem Rok.take {rs : List Row} (h : Rok rs) (i : Nat) : Rok (rs.take i) := fun j r hj => by
  rw [List.getElem?_take] at hj
  split at hj
  · exact h j r hj
  · cases hj
theorem Small.snoc {rs : List Row} {r : Row} (h : Small rs) (hr : (rowT (txs rs) r).length ≤ 300) : Small (rs ++ [r]) := fun t ht => by
  rw [txs_snoc] at ht
  rcases List.mem_append.mp ht with q | q
  · exact h t q
  · rw [List.mem_singleton.mp q]
    exact hr
theorem txs_take {rs : List Row} (i : Nat) : txs (rs.take i) = (txs rs).take i := by
  refine snoc_ind (P := fun rs => txs (rs.take i) = (txs rs).take i) (by simp [txs]) (fun rs r ih => ?_) rs
  · rcases Nat.lt_or_ge i (rs.length + 1) with q | q
    · rw [List.take_append_of_le_length (by omega), txs_snoc, List.take_append_of_le_length (by rw [txs_len]; omega), ih]
    · rw [List.take_of_length_le (by simp; omega), List.take_of_length_le (by rw [txs_len]; simp; omega)]
theorem txs_at {rs : List Row} {i : Nat} {r : Row} (h : rs[i]? = some r) : (txs rs)[i]? = some (rowT (txs (rs.take i)) r) := by
  have hl := (List.getElem?_eq_some_iff.mp h).1
  have e : rs.take (i + 1) = rs.take i ++ [r] := by rw [List.take_succ, h]; rfl
  have h1 : txs (rs.take (i + 1)) = (txs rs).take (i + 1) := txs_take (i + 1)
  rw [e, txs_snoc] at h1
  have h2 : ((txs rs).take (i + 1))[i]? = (txs rs)[i]? := by rw [List.getElem?_take]; simp
  rw [← h2, ← h1, List.getElem?_append_right (by rw [txs_len, List.length_take]; omega), txs_len, List.length_take, Nat.min_eq_left (by omega), Nat.sub_self]
  rfl
theorem Small.take {rs : List Row} (h : Small rs) (i : Nat) : Small (rs.take i) := fun t ht => by
  rw [txs_take] at ht
  exact h t (List.mem_of_mem_take ht)
/-- refs of rows -/
inductive Rws (H : Hp) : List V → List Row → Prop where
  | nil : Rws H [] []
  | cons {a : Addr} {r : Row} {vs : List V} {rs : List Row} : H a = some (.tup (r.map oV)) → Rws H vs rs → Rws H (.ref a :: vs) (r :: rs)
theorem Rws.kept {H H' : Hp} {vs : List V} {rs : List Row} (h : Rws H vs rs) (k : ∀ r o, H r = some o → (∃ xs, o = .tup xs) → H' r = some o) : Rws H' vs rs := by
  induction h with
  | nil => exact .nil
  | cons a _ ih => exact .cons (k _ _ a ⟨_, rfl⟩) ih
theorem Rws.same {H H' : Hp} {vs : List V} {rs : List Row} (h : Rws H vs rs) (s : Same H H') : Rws H' vs rs := h.kept fun _ _ e _ => s _ _ e
theorem Rws.snoc {H : Hp} {vs : List V} {rs : List Row} (h : Rws H vs rs) {a : Addr} {r : Row} (hr : H a = some (.tup (r.map oV))) : Rws H (vs ++ [.ref a]) (rs ++ [r]) := by
  induction h with
  | nil => exact .cons hr .nil
  | cons a _ ih => exact .cons a ih
theorem Rws.len {H : Hp} {vs : List V} {rs : List Row} (h : Rws H vs rs) : vs.length = rs.length := by
  induction h with
  | nil => rfl
  | cons _ _ ih => rw [List.length_cons, List.length_cons, ih]
theorem Rws.at' {H : Hp} {vs : List V} {rs : List Row} (h : Rws H vs rs) : ∀ {i : Nat} {v : V}, vs[i]? = some v → ∃ a r, v = .ref a ∧ rs[i]? = some r ∧ H a = some (.tup (r.map oV)) := by
  induction h with
  | nil => intro i v hv; simp at hv
  | @cons a r vs rs hr _ ih =>
    intro i v hv
    cases i with
    | zero =>
      simp at hv
      exact ⟨a, r, hv.symm, rfl, hr⟩
    | succ i =>
      simp at hv
      obtain ⟨r', p', x, b, c⟩ := ih hv
      exact ⟨r', p', x, by simpa using b, c⟩
theorem Small.row {rs : List Row} (h : Small rs) {i : Nat} {r : Row} (hr : rs[i]? = some r) : (rowT (txs (rs.take i)) r).length ≤ 300 := h _ (List.mem_of_getElem? (txs_at hr))
end L2

set_option Elab.async false
set_option linter.all false
set_option maxRecDepth 100000
set_option maxHeartbeats 1000000
namespace L2
open PySem PySem.Spec PyProof.Rows TL
/-! ### cuts are fewest -/
theorem sub_pre {c : List Nat} {n j k : Nat} (h : j + k ≤ n) : sub (c.take n) j k = sub c j k := by
  unfold sub
  rw [List.drop_take, List.take_take, Nat.min_eq_left (by omega)]
theorem eqm_pre {c : List Nat} {n s j k : Nat} (hn : n ≤ c.length) (hj : j ≤ s) : Eqm (c.take n) s j k ↔ Eqm c s j k ∧ s + k ≤ n := by
  unfold Eqm
  rw [List.length_take, Nat.min_eq_left hn]
  constructor
  · rintro ⟨h1, h2⟩
    rw [sub_pre (by omega), sub_pre (by omega)] at h2
    exact ⟨⟨by omega, h2⟩, h1⟩
  · rintro ⟨⟨h1, h2⟩, h3⟩
    refine ⟨h3, ?_⟩
    rw [sub_pre (by omega), sub_pre (by omega)]
    exact h2
/-- one part that goes from i to j -/
def Stp (c : List Nat) (i j : Nat) : Prop := i < j ∧ j ≤ c.length ∧ (j = i + 1 ∨ ∃ o, o < i ∧ Eqm c i o (j - i))
theorem Stp.later {c : List Nat} {i i' j : Nat} (h : Stp c i j) (h1 : i ≤ i') (h2 : i' < j) : Stp c i' j := by
  obtain ⟨a, b, d⟩ := h
  refine ⟨h2, b, ?_⟩
  rcases d with e | ⟨o, ho, he⟩
  · left
    omega
  · right
    refine ⟨o + (i' - i), by omega, by omega, ?_⟩
    have := sub_mid (k := i' - i) (L := j - i') he.2 (by omega)
    rw [show i + (i' - i) = i' by omega] at this
    exact this
theorem Stp.less {c : List Nat} {i j j' : Nat} (h : Stp c i j) (h1 : i < j') (h2 : j' ≤ j) : Stp c i j' := by
  obtain ⟨a, b, d⟩ := h
  refine ⟨h1, by omega, ?_⟩
  rcases d with e | ⟨o, ho, he⟩
  · left
    omega
  · exact .inr ⟨o, ho, he.less (by omega)⟩
theorem Stp.pre {c : List Nat} {n i j : Nat} (hn : n ≤ c.length) (hj : j ≤ n) : Stp (c.take n) i j ↔ Stp c i j := by
  unfold Stp
  rw [List.length_take, Nat.min_eq_left hn]
  constructor
  · rintro ⟨a, b, d⟩
    refine ⟨a, by omega, ?_⟩
    rcases d with e | ⟨o, ho, he⟩
    · exact .inl e
    · exact .inr ⟨o, ho, ((eqm_pre hn (by omega)).mp he).1⟩
  · rintro ⟨a, b, d⟩
    refine ⟨a, hj, ?_⟩
    rcases d with e | ⟨o, ho, he⟩
    · exact .inl e
    · exact .inr ⟨o, ho, (eqm_pre hn (by omega)).mpr ⟨he, by omega⟩⟩
/-- a part of a cut goes as far as any -/
theorem Pt.stp {c : List Nat} {s : Nat} (hs : s < c.length) : ∀ {p : Prt}, Pt c s p → Stp c s (s + pLen p)
  | .inl a, h => ⟨by show s < s + 1; omega, hs, .inl rfl⟩
  | .inr (o, m), h => by
    obtain ⟨h1, h2, _⟩ := h.2.at' h.1
    have := h.2.fit
    refine ⟨by show s < s + m; have := h.1; omega, by show s + m ≤ _; omega, .inr ⟨o, h1, ?_⟩⟩
    show Eqm c s o (s + m - s)
    rw [show s + m - s = m by omega]
    exact h2
theorem Pt.far {c : List Nat} {s : Nat} {j : Nat} : ∀ {p : Prt}, Pt c s p → Stp c s j → j ≤ s + pLen p
  | .inl a, h, st => by
    show j ≤ s + 1
    rcases st.2.2 with e | ⟨o, ho, he⟩
    · omega
    · have := h.2.most o ho _ he
      omega
  | .inr (o, m), h, st => by
    show j ≤ s + m
    rcases st.2.2 with e | ⟨o, ho, he⟩
    · have := h.1
      omega
    · have := h.2.most o ho _ he
      omega
/-- from s on at most so many parts are needed to come to j -/
inductive Rch (c : List Nat) (j : Nat) : Nat → Nat → Prop where
  | done {s k : Nat} : j ≤ s → Rch c j s k
  | go {s t k : Nat} : Stp c s t → Rch c j t k → Rch c j s (k + 1)
theorem Rch.succ {c : List Nat} {j s k : Nat} (h : Rch c j s k) : Rch c j s (k + 1) := by
  induction h with
  | done a => exact .done a
  | go a b ih => exact .go a ih
theorem Rch.more {c : List Nat} {j s k k' : Nat} (h : Rch c j s k) (hk : k ≤ k') : Rch c j s k' := by
  obtain ⟨d, rfl⟩ : ∃ d, k' = k + d := ⟨k' - k, by omega⟩
  clear hk
  induction d with
  | zero => exact h
  | succ d ih => exact ih.succ
theorem Rch.later {c : List Nat} {j s s' k : Nat} (h : Rch c j s k) (hs : s ≤ s') : Rch c j s' k := by
  induction h generalizing s' with
  | done a => exact .done (by omega)
  | @go s t k a b ih =>
    rcases Nat.lt_or_ge s' t with q | q
    · exact .go (a.later hs q) b
    · exact (ih q).succ
/-- the parts of a cut are no more -/
theorem Fw.fewest {c : List Nat} {s : Nat} {ps : List Prt} (h : Fw c s ps) : ∀ {k : Nat}, Rch c c.length s k → ps.length ≤ k := by
  induction h with
  | nil => intro k _; exact Nat.zero_le _
  | @cons s p r a b d ih =>
    intro k hk
    cases hk with
    | done q => omega
    | @go _ t k st hr =>
      have := ih (hr.later (b.far st))
      rw [List.length_cons]
      omega
theorem Fw.rch {c : List Nat} {s : Nat} {ps : List Prt} (h : Fw c s ps) : Rch c c.length s ps.length := by
  induction h with
  | nil => exact .done (Nat.le_refl _)
  | @cons s p r a b d ih => exact .go (b.stp a) ih
theorem Rch.snoc {c : List Nat} {i j s k : Nat} (h : Rch c i s k) (st : Stp c i j) : Rch c j s (k + 1) := by
  induction h with
  | @done s k a =>
    rcases Nat.lt_or_ge s j with q | q
    · exact .go (st.later a q) (.done (Nat.le_refl _))
    · exact .done q
  | go a b ih => exact .go a ih
theorem Rch.pre {c : List Nat} {n j s k : Nat} (hn : n ≤ c.length) (hj : j ≤ n) : Rch (c.take n) j s k ↔ Rch c j s k := by
  constructor
  · intro h
    induction h with
    | done a => exact .done a
    | go a b ih =>
      have := a.2.1
      rw [List.length_take] at this
      exact .go ((Stp.pre hn (by omega)).mp a) ih
  · intro h
    induction h with
    | done a => exact .done a
    | @go s t k a b ih =>
      rcases Nat.lt_or_ge n t with q | q
      · rcases Nat.lt_or_ge s n with q2 | q2
        · exact .go ((Stp.pre hn (Nat.le_refl _)).mpr (a.less q2 (by omega))) (.done hj)
        · exact .done (by omega)
      · exact .go ((Stp.pre hn q).mpr a) ih
/-- the least number of parts to come to j -/
def Lst (c : List Nat) (j k : Nat) : Prop := Rch c j 0 k ∧ ∀ k', Rch c j 0 k' → k ≤ k'
theorem Lst.uniq {c : List Nat} {j k k' : Nat} (h : Lst c j k) (h' : Lst c j k') : k = k' := Nat.le_antisymm (h.2 _ h'.1) (h'.2 _ h.1)
theorem Fw.lst {c : List Nat} {n : Nat} {ps : List Prt} (hn : n ≤ c.length) (h : Fw (c.take n) 0 ps) : Lst c n ps.length := by
  have e : (c.take n).length = n := by rw [List.length_take]; omega
  have h1 := h.rch
  rw [e] at h1
  refine ⟨(Rch.pre hn (Nat.le_refl _)).mp h1, fun k hk => ?_⟩
  refine h.fewest ?_
  rw [e]
  exact (Rch.pre hn (Nat.le_refl _)).mpr hk
theorem Rch.last {c : List Nat} {j s k : Nat} (h : Rch c j s k) : j ≤ s ∨ ∃ i k', s ≤ i ∧ k = k' + 1 ∧ Rch c i s k' ∧ i < j ∧ ∃ t, j ≤ t ∧ Stp c i t := by
  induction h with
  | done a => exact .inl a
  | @go s t k a b ih =>
    rcases Nat.lt_or_ge s j with q2 | q2
    · right
      rcases ih with q | ⟨i, k', h1, h2, h3, h4, h5⟩
      · exact ⟨s, k, Nat.le_refl _, rfl, .done (Nat.le_refl _), q2, t, q, a⟩
      · exact ⟨i, k' + 1, by have := a.1; omega, by omega, .go a h3, h4, h5⟩
    · exact .inl q2
theorem rch_ones {c : List Nat} : ∀ {j : Nat}, j ≤ c.length → Rch c j 0 j
  | 0, _ => .done (Nat.le_refl _)
  | j + 1, h => (rch_ones (by omega)).snoc ⟨by omega, h, .inl rfl⟩
/-- the numbers of parts as they are found: from the places ahead of p, and some steps from p -/
structure DP (c : List Nat) (L : List Nat) (p : Nat) (W : Nat → Prop) : Prop where
  len : L.length = c.length + 1
  zero : L[0]? = some 0
  fro : ∀ j v, 1 ≤ j → L[j]? = some v → v = c.length ∨ ∃ i u, i ≤ p ∧ Stp c i j ∧ L[i]? = some u ∧ v = u + 1
  low : ∀ i j u v, i < p → Stp c i j → L[i]? = some u → L[j]? = some v → v ≤ u + 1
  here : ∀ j u v, W j → L[p]? = some u → L[j]? = some v → v ≤ u + 1
theorem DP.put {c L : List Nat} {p j : Nat} {W : Nat → Prop} (h : DP c L p W) (st : Stp c p j) {u v : Nat} (hu : L[p]? = some u) (hv : L[j]? = some v) : DP c (L.set j (if u + 1 < v then u + 1 else v)) p (fun k => W k ∨ k = j) := by
  have hpj := st.1
  have hjl := (List.getElem?_eq_some_iff.mp hv).1
  have get : ∀ k w, (L.set j (if u + 1 < v then u + 1 else v))[k]? = some w → (k = j ∧ w = (if u + 1 < v then u + 1 else v)) ∨ (k ≠ j ∧ L[k]? = some w) := fun k w hk => by
    rw [List.getElem?_set] at hk
    split at hk
    · next e =>
      exact .inl ⟨e.symm, (Option.some.inj hk).symm⟩
    · next e => exact .inr ⟨fun q => e q.symm, hk⟩
  have keep : ∀ k w, k ≠ j → L[k]? = some w → (L.set j (if u + 1 < v then u + 1 else v))[k]? = some w := fun k w hk e => by
    rw [List.getElem?_set, if_neg (fun q => hk q.symm)]
    exact e
  refine ⟨by rw [List.length_set]; exact h.len, keep _ _ (by omega) h.zero, fun k w hk e => ?_, fun i k u' w hi sk hu' e => ?_, fun k u' w hW hu' e => ?_⟩
  · rcases get k w e with ⟨rfl, rfl⟩ | ⟨ne, e⟩
    · by_cases c0 : u + 1 < v
      · exact .inr ⟨p, u, Nat.le_refl _, st, keep _ _ (by omega) hu, if_pos c0⟩
      · rcases h.fro k v hk hv with q | ⟨i, u', a1, a2, a3, a4⟩
        · exact .inl ((if_neg c0).trans q)
        · exact .inr ⟨i, u', a1, a2, keep _ _ (by have := a2.1; omega) a3, (if_neg c0).trans a4⟩
    · rcases h.fro k w hk e with q | ⟨i, u', a1, a2, a3, a4⟩
      · exact .inl q
      · exact .inr ⟨i, u', a1, a2, keep _ _ (by omega) a3, a4⟩
  · have hui : L[i]? = some u' := by
      rcases get i u' hu' with ⟨q, _⟩ | ⟨_, q⟩
      · omega
      · exact q
    rcases get k w e with ⟨rfl, rfl⟩ | ⟨ne, e⟩
    · have := h.low i k u' v hi sk hui hv
      split <;> omega
    · exact h.low i k u' w hi sk hui e
  · have hup : u' = u := by
      rcases get p u' hu' with ⟨q, _⟩ | ⟨_, q⟩
      · omega
      · rw [hu] at q
        exact (Option.some.inj q).symm
    subst hup
    rcases get k w e with ⟨rfl, rfl⟩ | ⟨ne, e⟩
    · split <;> omega
    · rcases hW with q | q
      · exact h.here k u' w q hu e
      · exact absurd q ne
theorem DP.mono {c L : List Nat} {p : Nat} {W W' : Nat → Prop} (h : DP c L p W) (hw : ∀ j, W' j → W j) : DP c L p W' := ⟨h.len, h.zero, h.fro, h.low, fun j u v w => h.here j u v (hw j w)⟩
theorem DP.next {c L : List Nat} {p : Nat} {W : Nat → Prop} (h : DP c L p W) (hw : ∀ j, Stp c p j → W j) : DP c L (p + 1) (fun _ => False) := by
  refine ⟨h.len, h.zero, fun j v hj e => ?_, fun i j u v hi st hu e => ?_, fun _ _ _ w => w.elim⟩
  · rcases h.fro j v hj e with q | ⟨i, u, a1, a2, a3, a4⟩
    · exact .inl q
    · exact .inr ⟨i, u, by omega, a2, a3, a4⟩
  · rcases Nat.lt_or_ge i p with q | q
    · exact h.low i j u v q st hu e
    · have : i = p := by omega
      subst this
      exact h.here j u v (hw j st) hu e
theorem DP.start (c : List Nat) : DP c (0 :: List.replicate c.length c.length) 0 (fun _ => False) := by
  refine ⟨by simp, rfl, fun j v hj e => ?_, fun i j u v hi => by omega, fun _ _ _ w => w.elim⟩
  obtain ⟨k, rfl⟩ : ∃ k, j = k + 1 := ⟨j - 1, by omega⟩
  rw [List.getElem?_cons_succ, List.getElem?_replicate] at e
  split at e
  · exact .inl (Option.some.inj e).symm
  · cases e
theorem DP.lst {c L : List Nat} (h : DP c L c.length (fun _ => False)) : ∀ (j v : Nat), L[j]? = some v → Lst c j v := by
  intro j
  induction j using Nat.strongRecOn with
  | _ j ih =>
    intro v hv
    have hjl := (List.getElem?_eq_some_iff.mp hv).1
    rw [h.len] at hjl
    rcases Nat.eq_zero_or_pos j with e | e
    · subst e
      rw [h.zero] at hv
      cases hv
      exact ⟨.done (Nat.le_refl _), fun k _ => Nat.zero_le _⟩
    · refine ⟨?_, fun k hk => ?_⟩
      · rcases h.fro j v e hv with q | ⟨i, u, a1, a2, a3, a4⟩
        · rw [q]
          exact (rch_ones (by omega)).more (by omega)
        · rw [a4]
          exact (ih i a2.1 u a3).1.snoc a2
      · rcases hk.last with q | ⟨i, k', _, h2, h3, h4, t, h5, h6⟩
        · omega
        · have hil : i < L.length := by rw [h.len]; omega
          have hu := List.getElem?_eq_getElem hil
          have st : Stp c i j := h6.less h4 h5
          have := h.low i j _ v (by have := st.2.1; omega) st hu hv
          have := (ih i h4 _ hu).2 _ h3
          omega
end L2

set_option Elab.async false
set_option linter.all false
set_option maxRecDepth 100000
set_option maxHeartbeats 1000000
namespace L2
open PySem PySem.Spec PyProof.Rows TL
/-! ### own classes: methods and making by name -/
structure FunM (K : PySem.W.Frag) (C : Addr) (m qual : Str) (st : Stmt) (ps : List Str) : Prop where
  ex : ∃ (f : Addr) (fd : FuncData), Fun K m qual st f fd ∧ Meth K C m f ∧ Binds K fd ps []
structure FunI (K : PySem.W.Frag) (C : Addr) (qual : Str) (st : Stmt) (ps : List Str) : Prop where
  ex : ∃ (f : Addr) (fd : FuncData), Fun K "__init__" qual st f fd ∧ Mk K C f ∧ Binds K fd ps []
structure CalM (P : Program) (w : World) (K : PySem.W.Frag) (mg : Str → Option Value) (base : Heap) (k : Nat) (C : Addr) (m : Str) (ps : List Str) (sp : Sp) : Prop where
  ex : ∃ (f : Addr) (fd : FuncData), FnOk P w K mg base CX0 k f fd ps sp ∧ Meth K C m f ∧ Binds K fd ps []
structure CalI (P : Program) (w : World) (K : PySem.W.Frag) (mg : Str → Option Value) (base : Heap) (k : Nat) (C : Addr) (ps : List Str) (sp : Sp) : Prop where
  ex : ∃ (f : Addr) (fd : FuncData), FnOk P w K mg base CX0 k f fd ps sp ∧ Mk K C f ∧ Binds K fd ps []
section
variable {P : Program} {w : World} {K : PySem.W.Frag} {mg : Str → Option Value} {base : Heap}
end
section
variable {X : Cx}
end
end L2

set_option Elab.async false
set_option linter.all false
set_option maxRecDepth 100000
set_option maxHeartbeats 1000000
namespace L2
open PySem PySem.Spec PyProof.Rows TL
/-! ### texts that grow -/
/-- the ending of m signs stands at an earlier place, too -/
def kno (c : List Nat) (m : Nat) : Prop := ∃ i, i + m < c.length ∧ sub c i m = sub c (c.length - m) m
theorem kno.less {c : List Nat} {m m' : Nat} (h : kno c m) (hm : m' ≤ m) : kno c m' := by
  obtain ⟨i, h1, h2⟩ := h
  refine ⟨i + (m - m'), by omega, ?_⟩
  have := sub_mid (k := m - m') (L := m') h2 (by omega)
  rw [show c.length - m + (m - m') = c.length - m' by omega] at this
  exact this
def Kn (c : List Nat) (k : Nat) : Prop := (c = [] ∧ k = 0) ∨ (kno c k ∧ ∀ m, kno c m → m ≤ k)
theorem Kn.uniq {c : List Nat} {k k' : Nat} (h : Kn c k) (h' : Kn c k') : k = k' := by
  rcases h with ⟨e, rfl⟩ | ⟨h1, h2⟩
  · rcases h' with ⟨_, rfl⟩ | ⟨⟨i, q, _⟩, _⟩
    · rfl
    · rw [e] at q
      simp at q
  · rcases h' with ⟨e, rfl⟩ | ⟨h3, h4⟩
    · obtain ⟨i, q, _⟩ := h1
      rw [e] at q
      simp at q
    · exact Nat.le_antisymm (h4 _ h1) (h2 _ h3)
theorem Kn.lt {c : List Nat} {k : Nat} (h : Kn c k) : k ≤ c.length := by
  rcases h with ⟨_, rfl⟩ | ⟨⟨i, q, _⟩, _⟩
  · exact Nat.zero_le _
  · omega
theorem sub_app {c : List Nat} {a i m : Nat} (h : i + m ≤ c.length) : sub (c ++ [a]) i m = sub c i m := by
  unfold sub
  rw [List.drop_append_of_le_length (by omega), List.take_append_of_le_length (by rw [List.length_drop]; omega)]
/-- the counts of a text, as whole numbers -/
noncomputable def cnc (c : List Nat) : List Int := (List.range c.length).map fun i => ((cntL c (i + 1) : Nat) : Int)
/-! ### a growing text's fields -/
theorem n1 : ¬ (("signs" : Str) = "unlike") := by decide +kernel
theorem n2 : ¬ (("signs" : Str) = "known") := by decide +kernel
theorem n3 : ¬ (("unlike" : Str) = "known") := by decide +kernel
def gfl (x : Str) (u : Addr) (k : Nat) : List (Str × V) := putF "known" (.int (k : Int)) (putF "unlike" (.ref u) (putF "signs" (.str x) []))
/-- a growing text stands at g, its counts at u -/
structure GAt (C : Addr) (H : Hp) (g u : Addr) (x : Str) : Prop where
  ob : ∃ dx k, H g = some (.ins C dx (gfl x u k)) ∧ Kn (cs x) k
  ul : H u = some (.lst ((cnc (cs x)).map V.int))
theorem GAt.ne {C : Addr} {H : Hp} {g u : Addr} {x : Str} (h : GAt C H g u x) : g ≠ u := by
  obtain ⟨dx, k, h1, _⟩ := h.ob
  intro e
  rw [e, h.ul] at h1
  cases h1
theorem GAt.kept {C : Addr} {H H' : Hp} {g u : Addr} {x : Str} (h : GAt C H g u x) (h1 : ∀ o, H g = some o → H' g = some o) (h2 : ∀ o, H u = some o → H' u = some o) : GAt C H' g u x := by
  obtain ⟨dx, k, a, b⟩ := h.ob
  exact ⟨⟨dx, k, h1 _ a, b⟩, h2 _ h.ul⟩
theorem GAt.same {C : Addr} {H H' : Hp} {g u : Addr} {x : Str} (h : GAt C H g u x) (s : Same H H') : GAt C H' g u x := h.kept (fun o => s _ o) (fun o => s _ o)
end L2

set_option Elab.async false
set_option linter.all false
set_option maxRecDepth 100000
set_option maxHeartbeats 1000000
namespace L2
open PySem PySem.Spec PyProof.Rows TL HT
section
variable {prog : Program} {w : World} {A : Around} {E : Value → Shared → Prop} {s : Shared}
/-- t[lo:hi] that is the whole of it: t itself -/
theorem getItem_tuple_all {t sl : Addr} {items : Array Value} {vl vu : Value} {lo hi : Option Int} {Q : Value → Shared → Prop} (ht : IsTup s.heap t items) (hs : s.heap.IsSliceOf sl vl vu .none) (pl : IsPart vl lo) (pu : IsPart vu hi)
    (hw : HT.sIx items.size 0 lo = 0 ∧ HT.sIx items.size items.size hi = items.size) (h : Q (.ref t) s) : wpAny (model prog w) A (getItem (.ref t) (.ref sl)) Q E s := by
  obtain ⟨os, hos, hcs, hds⟩ := id hs
  have tyS : s.TypeIs (.ref sl) "slice" := ⟨os, hos, hcs⟩
  unfold getItem
  try with_reducible refine wpAny_holding ?_
  first | refine wpAny_bind (wpAny_pure ?_) | skip
  refine wpAny_bind (wpAny_sequenceKey ht.typeIs (by decide) ?_)
  refine wpAny_bind (wpAny_callSpecial?_slot (name := Str.ofString "__getitem__") ht.typeIs PyProof.Rows.slot_tuple_getitem
    (wpAny_call_entry PyProof.Rows.slot_tuple_getitem ht.typeIs entry_tuple_getitem ?_ (args_tuple_getitem _ _)))
  show wpAny _ _ (Builtin.Tuple.tupleItemsOf (.ref t) >>= _) _ _ s
  refine wpAny_bind (tupleItemsOf_ ht ?_)
  refine wpAny_bind (wpAny_typeOf tyS ?_)
  rw [if_pos (by decide)]
  refine wpAny_bind (sliceApplied_gen hs pl pu ?_)
  obtain ⟨h1, h2⟩ := hw
  rw [h1, h2]
  show wpAny _ _ (if (((0 : Nat) : Int) == 0 && (1 : Int) == 1 && (items.size - 0) == items.size) = true then _ else _) _ _ s
  rw [if_pos (by simp)]
  unfold Builtin.Tuple.tupleIsExact
  refine wpAny_bind (wpAny_bind (wpAny_typeOf ht.typeIs (wpAny_pure ?_)))
  rw [if_pos (by decide)]
  exact wpAny_bind (wpAny_rule (wpAny_pure ⟨_, rfl, wpAny_pure h⟩))
end
section
variable {X : Cx}
theorem cutV_all {xs : List V} {lo hi : Option Int} (h : HT.sIx xs.length 0 lo = 0 ∧ HT.sIx xs.length xs.length hi = xs.length) : cutV xs lo hi = xs := by
  unfold cutV
  rw [h.1, h.2, List.drop_zero, Nat.sub_zero, List.take_length]
end
end L2

set_option Elab.async false
set_option linter.all false
set_option maxRecDepth 100000
set_option maxHeartbeats 1000000
namespace L2
open PySem PySem.Spec PyProof.Rows TL
/-! ### a cut when a sign is put behind -/
theorem eqm_app {c : List Nat} {a s j k : Nat} (h : s + k ≤ c.length) (hj : j ≤ s) : Eqm (c ++ [a]) s j k ↔ Eqm c s j k := by
  unfold Eqm
  rw [sub_app (by omega), sub_app (by omega), List.length_append]
  constructor
  · rintro ⟨_, h2⟩
    exact ⟨h, h2⟩
  · rintro ⟨h1, h2⟩
    exact ⟨by omega, h2⟩
theorem Pt.app {c : List Nat} {a s : Nat} : ∀ {p : Prt}, Pt c s p → s + pLen p < c.length → Pt (c ++ [a]) s p
  | .inl x, h, hs => by
    have hs : s + 1 < c.length := hs
    refine ⟨by rw [List.getElem?_append_left (by omega)]; exact h.1, by rw [List.length_append]; omega, fun j hj k hk => ?_, fun q => by omega, fun _ => rfl⟩
    rcases Nat.eq_zero_or_pos k with e | e
    · omega
    · have := h.2.most j hj 1 ((eqm_app (by omega) (by omega)).mp (hk.less e))
      omega
  | .inr (o, m), h, hs => by
    have hs : s + m < c.length := hs
    obtain ⟨h1, h2, h3⟩ := h.2.at' h.1
    refine ⟨h.1, by rw [List.length_append]; omega, fun j hj k hk => ?_, fun _ => ⟨h1, (eqm_app (by omega) (by omega)).mpr h2, fun j hj q => h3 j hj ((eqm_app (by omega) (by omega)).mp q)⟩, fun q => absurd h.1 (by omega)⟩
    rcases Nat.lt_or_ge m k with q | q
    · have := h.2.most j hj (m + 1) ((eqm_app (by omega) (by omega)).mp (hk.less q))
      omega
    · exact q
theorem Fw.inv {c : List Nat} {s : Nat} {p : Prt} {r : List Prt} (h : Fw c s (p :: r)) : s < c.length ∧ Pt c s p ∧ Fw c (s + pLen p) r := by
  cases h with
  | cons a b d => exact ⟨a, b, d⟩
theorem Fw.last {c : List Nat} {s : Nat} {ps : List Prt} (h : Fw c s ps) (hs : s < c.length) : ∃ t p, ps.getLast? = some p ∧ Pt c t p ∧ t + pLen p = c.length ∧ t < c.length := by
  induction h with
  | nil => omega
  | @cons s p r x b d ih =>
    have hl := b.len x
    rcases Nat.lt_or_ge (s + pLen p) c.length with q | q
    · obtain ⟨t, p', h1, h2, h3, h4⟩ := ih q
      refine ⟨t, p', ?_, h2, h3, h4⟩
      rw [List.getLast?_cons, h1]
      rfl
    · have e : s + pLen p = c.length := by omega
      refine ⟨s, p, ?_, b, e, x⟩
      cases r with
      | nil => rfl
      | cons p2 r2 =>
        have := d.inv.1
        omega
theorem Fw.new {c : List Nat} {a : Nat} {qs : List Prt} (h : Fw (c ++ [a]) 0 qs) (hk : Kn (c ++ [a]) 0) : qs.getLast? = some (.inl a) := by
  have hl : (c ++ [a]).length = c.length + 1 := by simp
  obtain ⟨t, p, h1, h2, h3, h4⟩ := h.last (by omega)
  rw [h1]
  match p, h2, h3 with
  | .inl b, h2, h3 =>
    have e : t = c.length := by have : t + 1 = _ := h3; omega
    have := h2.1
    rw [e, List.getElem?_append_right (Nat.le_refl _), Nat.sub_self] at this
    have e2 : a = b := by simpa using this
    rw [e2]
  | .inr (o, m), h2, h3 =>
    exfalso
    have h3 : t + m = _ := h3
    obtain ⟨x1, x2, _⟩ := h2.2.at' h2.1
    have hm := h2.1
    have e := sub_mid (k := m - 1) (L := 1) x2.2 (by omega)
    have kn : kno (c ++ [a]) 1 := ⟨o + (m - 1), by omega, by rw [show (c ++ [a]).length - 1 = t + (m - 1) by omega]; exact e⟩
    rcases hk with ⟨e, _⟩ | ⟨_, q⟩
    · simp at e
    · have := q 1 kn
      omega
theorem Prts.take {H : Hp} {vs : List V} {ps : List Prt} (h : Prts H vs ps) : ∀ i, Prts H (vs.take i) (ps.take i) := by
  induction h with
  | nil => intro i; simp; exact .nil
  | cons a _ ih =>
    intro i
    cases i with
    | zero => exact .nil
    | succ i => exact .cons a (ih i)
end L2

set_option Elab.async false
set_option linter.all false
set_option maxRecDepth 100000
set_option maxHeartbeats 1000000
namespace L2
open PySem PySem.Spec PyProof.Rows TL
end L2

set_option Elab.async false
set_option linter.all false
set_option maxRecDepth 100000
set_option maxHeartbeats 1000000
namespace L2
open PySem PySem.Spec PyProof.Rows TL
/-! ### zip of lists and tuples -/
/-- the iterator of a tuple (true) or of a list -/
def SI : Bool → Heap → Addr → Addr → Nat → Prop
  | true, h, i, l, k => IsTupIter h i l k
  | false, h, i, l, k => h.IsListIter i l k
def SC : Bool → Heap → Addr → Array Value → Prop
  | true, h, l, xs => IsTup h l xs
  | false, h, l, xs => h.IsList l xs
theorem SI.at' {b : Bool} {h h' : Heap} {i l : Addr} {k : Nat} (x : SI b h i l k) (e : ∀ o, h.get? i = some o → h'.get? i = some o) : SI b h' i l k := by
  cases b with
  | true => obtain ⟨o, ho, r⟩ := x; exact ⟨o, e o ho, r⟩
  | false => obtain ⟨o, ho, r⟩ := x; exact ⟨o, e o ho, r⟩
theorem SI.ex {b : Bool} {h : Heap} {i l : Addr} {k : Nat} (x : SI b h i l k) : ∃ o, h.get? i = some o ∧ o.data = .fields #[.ref l, .int k 0] := by
  cases b with
  | true => obtain ⟨o, ho, _, d⟩ := x; exact ⟨o, ho, d⟩
  | false => obtain ⟨o, ho, _, d⟩ := x; exact ⟨o, ho, d⟩
theorem SC.at' {b : Bool} {h h' : Heap} {l : Addr} {xs : Array Value} (x : SC b h l xs) (e : ∀ o, h.get? l = some o → h'.get? l = some o) : SC b h' l xs := by
  cases b with
  | true => obtain ⟨o, ho, r⟩ := x; exact ⟨o, e o ho, r⟩
  | false => obtain ⟨o, ho, r⟩ := x; exact ⟨o, e o ho, r⟩
section
variable {prog : Program} {w : World} {A : Around} {E : Value → Shared → Prop} {s : Shared}
end
end L2

set_option Elab.async false
set_option linter.all false
set_option maxRecDepth 100000
set_option maxHeartbeats 1000000
namespace L2
open PySem PySem.Spec PyProof.Rows TL
def itn (b : Bool) : String := if b then "tuple_iterator" else "list_iterator"
abbrev itO (b : Bool) (l : Addr) : Obj := { cls := .type (itn b), data := .fields #[.ref l, .int 0 0] }
section
variable {prog : Program} {w : World} {A : Around} {E : Value → Shared → Prop} {s : Shared}
end
section
variable {prog : Program} {w : World} {A : Around} {E : Value → Shared → Prop} {s : Shared}
theorem SI.new {b : Bool} {h : Heap} {i l : Addr} (e : h.get? i = some (itO b l)) : SI b h i l 0 := by
  cases b with
  | true => exact ⟨_, e, rfl, rfl⟩
  | false => exact ⟨_, e, rfl, rfl⟩
end
theorem SC.lt {b : Bool} {h : Heap} {l : Addr} {xs : Array Value} (c : SC b h l xs) : l < h.objs.size := by
  cases b with
  | true => obtain ⟨o, ho, _⟩ := c; exact Heap.lt_size ho
  | false => obtain ⟨o, ho, _⟩ := c; exact Heap.lt_size ho
end L2

set_option Elab.async false
set_option linter.all false
set_option maxRecDepth 100000
set_option maxHeartbeats 1000000
namespace L2
open PySem PySem.Spec PyProof.Rows TL
end L2

set_option Elab.async false
set_option linter.all false
set_option maxRecDepth 100000
set_option maxHeartbeats 1000000
namespace L2
open PySem PySem.Spec PyProof.Rows TL
/-! ### a dict whose keys are the numbers of a set -/
structure DicN (S : Nat → Prop) (kvs : List (Key × V)) : Prop where
  nd : (kvs.map (·.1)).Nodup
  mem : ∀ k, k ∈ kvs.map (·.1) ↔ ∃ p : Nat, S p ∧ (Sum.inl (p : Int) : Key) = k
theorem DicN.nil : DicN (fun _ => False) [] := ⟨List.nodup_nil, fun k => by simp⟩
theorem DicN.iff {S S' : Nat → Prop} {kvs : List (Key × V)} (h : DicN S kvs) (e : ∀ p, S p ↔ S' p) : DicN S' kvs :=
  ⟨h.nd, fun k => (h.mem k).trans ⟨fun ⟨p, a, b⟩ => ⟨p, (e p).mp a, b⟩, fun ⟨p, a, b⟩ => ⟨p, (e p).mpr a, b⟩⟩⟩
theorem DicN.put {S : Nat → Prop} {kvs : List (Key × V)} (h : DicN S kvs) (p : Nat) (v : V) : DicN (fun q => S q ∨ q = p) (putK kvs (Sum.inl (p : Int)) v) := by
  obtain ⟨k1, k2⟩ := putK_keys kvs (Sum.inl (p : Int)) v
  have spl : ∀ k : Key, (∃ q : Nat, (S q ∨ q = p) ∧ (Sum.inl (q : Int) : Key) = k) ↔ (∃ q : Nat, S q ∧ (Sum.inl (q : Int) : Key) = k) ∨ (Sum.inl (p : Int) : Key) = k := fun k => by
    constructor
    · rintro ⟨q, a | rfl, b⟩
      · exact .inl ⟨q, a, b⟩
      · exact .inr b
    · rintro (⟨q, a, b⟩ | b)
      · exact ⟨q, .inl a, b⟩
      · exact ⟨p, .inr rfl, b⟩
  by_cases hin : (Sum.inl (p : Int) : Key) ∈ kvs.map (·.1)
  · refine ⟨by rw [k1 hin]; exact h.nd, fun k => ?_⟩
    rw [k1 hin, spl, ← h.mem]
    constructor
    · exact .inl
    · rintro (q | q)
      · exact q
      · rw [← q]; exact hin
  · refine ⟨?_, fun k => ?_⟩
    · rw [k2 hin, List.nodup_append]
      refine ⟨h.nd, List.nodup_cons.mpr ⟨by simp, List.nodup_nil⟩, fun a ha b hb e => ?_⟩
      rw [List.mem_singleton.mp hb] at e
      exact hin (e ▸ ha)
    · rw [k2 hin, List.mem_append, List.mem_singleton, spl, ← h.mem]
      constructor
      · rintro (q | q)
        · exact .inl q
        · exact .inr q.symm
      · rintro (q | q)
        · exact .inl q
        · exact .inr q.symm
theorem DicN.few {S : Nat → Prop} {kvs : List (Key × V)} (h : DicN S kvs) {n : Nat} (hn : ∀ p, S p → p < n) : kvs.length ≤ n := by
  have := nodup_sub (kvs.map (·.1)) ((List.range n).map fun j : Nat => (Sum.inl (j : Int) : Key)) h.nd fun k hk => by
    obtain ⟨j, a, b⟩ := (h.mem k).mp hk
    exact List.mem_map.mpr ⟨j, List.mem_range.mpr (hn j a), b⟩
  rw [List.length_map, List.length_map, List.length_range] at this
  exact this
/-! ### the least -/
def Lea (S : Nat → Prop) : Option Nat → Prop
  | none => ∀ p, ¬ S p
  | some m => S m ∧ ∀ p, S p → m ≤ p
theorem Lea.iff {S S' : Nat → Prop} {o : Option Nat} (h : Lea S o) (e : ∀ p, S p ↔ S' p) : Lea S' o := by
  cases o with
  | none => exact fun p q => h p ((e p).mpr q)
  | some m => exact ⟨(e m).mp h.1, fun p q => h.2 p ((e p).mpr q)⟩
theorem Lea.uniq {S : Nat → Prop} {o o' : Option Nat} (h : Lea S o) (h' : Lea S o') : o = o' := by
  cases o with
  | none =>
    cases o' with
    | none => rfl
    | some m => exact absurd h'.1 (h m)
  | some m =>
    cases o' with
    | none => exact absurd h.1 (h' m)
    | some m' =>
      have := h.2 m' h'.1
      have := h'.2 m h.1
      have : m = m' := by omega
      rw [this]
/-- least_of -/
def leO : Option Nat → Nat → Nat
  | none, n => n
  | some m, n => min m n
theorem Lea.put {S : Nat → Prop} {o : Option Nat} (h : Lea S o) (n : Nat) : Lea (fun p => S p ∨ p = n) (some (leO o n)) := by
  cases o with
  | none => exact ⟨.inr rfl, fun p hp => hp.elim (fun q => absurd q (h p)) fun q => by rw [q]; exact Nat.le_refl _⟩
  | some m =>
    refine ⟨?_, fun p hp => ?_⟩
    · show S (min m n) ∨ min m n = n
      rcases Nat.le_total m n with q | q
      · rw [Nat.min_eq_left q]; exact .inl h.1
      · rw [Nat.min_eq_right q]; exact .inr rfl
    · show min m n ≤ p
      rcases hp with q | q
      · have := h.2 p q
        omega
      · omega
/-- a set moved on, beside another -/
theorem Lea.moved {S T : Nat → Prop} {o : Option Nat} {m d : Nat} (h : Lea S o) (t : Lea T (some m)) : Lea (fun p => S p ∨ ∃ q, T q ∧ p = q + d) (some (leO o (m + d))) := by
  have := h.put (m + d)
  refine ⟨?_, fun p hp => ?_⟩
  · rcases this.1 with q | q
    · exact .inl q
    · exact .inr ⟨m, t.1, q⟩
  · rcases hp with q | ⟨q, hq, rfl⟩
    · exact this.2 p (.inl q)
    · have h1 := this.2 (m + d) (.inr rfl)
      have h2 := t.2 q hq
      omega
theorem Lea.sorted {S : Nat → Prop} {ns : List Nat} {ys : List Int} (hm : ∀ p, p ∈ ns ↔ S p) (hp : ys.Perm (ns.map fun n : Nat => (n : Int))) (hs : ys.Pairwise (· ≤ ·)) : ∃ o : Option Nat, Lea S o ∧ ys.head? = o.map fun n : Nat => (n : Int) := by
  cases ys with
  | nil =>
    refine ⟨none, fun p q => ?_, rfl⟩
    have : (p : Int) ∈ ([] : List Int) := hp.mem_iff.mpr (List.mem_map.mpr ⟨p, (hm p).mpr q, rfl⟩)
    cases this
  | cons y r =>
    obtain ⟨n, hn, e⟩ := List.mem_map.mp (hp.mem_iff.mp (List.mem_cons_self ..))
    refine ⟨some n, ⟨(hm n).mp hn, fun p q => ?_⟩, by rw [← e]; rfl⟩
    have : (p : Int) ∈ y :: r := hp.mem_iff.mpr (List.mem_map.mpr ⟨p, (hm p).mpr q, rfl⟩)
    rcases List.mem_cons.mp this with e2 | e2
    · rw [← e] at e2
      omega
    · have := (List.pairwise_cons.mp hs).1 _ e2
      rw [← e] at this
      omega
/-! ### where rows are met -/
def offR (rs : List Row) (r : Row) (t : Nat) : Nat := (rowT (txs rs) (r.take t)).length
inductive Occ (rs : List Row) : Nat → Nat → Prop where
  | last : Occ rs (rs.length - 1) 0
  | step {i p t j : Nat} {r : Row} : Occ rs i p → rs[i]? = some r → r[t]? = some (.inr j) → Occ rs j (p + offR rs r t)
theorem offR_succ {rs : List Row} {r : Row} {t : Nat} {o : Ori} (h : r[t]? = some o) : offR rs r (t + 1) = offR rs r t + (itL (txs rs) o).length := by
  unfold offR rowT
  rw [List.take_succ, h, Option.toList_some, List.flatMap_append, List.length_append, List.flatMap_singleton]
theorem itL_take {rs : List Row} {k : Nat} {o : Ori} (h : itOk k o) : itL (txs (rs.take k)) o = itL (txs rs) o := by
  cases o with
  | inl c => rfl
  | inr j =>
    have hj : j < k := h
    show (txs (rs.take k)).getD j [] = (txs rs).getD j []
    rw [txs_take, List.getD_eq_getElem?_getD, List.getD_eq_getElem?_getD, List.getElem?_take, if_pos hj]
theorem rowT_take {rs : List Row} {k : Nat} {r : Row} (h : ∀ o ∈ r, itOk k o) : rowT (txs (rs.take k)) r = rowT (txs rs) r := by
  unfold rowT
  rw [List.flatMap_def, List.flatMap_def]
  congr 1
  exact List.map_congr_left fun o ho => itL_take (h o ho)
/-- a row's place, and its length, are within the last one's -/
theorem Occ.fits {rs : List Row} (rok : Rok rs) (sml : Small rs) {j p : Nat} (h : Occ rs j p) : ∃ t, (∀ y, (txs rs)[j]? = some y → p + y.length ≤ t) ∧ t ≤ 300 := by
  induction h with
  | last =>
    cases e : (txs rs)[rs.length - 1]? with
    | none => exact ⟨0, fun y hy => (by cases hy), by decide⟩
    | some z => exact ⟨z.length, fun y hy => (by cases hy; omega), sml z (List.mem_of_getElem? e)⟩
  | @step i p t j r a b c ih =>
    obtain ⟨u, h1, h2⟩ := ih
    refine ⟨u, fun y hy => ?_, h2⟩
    have h3 := h1 _ (txs_at b)
    rw [rowT_take (rok i r b).2.2] at h3
    have e1 : itL (txs rs) (.inr j) = y := by
      show (txs rs).getD j [] = y
      rw [List.getD_eq_getElem?_getD, hy]
      rfl
    have e2 : offR rs r (t + 1) ≤ (rowT (txs rs) r).length := by
      unfold offR rowT
      conv => rhs; rw [← List.take_append_drop (t + 1) r, List.flatMap_append, List.length_append]
      omega
    have e3 := offR_succ (rs := rs) c
    rw [e1] at e3
    omega
theorem Occ.at_ {rs : List Row} (h1 : 1 ≤ rs.length) (rok : Rok rs) {j p : Nat} (h : Occ rs j p) : j < rs.length := by
  induction h with
  | last => omega
  | step a b c ih =>
    have := (rok _ _ b).2.2 _ (List.mem_of_getElem? c)
    have h : _ < _ := this
    omega
theorem Occ.le {rs : List Row} (h1 : 1 ≤ rs.length) (rok : Rok rs) (sml : Small rs) {j p : Nat} (h : Occ rs j p) : p < 301 := by
  obtain ⟨t, a, b⟩ := h.fits rok sml
  have hj := h.at_ h1 rok
  have := a _ (List.getElem?_eq_getElem (by rw [txs_len]; exact hj))
  omega
end L2

set_option Elab.async false
set_option linter.all false
set_option maxRecDepth 100000
set_option maxHeartbeats 1000000
namespace L2
open PySem PySem.Spec PyProof.Rows TL
end L2

set_option Elab.async false
set_option linter.all false
set_option maxRecDepth 100000
set_option maxHeartbeats 1000000
namespace L2
open PySem PySem.Spec PyProof.Rows TL
/-! ### dicts in a row -/
def Dcs (x : Nat → Prop) (H : Hp) (ds : List Addr) (S : Nat → Nat → Prop) : Prop := ∀ j d, x j → ds[j]? = some d → ∃ kvs, H d = some (.dK kvs) ∧ DicN (S j) kvs
theorem Dcs.iff {x : Nat → Prop} {H : Hp} {ds : List Addr} {S S' : Nat → Nat → Prop} (h : Dcs x H ds S) (e : ∀ j p, S j p ↔ S' j p) : Dcs x H ds S' := fun j d hx hd => by
  obtain ⟨kvs, a, b⟩ := h j d hx hd
  exact ⟨kvs, a, b.iff (e j)⟩
theorem Dcs.kept {x : Nat → Prop} {H H' : Hp} {ds : List Addr} {S : Nat → Nat → Prop} (h : Dcs x H ds S) (k : ∀ d o, H d = some o → (∃ kvs, o = .dK kvs) → H' d = some o) : Dcs x H' ds S := fun j d hx hd => by
  obtain ⟨kvs, a, b⟩ := h j d hx hd
  exact ⟨kvs, k _ _ a ⟨_, rfl⟩, b⟩
theorem nodup_at {α : Type} {ds : List α} (nd : ds.Nodup) {i j : Nat} {d : α} (hi : ds[i]? = some d) (hj : ds[j]? = some d) : i = j := by
  obtain ⟨h1, e1⟩ := List.getElem?_eq_some_iff.mp hi
  obtain ⟨h2, e2⟩ := List.getElem?_eq_some_iff.mp hj
  exact (List.getElem_inj nd).mp (e1.trans e2.symm)
theorem Dcs.put {x : Nat → Prop} {H : Hp} {ds : List Addr} {S : Nat → Nat → Prop} (h : Dcs x H ds S) (nd : ds.Nodup) {j : Nat} {d : Addr} {kvs : List (Key × V)} (hj : ds[j]? = some d) (hk : DicN (S j) kvs) (p : Nat) (v : V) :
    Dcs x (upd H d (.dK (putK kvs (Sum.inl (p : Int)) v))) ds (fun j' q => S j' q ∨ (j' = j ∧ q = p)) := fun j' d' hx hd' => by
  by_cases e : j' = j
  · subst e
    rw [hj] at hd'
    cases hd'
    exact ⟨_, upd_same, (hk.put p v).iff fun q => ⟨fun a => a.elim .inl fun b => .inr ⟨rfl, b⟩, fun a => a.elim .inl fun b => .inr b.2⟩⟩
  · obtain ⟨kv', a, b⟩ := h j' d' hx hd'
    refine ⟨kv', ?_, b.iff fun q => ⟨.inl, fun a => a.elim id fun c => absurd c.1 e⟩⟩
    rw [upd_ne fun ed => e (by subst ed; exact nodup_at nd hd' hj)]
    exact a
/-! ### where rows are put in -/
end L2

set_option Elab.async false
set_option linter.all false
set_option maxRecDepth 100000
set_option maxHeartbeats 1000000
namespace L2
open PySem PySem.Spec PyProof.Rows TL
/-! ### a dict whose keys are numbers -/
structure DicZ (S : Int → Prop) (kvs : List (Key × V)) : Prop where
  nd : (kvs.map (·.1)).Nodup
  mem : ∀ k, k ∈ kvs.map (·.1) ↔ ∃ p : Int, S p ∧ (Sum.inl p : Key) = k
theorem DicZ.nil : DicZ (fun _ => False) [] := ⟨List.nodup_nil, fun k => by simp⟩
theorem DicZ.iff {S S' : Int → Prop} {kvs : List (Key × V)} (h : DicZ S kvs) (e : ∀ p, S p ↔ S' p) : DicZ S' kvs :=
  ⟨h.nd, fun k => (h.mem k).trans ⟨fun ⟨p, a, b⟩ => ⟨p, (e p).mp a, b⟩, fun ⟨p, a, b⟩ => ⟨p, (e p).mpr a, b⟩⟩⟩
theorem DicZ.put {S : Int → Prop} {kvs : List (Key × V)} (h : DicZ S kvs) (p : Int) (v : V) : DicZ (fun q => S q ∨ q = p) (putK kvs (Sum.inl p) v) := by
  obtain ⟨k1, k2⟩ := putK_keys kvs (Sum.inl p) v
  have spl : ∀ k : Key, (∃ q : Int, (S q ∨ q = p) ∧ (Sum.inl q : Key) = k) ↔ (∃ q : Int, S q ∧ (Sum.inl q : Key) = k) ∨ (Sum.inl p : Key) = k := fun k => by
    constructor
    · rintro ⟨q, a | rfl, b⟩
      · exact .inl ⟨q, a, b⟩
      · exact .inr b
    · rintro (⟨q, a, b⟩ | b)
      · exact ⟨q, .inl a, b⟩
      · exact ⟨p, .inr rfl, b⟩
  by_cases hin : (Sum.inl p : Key) ∈ kvs.map (·.1)
  · refine ⟨by rw [k1 hin]; exact h.nd, fun k => ?_⟩
    rw [k1 hin, spl, ← h.mem]
    constructor
    · exact .inl
    · rintro (q | q)
      · exact q
      · rw [← q]; exact hin
  · refine ⟨?_, fun k => ?_⟩
    · rw [k2 hin, List.nodup_append]
      refine ⟨h.nd, List.nodup_cons.mpr ⟨by simp, List.nodup_nil⟩, fun a ha b hb e => ?_⟩
      rw [List.mem_singleton.mp hb] at e
      exact hin (e ▸ ha)
    · rw [k2 hin, List.mem_append, List.mem_singleton, spl, ← h.mem]
      constructor
      · rintro (q | q)
        · exact .inl q
        · exact .inr q.symm
      · rintro (q | q)
        · exact .inl q
        · exact .inr q.symm
def intK : Key → Int
  | .inl i => i
  | .inr _ => 0
theorem DicZ.ints {S : Int → Prop} {kvs : List (Key × V)} (h : DicZ S kvs) : ∃ ns : List Int, kvs.map (·.1) = ns.map Sum.inl ∧ ns.Nodup ∧ ∀ p, p ∈ ns ↔ S p := by
  have kk : ∀ k ∈ kvs.map (·.1), S (intK k) ∧ (Sum.inl (intK k) : Key) = k := fun k hk => by
    obtain ⟨p, a, rfl⟩ := (h.mem k).mp hk
    exact ⟨a, rfl⟩
  refine ⟨(kvs.map (·.1)).map intK, ?_, ?_, fun p => ?_⟩
  · rw [List.map_map]
    conv => lhs; rw [← List.map_id (kvs.map (·.1))]
    exact List.map_congr_left fun k hk => ((kk k hk).2).symm
  · refine List.pairwise_map.mpr (h.nd.imp_of_mem fun {a b} ha hb ne q => ne ?_)
    rw [← (kk a ha).2, ← (kk b hb).2, q]
  · rw [List.mem_map]
    constructor
    · rintro ⟨k, hk, rfl⟩
      exact (kk k hk).1
    · intro hp
      exact ⟨Sum.inl p, (h.mem _).mpr ⟨p, hp, rfl⟩, rfl⟩
/-! ### the pins of rows -/
end L2

set_option Elab.async false
set_option linter.all false
set_option maxRecDepth 100000
set_option maxHeartbeats 1000000
namespace L2
open PySem PySem.Spec PyProof.Rows PySem.W
/-! ### one object as it stands; a code record -/
def objX (a : Addr) (o : Obj) : HO := .ext fun h => h.get? a = some o
def codX (a : Addr) (q : Str) : HO := .ext fun h => h.CodeRec (.ref a) q
theorem HOk.obj {P : Program} {w : World} {H : Hp} {h : Heap} {a : Addr} {o : Obj} (x : HOk P w H h) (e : H a = some (objX a o)) : h.get? a = some o := (x a _ e).1
/-- the table of a def in which one lambda stands: empty, or with the lambda's code -/
structure Tab (q : Str) (pos : Pos) (P : Addr) (H : Hp) : Prop where
  ex : H P = some (objX P (tabObj #[])) ∨ ∃ c', c' ≠ P ∧ H P = some (objX P (tabObj #[rawInt pos.line, rawInt pos.col, .ref c'])) ∧ H c' = some (codX c' q)
theorem Tab.same {q : Str} {pos : Pos} {P : Addr} {H H' : Hp} (t : Tab q pos P H) (s : Same H H') : Tab q pos P H' := by
  rcases t.ex with h | ⟨c, n, h1, h2⟩
  · exact ⟨.inl (s _ _ h)⟩
  · exact ⟨.inr ⟨c, n, s _ _ h1, s _ _ h2⟩⟩
theorem Tab.has {q : Str} {pos : Pos} {P : Addr} {H : Hp} (t : Tab q pos P H) : ∃ ps, H P = some (objX P (tabObj ps)) := by
  rcases t.ex with h | ⟨c, n, h1, h2⟩
  · exact ⟨_, h⟩
  · exact ⟨_, h1⟩
section
variable {X : Cx} {pins : List (Addr × Obj)} {σ : St} {H : Hp} {s : Shared}
end
/-! ### a lambda is made -/
/-- what the def's code object gives -/
structure CodeT (base : Heap) (mg : Str → Option Value) (c P : Addr) : Prop where
  code : CodeHd base c P
  bm : base.BuiltinsAt mg P
section
variable {X : Cx} {pins : List (Addr × Obj)} {σ : St} {H : Hp} {s : Shared}
end
end L2

set_option Elab.async false
set_option linter.all false
set_option maxRecDepth 100000
set_option maxHeartbeats 1000000
namespace L2
open PySem PySem.Spec PyProof.Rows PySem.W
/-! ### a lambda of one parameter y and one free name x is called -/
structure LamScope (y x : Str) (sc : Scope) : Prop where
  kind : sc.kind = .function
  co : sc.isCoroutine = false
  gen : sc.isGenerator = false
  nocell : ∀ z ∈ sc.names, z.2 ≠ .cell
  loc : sc.names.lookup y = some .local
  fre : sc.names.lookup x = some .free
  only : ∀ z ∈ sc.names, z.2 = .free → z.1 = x
  ne : y ≠ x
section
variable {X : Cx} {pins : List (Addr × Obj)} {σ : St} {H : Hp} {s : Shared}
end
end L2

set_option Elab.async false
set_option linter.all false
set_option maxRecDepth 100000
set_option maxHeartbeats 1000000
namespace L2
open PySem PySem.Spec PyProof.Rows PySem.W TL
/-! ### sorted(xs, key=lambda y: ..): whole numbers by texts -/
/-- the texts' order -/
def sLe (x y : Str) : Prop := ¬ (cs y < cs x)
/-- the numbers that come out: the same ones, by their keys -/
structure ByKey (g : Int → Str) (ns ys : List Int) : Prop where
  perm : ys.Perm ns
  sor : ys.Pairwise fun m n => sLe (g m) (g n)
  stb : ∀ k, ns = upInts 0 k → ys.Pairwise fun m n => cs (g m) = cs (g n) → m ≤ n
/-- the setting of a stable sort of numbers by texts: a number stands at its own place at the start -/
@[reducible] def stI : L2S.St := ⟨oneType', strKind, fun p => (numOf p.2).toNat⟩
end L2

set_option Elab.async false
set_option linter.all false
set_option maxRecDepth 100000
set_option maxHeartbeats 1000000
namespace L2
open PySem PySem.Spec PyProof.Rows PySem.W TL
section
variable {X : Cx} {pins : List (Addr × Obj)} {σ : St} {H : Hp} {s : Shared} {E : Value → Shared → Prop}
end
end L2

set_option Elab.async false
set_option linter.all false
set_option maxRecDepth 100000
set_option maxHeartbeats 1000000
namespace L2
open PySem PySem.Spec PyProof.Rows PySem.W TL
section
variable {X : Cx} {pins : List (Addr × Obj)} {σ : St} {H : Hp} {s : Shared} {E : Value → Shared → Prop}
end
end L2

set_option Elab.async false
set_option linter.all false
set_option maxRecDepth 100000
set_option maxHeartbeats 1000000
namespace L2
open PySem PySem.Spec PyProof.Rows PySem.W TL
section
variable {X : Cx}
end
/-! ### a def whose code object is known -/
structure FunC (K : PySem.W.Frag) (mg : Str → Option Value) (x : Str) (st : Stmt) (ps : List Str) (c : Addr) : Prop where
  ex : ∃ (f : Addr) (fd : FuncData), Fun K x x st f fd ∧ mg x = some (.ref f) ∧ Binds K fd ps [] ∧ fd.code = .ref c
end L2

set_option Elab.async false
set_option linter.all false
set_option maxRecDepth 100000
set_option maxHeartbeats 1000000
namespace L2
open PySem PySem.Spec PyProof.Rows PySem.W TL
end L2

set_option Elab.async false
set_option linter.all false
set_option maxRecDepth 100000
set_option maxHeartbeats 1000000
namespace L2
open PySem PySem.Spec PyProof.Rows
/-! ### turns of a text with the point behind -/
/-- the signs turned round from j on -/
def rotL (w : List Nat) (j : Nat) : List Nat := w.drop j ++ w.take j
theorem rotL_len {w : List Nat} {j : Nat} : (rotL w j).length = w.length := by
  unfold rotL
  rw [List.length_append, List.length_drop, List.length_take]
  omega
/-- the text and the point -/
def wh (x : Str) : List Nat := cs x ++ [46]
theorem wh_len {x : Str} : (wh x).length = x.length + 1 := by unfold wh; rw [List.length_append, cs_len]; rfl
def rotS (x : Str) (n : Int) : Str := ⟨(rotL (wh x) n.toNat).toArray⟩
theorem cs_rotS {x : Str} {n : Int} : cs (rotS x n) = rotL (wh x) n.toNat := by unfold rotS cs; rw [List.toList_toArray]
theorem strL_antisymm {a b : List Nat} (h1 : ¬ a < b) (h2 : ¬ b < a) : a = b := by
  have := PyProof.Rows.strKind.total a b (by simpa using h1) (by simpa using h2)
  exact this
/-- sorted lists of the same texts are alike -/
theorem sorted_uniq {as bs : List (List Nat)} (p : as.Perm bs) (ha : as.Pairwise fun x y => ¬ y < x) (hb : bs.Pairwise fun x y => ¬ y < x) : as = bs :=
  List.Perm.eq_of_pairwise (fun a b _ _ h1 h2 => strL_antisymm h2 h1) ha hb p
/-- the last sign of the turn from n on -/
def lstN (w : List Nat) (n : Nat) : Nat := if n = 0 then w.getLastD 0 else w.getD (n - 1) 0
theorem rot_last {w : List Nat} {n : Nat} (h : n < w.length) : (rotL w n).getLast? = some (lstN w n) := by
  unfold rotL lstN
  by_cases h0 : n = 0
  · subst h0
    rw [if_pos rfl, List.drop_zero, List.take_zero, List.append_nil]
    cases w with
    | nil => simp at h
    | cons c r => rw [List.getLastD_eq_getLast?, List.getLast?_cons]; rfl
  · rw [if_neg h0, List.getLast?_append]
    have e : (List.take n w).getLast? = some (w.getD (n - 1) 0) := by
      rw [List.getLast?_eq_getElem?, List.length_take, Nat.min_eq_left (by omega), List.getElem?_take_of_lt (by omega)]
      rw [List.getD_eq_getElem?_getD, List.getElem?_eq_getElem (show n - 1 < w.length by omega)]
      rfl
    rw [e]
    rfl
/-- y is the turned text of x -/
structure Tnd (x : Str) (ys : List Int) (y : Str) : Prop where
  by_ : ByKey (rotS x) (upInts 0 (x.length + 1)) ys
  cs_ : cs y = ys.map fun n => lstN (wh x) n.toNat
theorem mem_up {k : Nat} {n : Int} (h : n ∈ upInts 0 k) : 0 ≤ n ∧ n < k := by
  obtain ⟨i, hi, rfl⟩ := List.mem_map.mp (by unfold upInts at h; exact h)
  have := List.mem_range.mp hi
  constructor <;> omega
theorem ByKey.mem {g : Int → Str} {ns ys : List Int} (h : ByKey g ns ys) {n : Int} (hn : n ∈ ys) : n ∈ ns := h.perm.mem_iff.mp hn
theorem ByKey.in_ {g : Int → Str} {k : Nat} {ys : List Int} (h : ByKey g (upInts 0 k) ys) {n : Int} (hn : n ∈ ys) : 0 ≤ n ∧ n < k := mem_up (h.mem hn)
theorem ByKey.len {g : Int → Str} {k : Nat} {ys : List Int} (h : ByKey g (upInts 0 k) ys) : ys.length = k := by
  rw [h.perm.length_eq]
  unfold upInts
  rw [List.length_map, List.length_range]
/-- the sorted turns -/
theorem ByKey.turns {x : Str} {ys : List Int} (h : ByKey (rotS x) (upInts 0 (x.length + 1)) ys) : (ys.map fun n => rotL (wh x) n.toNat).Pairwise (fun a b => ¬ b < a) ∧ (ys.map fun n => rotL (wh x) n.toNat).Perm ((List.range (x.length + 1)).map (rotL (wh x))) := by
  constructor
  · rw [List.pairwise_map]
    refine h.sor.imp fun {a b} q => ?_
    unfold sLe at q
    rwa [cs_rotS, cs_rotS] at q
  · have := h.perm.map fun n => rotL (wh x) n.toNat
    refine this.trans (List.Perm.of_eq ?_)
    unfold upInts
    rw [List.map_map]
    refine List.map_congr_left fun i _ => ?_
    show rotL (wh x) ((0 : Int) + (i : Int)).toNat = _
    rw [show ((0 : Int) + (i : Int)).toNat = i by omega]
theorem Tnd.last {x : Str} {ys : List Int} {y : Str} (h : Tnd x ys y) : cs y = (ys.map fun n => rotL (wh x) n.toNat).map fun l => l.getLastD 0 := by
  rw [h.cs_, List.map_map]
  refine List.map_congr_left fun n hn => ?_
  have := h.by_.in_ hn
  have e := rot_last (w := wh x) (n := n.toNat) (by rw [wh_len]; omega)
  show _ = (rotL (wh x) n.toNat).getLastD 0
  rw [List.getLastD_eq_getLast?, e]
  rfl
theorem Tnd.uniq {x : Str} {ys zs : List Int} {y z : Str} (h : Tnd x ys y) (h' : Tnd x zs z) : y = z := by
  refine cs_inj ?_
  rw [h.last, h'.last, sorted_uniq (h.by_.turns.2.trans h'.by_.turns.2.symm) h.by_.turns.1 h'.by_.turns.1]
theorem Tnd.len {x : Str} {ys : List Int} {y : Str} (h : Tnd x ys y) : y.length = x.length + 1 := by
  rw [← cs_len, h.cs_, List.length_map, h.by_.len]
end L2

set_option Elab.async false
set_option linter.all false
set_option maxRecDepth 100000
set_option maxHeartbeats 1000000
namespace L2
open PySem PySem.Spec PyProof.Rows
/-! ### xs.insert(i, y), i a place of xs or its length -/
end L2

set_option Elab.async false
set_option linter.all false
set_option maxRecDepth 100000
set_option maxHeartbeats 1000000
namespace L2
open PySem PySem.Spec PyProof.Rows
/-- a table stays when a list changes -/
theorem Tab.off {q : Str} {pos : Pos} {P r : Addr} {H H' : Hp} (t : Tab q pos P H) (o : Off r H H') (hr : ∃ xs, H r = some (.lst xs)) : Tab q pos P H' := by
  obtain ⟨xs, hx⟩ := hr
  rcases t.ex with h | ⟨c, n, h1, h2⟩
  · exact ⟨.inl (o _ _ h fun z => by rw [z, hx] at h; cases h)⟩
  · exact ⟨.inr ⟨c, n, o _ _ h1 (fun z => by rw [z, hx] at h1; cases h1), o _ _ h2 fun z => by rw [z, hx] at h2; cases h2⟩⟩
/-- what is new to the heap at the start may change -/
theorem Off.new {P r : Addr} {H H1 H2 : Hp} (o1 : Off P H H1) (hr : H r = none) (o2 : Off r H1 H2) : Off P H H2 := fun b ob e nb => o2 _ _ (o1 _ _ e nb) (ne_of_none e hr)
theorem Off.free {P l : Addr} {H H1 : Hp} (o : Off P H H1) (h : H1 l = none) (hP : ∃ ps, H1 P = some (objX P (PySem.W.tabObj ps))) : H l = none := by
  cases e : H l with
  | none => rfl
  | some ob =>
    by_cases z : l = P
    · obtain ⟨ps, hps⟩ := hP
      rw [z, hps] at h
      cases h
    · rw [o _ _ e z] at h
      cases h
end L2

set_option Elab.async false
set_option linter.all false
set_option maxRecDepth 100000
set_option maxHeartbeats 1000000
namespace L2
open PySem PySem.Spec PyProof.Rows
/-! ### runs -/
/-- a run begins at i -/
def rb (l : List Nat) (i : Nat) : Bool := decide (i = 0) || !decide (l[i - 1]? = l[i]?)
end L2

set_option Elab.async false
set_option linter.all false
set_option maxRecDepth 100000
set_option maxHeartbeats 1000000
namespace L2
open PySem PySem.Spec PyProof.Rows
/-! ### so many places in parts of 1, 2, 4, .. -/
/-- parts one behind the other: each a pin, or without one -/
def SegOk (p : Nat → Bool) : Nat → List Nat → Prop
  | _, [] => True
  | s, l :: r => (1 ≤ l ∧ ((p s = true ∧ l = 1) ∨ ∀ j, j < l → p (s + j) = false)) ∧ SegOk p (s + l) r
theorem SegOk.app {p : Nat → Bool} : ∀ {s : Nat} {a b : List Nat}, SegOk p s a → SegOk p (s + a.sum) b → SegOk p s (a ++ b)
  | s, [], b, _, h => by simpa using h
  | s, l :: r, b, ⟨h1, h2⟩, h => ⟨h1, SegOk.app h2 (by rw [List.sum_cons] at h; rwa [Nat.add_assoc])⟩
theorem SegOk.free {p : Nat → Bool} : ∀ {s : Nat} {ls : List Nat}, (∀ l ∈ ls, 1 ≤ l) → (∀ j, s ≤ j → j < s + ls.sum → p j = false) → SegOk p s ls
  | s, [], _, _ => trivial
  | s, l :: r, h1, h2 => by
    rw [List.sum_cons] at h2
    exact ⟨⟨h1 l (.head _), .inr fun j hj => h2 (s + j) (by omega) (by omega)⟩, SegOk.free (fun x hx => h1 x (.tail _ hx)) fun j a b => h2 j (by omega) (by omega)⟩
theorem SegOk.get {p : Nat → Bool} : ∀ {s : Nat} {ls : List Nat} {k l : Nat}, SegOk p s ls → ls[k]? = some l → 1 ≤ l ∧ ((p (s + (ls.take k).sum) = true ∧ l = 1) ∨ ∀ j, j < l → p (s + (ls.take k).sum + j) = false)
  | s, l :: r, 0, l', h, e => by
    have e' : l = l' := Option.some.inj e
    subst e'
    simpa using h.1
  | s, l :: r, k + 1, l', h, e => by
    have := SegOk.get (k := k) h.2 e
    rw [List.take_succ_cons, List.sum_cons, ← Nat.add_assoc]
    exact this
  | s, [], k, l', h, e => by simp at e
/-- pins of a text of n signs -/
structure PinsN (n : Nat) (ps : List Nat) (p : Nat → Bool) : Prop where
  up : ps.Pairwise (· < ·)
  lt : ∀ x ∈ ps, x < n
  iff : ∀ i, p i = true ↔ i ∈ ps
theorem up_lt {ps : List Nat} (h : ps.Pairwise (· < ·)) {i j : Nat} (hij : i < j) (hj : j < ps.length) : ps.getD i 0 < ps.getD j 0 := by
  have := List.pairwise_iff_getElem.mp h i j (by omega) hj hij
  rw [List.getD_eq_getElem?_getD, List.getD_eq_getElem?_getD, List.getElem?_eq_getElem (by omega), List.getElem?_eq_getElem hj]
  exact this
/-- no pin between two pins that follow -/
theorem PinsN.between {n : Nat} {ps : List Nat} {p : Nat → Bool} (h : PinsN n ps p) {j : Nat} (i : Nat) (hi : i ≤ ps.length) (h1 : i = 0 ∨ ps.getD (i - 1) 0 < j) (h2 : i < ps.length → j < ps.getD i 0) : p j = false := by
  cases e : p j with
  | false => rfl
  | true =>
    obtain ⟨t, ht⟩ := List.mem_iff_getElem?.mp ((h.iff j).mp e)
    have htl := (List.getElem?_eq_some_iff.mp ht).1
    have et : ps.getD t 0 = j := by rw [List.getD_eq_getElem?_getD, ht]; rfl
    rcases Nat.lt_or_ge t i with q | q
    · rcases h1 with z | z
      · omega
      · rcases Nat.lt_or_ge t (i - 1) with q2 | q2
        · have := up_lt h.up q2 (by omega)
          omega
        · have : t = i - 1 := by omega
          subst this
          omega
    · rcases Nat.lt_or_ge i t with q2 | q2
      · have := up_lt h.up q2 htl
        have := h2 (by omega)
        omega
      · have : t = i := by omega
        subst this
        have := h2 htl
        omega
end L2

set_option Elab.async false
set_option linter.all false
set_option maxRecDepth 100000
set_option maxHeartbeats 1000000
namespace L2
open PySem PySem.Spec PyProof.Rows TL
/-! ### enumerate of a tuple -/
section
variable {prog : Program} {w : World} {A : Around} {E : Value → Shared → Prop} {s : Shared}
end
section
variable {prog : Program} {w : World} {A : Around} {E : Value → Shared → Prop} {s : Shared}
end
end L2

set_option Elab.async false
set_option linter.all false
set_option maxRecDepth 100000
set_option maxHeartbeats 1000000
namespace L2
open PySem PySem.Spec PyProof.Rows
/-- each place without a pin ends a piece that begins behind a pin (or at the beginning) and stood ahead -/
def Gr (c : List Nat) (S : Nat → Prop) (n : Nat) : Prop := ∀ e, e < n → ¬ S e → ∃ b, b ≤ e ∧ (b = 0 ∨ S (b - 1)) ∧ ∃ s', s' < b ∧ sub c s' (e + 1 - b) = sub c b (e + 1 - b)
theorem Gr.more {c : List Nat} {S S' : Nat → Prop} {n : Nat} (h : Gr c S n) (k : ∀ i, S i → S' i) : Gr c S' n := fun e he hn => by
  obtain ⟨b, h1, h2, h3⟩ := h e he fun z => hn (k e z)
  exact ⟨b, h1, h2.imp id (k _), h3⟩
/-! ### pins of a half that comes again -/
end L2

set_option Elab.async false
set_option linter.all false
set_option maxRecDepth 100000
set_option maxHeartbeats 1000000
namespace L2
open PySem PySem.Spec PyProof.Rows
/-! ### how far from the pins -/
def dst (i x : Nat) : Nat := (i - x) + (x - i)
/-- the least distance to a pin -/
def far (ps : List Nat) (i : Nat) : Nat := ((ps.map (dst i)).min?).getD 0
/-- how many times halved until nought -/
def bl (n : Nat) : Nat := if n = 0 then 0 else bl (n / 2) + 1
termination_by n
decreasing_by omega
/-! ### the parts grow with the distance -/
/-- each part a pin, or away from all pins by a power of two that is no less than its length -/
def SegF (ps : List Nat) : Nat → List Nat → Prop
  | _, [] => True
  | s, l :: r => ((s ∈ ps ∧ l = 1) ∨ ∃ q, l ≤ 2 ^ q ∧ ∀ j, j < l → ∀ x ∈ ps, 2 ^ q ≤ dst (s + j) x) ∧ SegF ps (s + l) r
theorem SegF.app {ps : List Nat} : ∀ {s : Nat} {a b : List Nat}, SegF ps s a → SegF ps (s + a.sum) b → SegF ps s (a ++ b)
  | s, [], b, _, h => by simpa using h
  | s, l :: r, b, ⟨h1, h2⟩, h => ⟨h1, SegF.app h2 (by rw [List.sum_cons] at h; rwa [Nat.add_assoc])⟩
theorem SegF.get {ps : List Nat} : ∀ {s : Nat} {ls : List Nat} {k l : Nat}, SegF ps s ls → ls[k]? = some l → (s + (ls.take k).sum ∈ ps ∧ l = 1) ∨ ∃ q, l ≤ 2 ^ q ∧ ∀ j, j < l → ∀ x ∈ ps, 2 ^ q ≤ dst (s + (ls.take k).sum + j) x
  | s, l :: r, 0, l', h, e => by
    have e' : l = l' := Option.some.inj e
    subst e'
    simpa using h.1
  | s, l :: r, k + 1, l', h, e => by
    have := SegF.get (k := k) h.2 e
    rw [List.take_succ_cons, List.sum_cons, ← Nat.add_assoc]
    exact this
  | s, [], k, l', h, e => by simp at e
theorem SegF.of {ps : List Nat} : ∀ {s : Nat} {ls : List Nat}, (∀ k l, ls[k]? = some l → ∃ q, l ≤ 2 ^ q ∧ ∀ j, j < l → ∀ x ∈ ps, 2 ^ q ≤ dst (s + (ls.take k).sum + j) x) → SegF ps s ls
  | s, [], _ => trivial
  | s, l :: r, h => by
    refine ⟨.inr (by simpa using h 0 l rfl), SegF.of fun k l' e => ?_⟩
    have := h (k + 1) l' e
    rwa [List.take_succ_cons, List.sum_cons, ← Nat.add_assoc] at this
/-- a pin is one of the two that follow, or outside -/
theorem PinsN.out {n : Nat} {ps : List Nat} {p : Nat → Bool} (h : PinsN n ps p) {i x : Nat} (hx : x ∈ ps) (hi : i + 1 < ps.length) : x ≤ ps.getD i 0 ∨ ps.getD (i + 1) 0 ≤ x := by
  rcases Nat.lt_or_ge (ps.getD i 0) x with a | a
  · rcases Nat.lt_or_ge x (ps.getD (i + 1) 0) with b | b
    · have := h.between (j := x) (i + 1) (by omega) (.inr (by rw [Nat.add_sub_cancel]; exact a)) fun _ => b
      rw [(h.iff x).mpr hx] at this
      cases this
    · exact .inr b
  · exact .inl a
theorem PinsN.first {n : Nat} {ps : List Nat} {p : Nat → Bool} (h : PinsN n ps p) {x : Nat} (hx : x ∈ ps) : ps.getD 0 0 ≤ x := by
  rcases Nat.lt_or_ge x (ps.getD 0 0) with b | b
  · have := h.between (j := x) 0 (Nat.zero_le _) (.inl rfl) fun _ => b
    rw [(h.iff x).mpr hx] at this
    cases this
  · exact b
theorem PinsN.last {n : Nat} {ps : List Nat} {p : Nat → Bool} (h : PinsN n ps p) {x : Nat} (hx : x ∈ ps) : x ≤ ps.getD (ps.length - 1) 0 := by
  rcases Nat.lt_or_ge (ps.getD (ps.length - 1) 0) x with b | b
  · have := h.between (j := x) ps.length (Nat.le_refl _) (.inr b) fun z => absurd z (Nat.lt_irrefl _)
    rw [(h.iff x).mpr hx] at this
    cases this
  · exact b
/-- where an origin comes from -/
theorem org_at : ∀ {qs : List Prt} {i : Nat} {o : Ori}, (org qs)[i]? = some o → ∃ k q t, qs[k]? = some q ∧ i = ((qs.take k).map pLen).sum + t ∧ (orgP q)[t]? = some o
  | [], i, o, e => by simp [org] at e
  | q :: r, i, o, e => by
    have e1 : org (q :: r) = orgP q ++ org r := by simp [org]
    rw [e1] at e
    rcases Nat.lt_or_ge i (orgP q).length with z | z
    · rw [List.getElem?_append_left z] at e
      exact ⟨0, q, i, rfl, by simp, e⟩
    · rw [List.getElem?_append_right z] at e
      obtain ⟨k, q', t, h1, h2, h3⟩ := org_at e
      refine ⟨k + 1, q', t, h1, ?_, h3⟩
      rw [List.take_succ_cons, List.map_cons, List.sum_cons]
      rw [orgP_len] at z h2
      omega
end L2

set_option Elab.async false
set_option linter.all false
set_option maxRecDepth 100000
set_option maxHeartbeats 3200000
namespace L2
open PySem PySem.Spec PyProof.Rows TL
section
variable {prog : Program} {w : World} {A : Around} {R : Result → Shared → Prop} {I : Addr} {fp wr : List Addr} {G : Array GenState → Array GenState → Prop} {St : Nat → Shared → Prop} {Pv : Nat → Value → Prop}
end
section
variable {prog : Program} {w : World} {A : Around} {E : Value → Shared → Prop} {s : Shared}
end
end L2

set_option Elab.async false
set_option linter.all false
set_option maxRecDepth 100000
set_option maxHeartbeats 1000000
namespace L2
open PySem PySem.Spec PyProof.Rows TL
theorem sub_subs {c : List Nat} {p N i L : Nat} (h : i + L ≤ N) : sub (sub c p N) i L = sub c (p + i) L := by
  unfold sub
  rw [List.drop_take, List.take_take, Nat.min_eq_left (by omega), List.drop_drop]
/-- the texts of the rows, by all of them -/
theorem txs_row {rs : List Row} (rok : Rok rs) {j : Nat} {r : Row} (h : rs[j]? = some r) : (txs rs)[j]? = some (rowT (txs rs) r) := by
  rw [txs_at h, rowT_take (rok j r h).2.2]
theorem rowT_split {acc : List (List Nat)} {r : Row} {t : Nat} {o : Ori} (h : r[t]? = some o) : rowT acc r = rowT acc (r.take t) ++ (itL acc o ++ rowT acc (r.drop (t + 1))) := by
  have e : r = r.take t ++ (o :: r.drop (t + 1)) := by
    obtain ⟨hl, he⟩ := List.getElem?_eq_some_iff.mp h
    have := List.drop_eq_getElem_cons hl
    rw [he] at this
    rw [← this, List.take_append_drop]
  unfold rowT
  conv => lhs; rw [e]
  rw [List.flatMap_append, List.flatMap_cons]
theorem row_sub {rs : List Row} {r : Row} {t : Nat} {o : Ori} (h : r[t]? = some o) {i L : Nat} (hi : i + L ≤ (itL (txs rs) o).length) : offR rs r t + i + L ≤ (rowT (txs rs) r).length ∧ sub (rowT (txs rs) r) (offR rs r t + i) L = sub (itL (txs rs) o) i L := by
  rw [rowT_split (acc := txs rs) h]
  unfold offR
  refine ⟨by rw [List.length_append, List.length_append]; omega, ?_⟩
  rw [sub_right, sub_left hi]
theorem last_at {rs : List Row} {t : List Nat} (ht : (txs rs).getLast? = some t) : (txs rs)[rs.length - 1]? = some t := by
  rw [List.getLast?_eq_getElem?, txs_len] at ht
  exact ht
/-- the text of a row stands where it is met -/
theorem Occ.stand {rs : List Row} (rok : Rok rs) {t : List Nat} (ht : (txs rs).getLast? = some t) {j p : Nat} (h : Occ rs j p) : ∀ y, (txs rs)[j]? = some y → p + y.length ≤ t.length ∧ sub t p y.length = y := by
  induction h with
  | last =>
    intro y hy
    rw [last_at ht] at hy
    cases hy
    refine ⟨by omega, ?_⟩
    unfold sub
    rw [List.drop_zero, List.take_length]
  | @step i p tt j r a b c ih =>
    intro y hy
    obtain ⟨h1, h2⟩ := ih _ (txs_row rok b)
    have ey : itL (txs rs) (.inr j) = y := by
      show (txs rs).getD j [] = y
      rw [List.getD_eq_getElem?_getD, hy]
      rfl
    obtain ⟨h3, h4⟩ := row_sub (rs := rs) c (i := 0) (L := y.length) (by rw [ey]; omega)
    rw [ey, Nat.add_zero] at h4
    rw [Nat.add_zero] at h3
    refine ⟨by omega, ?_⟩
    rw [← sub_subs (N := (rowT (txs rs) r).length) h3, h2, h4]
    unfold sub
    rw [List.drop_zero, List.take_length]
def pinZ (zs : List Int) (i : Nat) : Bool := decide ((i : Int) ∈ zs)
/-! ### a row behind that names the last one alone -/
end L2

set_option Elab.async false
set_option linter.all false
set_option maxRecDepth 100000
set_option maxHeartbeats 1000000
namespace L2
open PySem PySem.Spec PyProof.Rows TL
section
variable {X : Cx}
/-- t[lo:hi] of a tuple of ours, perhaps the whole of it -/
def rSlW2 (K : PySem.W.Frag) : V → Option Int → Option Int → Hp → VK → Prop := fun x lo hi H Q => ∃ a xs, x = .ref a ∧ H a = some (.tup xs) ∧ ∀ (p : Addr) (H' : Hp), H' p = some (.tup (cutV xs lo hi)) → Same H H' → Q (.ref p) H'
theorem sl_tupW2 : SlR X (rSlW2 X.K) := by
  intro pins s σ H x v vl vu lo hi sl Q I rx hs pl pu h
  obtain ⟨a, xs, ex, hx, q⟩ := h
  by_cases hw : HT.sIx xs.length 0 lo = 0 ∧ HT.sIx xs.length xs.length hi = xs.length
  · subst ex
    cases rx
    obtain ⟨its, r, ht, hz⟩ := I.tuple (SqT.of hx)
    have hlen : its.toArray.size = xs.length := by rw [List.size_toArray]; exact r.length.symm
    refine ⟨"tuple", _, PyProof.Rows.slot_tuple_getitem.lookup, ht.typeIs, ?_⟩
    refine getItem_tuple_all ht hs pl pu (by rw [hlen]; exact hw) ⟨.ref a, H, I, rfl, q a H ?_ (Same.refl _)⟩
    rw [cutV_all hw]
    exact hx
  · exact sl_tup pins s σ H x v vl vu lo hi sl Q I rx hs pl pu ⟨a, xs, ex, SqT.of hx, hw, fun p hp => q p _ upd_same (Same.upd_new hp)⟩
end
end L2

set_option Elab.async false
set_option linter.all false
set_option maxRecDepth 100000
set_option maxHeartbeats 1000000
namespace L2
open PySem PySem.Spec PyProof.Rows TL
section
variable {X : Cx}
/-- xs[i:j] = a list -/
def gSlc (to : TE) (tl th : TO) : TG := fun v σ H Q => to σ H fun o H1 => tl σ H1 fun l H2 => th σ H2 fun u H3 => ∃ (a b : Addr) (xs ys : List V) (i j : Int), o = .ref a ∧ v = .ref b ∧ l = some i ∧ u = some j ∧ H3 a = some (.lst xs) ∧ H3 b = some (.lst ys) ∧ a ≠ b ∧ 0 ≤ i ∧ i ≤ j ∧ j ≤ (xs.length : Int) ∧ xs.length + ys.length ≤ sizeLine ∧ Q σ (upd H3 a (.lst (xs.take i.toNat ++ ys ++ xs.drop j.toNat)))
theorem pg_slice {o : Expr} {lo hi : Option Expr} {p2 pos : Pos} {to : TE} {tl th : TO} (ho : PE X o to) (hl : PO X lo tl) (hu : PO X hi th)
    (ha : ∀ v, assign (.Subscript o (.Slice lo hi none p2) pos) X.env v = (do
      let ov ← holding [v] (eval o X.env)
      let iv ← holding [v, ov] (eval (.Slice lo hi none p2) X.env)
      standAt pos
      holding [v, ov, iv] (setItem ov iv v)
      release [iv, v, ov] []) := by intro _; rfl) : PG X (.Subscript o (.Slice lo hi none p2) pos) (gSlc to tl th) := by
  intro pins s σ H v u Q I r h
  rw [ha]
  refine wpAny_bind (wpAny_holding (thn (ho pins s σ H _ I h) fun ov s1 ⟨x, H1, I1, r1, q1⟩ => ?_))
  refine wpAny_bind (wpAny_holding (wpAny_Slice (thn (hl pins s1 σ H1 _ I1 q1) fun vl s2 ⟨l, H2, I2, pl, q2⟩ => thn (hu pins s2 σ H2 _ I2 q2) fun vu s3 ⟨w, H3, I3, pu, q3⟩ => ?_)))
  rw [evalPart_none]
  refine wpAny_pure ?_
  have I4 : Inv X pins σ H3 { s3 with heap := s3.heap.push { cls := .type "slice", data := .fields #[vl, vu, .none] } } := I3.kept (t' := s3.toks) fun b ob q => Heap.get?_push_of_some _ q
  obtain ⟨a, b, xs, ys, i, j, rfl, rfl, rfl, rfl, g1, g2, g3, g4, g5, g6, g7, g8⟩ := q3
  cases r1
  cases r
  obtain ⟨t1, rfl⟩ : ∃ t, vl = .int i t := by cases pl; exact ⟨_, rfl⟩
  obtain ⟨t2, rfl⟩ : ∃ t, vu = .int j t := by cases pu; exact ⟨_, rfl⟩
  refine wpAny_bind (wpAny_standAt (wpAny_bind (wpAny_holding (set_slice I4 g1 g2 g3 (Heap.IsSliceOf.new ..) ⟨t1, rfl⟩ ⟨t2, rfl⟩ g4 g5 g6 g7 fun s5 I5 => ?_))))
  exact wpAny_release ⟨σ, _, I5, g8⟩
end
end L2

set_option Elab.async false
set_option linter.all false
set_option maxRecDepth 100000
set_option maxHeartbeats 1000000
namespace L2
open PySem PySem.Spec PyProof.Rows TL
theorem lpI_at : ∀ {ps : List Prt} {s k : Nat} {p : Prt}, ps[k]? = some p → ((s + ((ps.take k).map pLen).sum + pLen p : Nat) : Int) - 1 ∈ lpI s ps
  | [], s, k, p, h => by simp at h
  | q :: r, s, 0, p, h => by
    have : q = p := Option.some.inj h
    subst this
    exact List.mem_cons.mpr (.inl (by simp))
  | q :: r, s, k + 1, p, h => by
    have := lpI_at (s := s + pLen q) (ps := r) (k := k) (p := p) (by simpa using h)
    refine List.mem_cons.mpr (.inr ?_)
    rw [List.take_succ_cons, List.map_cons, List.sum_cons]
    rw [show s + (pLen q + ((r.take k).map pLen).sum) + pLen p = s + pLen q + ((r.take k).map pLen).sum + pLen p by omega]
    exact this
theorem take_len {ps : List Prt} {k : Nat} {p : Prt} (h : ps[k]? = some p) : ((ps.take k).map pLen).sum + pLen p ≤ sumL ps := sumL_take' h
where
  sumL_take' {ps : List Prt} {i : Nat} {p : Prt} (h : ps[i]? = some p) : sumL (ps.take i) + pLen p ≤ sumL ps := by
    have e : ps = ps.take i ++ (p :: ps.drop (i + 1)) := by
      obtain ⟨hl, he⟩ := List.getElem?_eq_some_iff.mp h
      have := List.drop_eq_getElem_cons hl
      rw [he] at this
      rw [← this, List.take_append_drop]
    conv => rhs; rw [e]
    unfold sumL
    rw [List.map_append, List.map_cons, List.sum_append, List.sum_cons]
    omega
theorem org_part {ps : List Prt} {k : Nat} {p : Prt} (h : ps[k]? = some p) {d : Nat} (hd : d < pLen p) : (org ps)[((ps.take k).map pLen).sum + d]? = (orgP p)[d]? := by
  have e : ps = ps.take k ++ (p :: ps.drop (k + 1)) := by
    obtain ⟨hl, he⟩ := List.getElem?_eq_some_iff.mp h
    have := List.drop_eq_getElem_cons hl
    rw [he] at this
    rw [← this, List.take_append_drop]
  have hl : (org (ps.take k)).length = ((ps.take k).map pLen).sum := org_len _
  have e2 : org ps = org (ps.take k) ++ (orgP p ++ org (ps.drop (k + 1))) := by
    conv => lhs; rw [e]
    unfold org
    rw [List.flatMap_append, List.flatMap_cons]
  rw [e2, List.getElem?_append_right (by omega), hl, Nat.add_sub_cancel_left, List.getElem?_append_left (by rw [orgP_len]; exact hd)]
/-- each piece of a text that a form tells stands over the end of a part -/
theorem Sol.touch {t : List Nat} {rk : Nat → Nat} {ps : List Prt} (sol : Sol t rk (org ps)) {w : List Nat} (hw : 1 ≤ w.length) : ∀ n i, rk i < n → i + w.length ≤ t.length → sub t i w.length = w → ∃ j z, j + w.length ≤ t.length ∧ sub t j w.length = w ∧ z ∈ lpI 0 ps ∧ (j : Int) ≤ z ∧ z < (j : Int) + w.length := by
  intro n
  induction n with
  | zero => intro i h; omega
  | succ n ih =>
    intro i hi h1 h2
    obtain ⟨o, ho⟩ : ∃ o, (org ps)[i]? = some o := ⟨_, List.getElem?_eq_getElem (by rw [sol.len]; omega)⟩
    obtain ⟨k, q, d, k1, k2, k3⟩ := org_at ho
    have hd : d < pLen q := by rw [← orgP_len]; exact (List.getElem?_eq_some_iff.mp k3).1
    have hlp := lpI_at (s := 0) k1
    rw [Nat.zero_add] at hlp
    rcases Nat.lt_or_ge (i + w.length) (((ps.take k).map pLen).sum + pLen q) with z | z
    · match q, hd, k1, k3, z with
      | .inl c, hd, k1, k3, z =>
        have hd : d < 1 := hd
        have z : i + w.length < ((ps.take k).map pLen).sum + 1 := z
        omega
      | .inr (o', m), hd, k1, k3, z =>
        have hd : d < m := hd
        have z : i + w.length < ((ps.take k).map pLen).sum + m := z
        have hor : ∀ e, e < w.length → (org ps)[i + e]? = some (Sum.inr (o' + d + e) : Ori) := fun e he => by
          have := org_part k1 (d := d + e) (by show d + e < m; omega)
          rw [k2, Nat.add_assoc, this]
          show ((List.range m).map fun k => (Sum.inr (o' + k) : Ori))[d + e]? = _
          rw [List.getElem?_map, List.getElem?_range (by omega)]
          rw [Nat.add_assoc]
          rfl
        have hc : ∀ e, e < w.length → o' + d + e < t.length ∧ t[o' + d + e]? = t[i + e]? ∧ rk (o' + d + e) < rk (i + e) := fun e he => sol.cp _ _ (hor e he)
        have hlast := (hc (w.length - 1) (by omega)).1
        have hj : o' + d + w.length ≤ t.length := by omega
        refine ih (o' + d) ?_ hj ?_
        · have := (hc 0 (by omega)).2.2
          rw [Nat.add_zero, Nat.add_zero] at this
          omega
        · refine Eq.trans (?_ : sub t (o' + d) w.length = sub t i w.length) h2
          refine List.ext_getElem? fun e => ?_
          rcases Nat.lt_or_ge e w.length with q | q
          · have := (hc e q).2.1
            unfold sub
            rw [List.getElem?_take_of_lt q, List.getElem?_take_of_lt q, List.getElem?_drop, List.getElem?_drop]
            exact this
          · rw [List.getElem?_eq_none (by rw [sub_len hj]; exact q), List.getElem?_eq_none (by rw [sub_len h1]; exact q)]
    · exact ⟨i, _, h1, h2, hlp, by omega, by omega⟩
theorem Sol.held {t : List Nat} {rk : Nat → Nat} {ps : List Prt} (sol : Sol t rk (org ps)) : ¬ ∃ w, Missed t (pinZ (lpI 0 ps)) w := by
  rintro ⟨w, hw⟩
  obtain ⟨i, i1, i2⟩ := hw.at'
  obtain ⟨j, z, j1, j2, j3, j4, j5⟩ := sol.touch hw.ne (rk i + 1) i (by omega) i1 i2
  have := hw.free j j1 j2 (z.toNat - j) (by omega)
  unfold pinZ at this
  rw [show ((j + (z.toNat - j) : Nat) : Int) = z by omega] at this
  exact absurd j3 (of_decide_eq_false this)
/-! ### following copies -/
inductive Fol (os : List Ori) : Nat → Nat → Nat → Prop where
  | sign {i c : Nat} : os[i]? = some (Sum.inl c) → Fol os i 0 c
  | copy {i j m c : Nat} : os[i]? = some (Sum.inr j) → Fol os j m c → Fol os i (m + 1) c
theorem Fol.uniq {os : List Ori} {i m c : Nat} (h : Fol os i m c) : ∀ {m' c' : Nat}, Fol os i m' c' → m = m' ∧ c = c' := by
  induction h with
  | sign e =>
    intro m' c' h'
    cases h' with
    | sign e' => rw [e] at e'; cases e'; exact ⟨rfl, rfl⟩
    | copy e' _ => rw [e] at e'; cases e'
  | copy e _ ih =>
    intro m' c' h'
    cases h' with
    | sign e' => rw [e] at e'; cases e'
    | copy e' h2 =>
      rw [e] at e'
      cases e'
      obtain ⟨a, b⟩ := ih h2
      exact ⟨by omega, b⟩
theorem Fol.lt {os : List Ori} {i m c : Nat} (h : Fol os i m c) : i < os.length := by
  cases h with
  | sign e => exact (List.getElem?_eq_some_iff.mp e).1
  | copy e _ => exact (List.getElem?_eq_some_iff.mp e).1
theorem Fol.way {os : List Ori} {i m c : Nat} (h : Fol os i m c) : ∃ l : List Nat, l.length = m + 1 ∧ l.Nodup ∧ ∀ x ∈ l, x < os.length ∧ ∃ m', m' ≤ m ∧ Fol os x m' c := by
  induction h with
  | @sign i c e => exact ⟨[i], rfl, by simp, fun x hx => by rw [List.mem_singleton.mp hx]; exact ⟨(Fol.sign e).lt, 0, Nat.le_refl _, .sign e⟩⟩
  | @copy i j m c e h ih =>
    obtain ⟨l, l1, l2, l3⟩ := ih
    have hi := Fol.copy e h
    refine ⟨i :: l, by rw [List.length_cons, l1], List.nodup_cons.mpr ⟨fun q => ?_, l2⟩, fun x hx => ?_⟩
    · obtain ⟨_, m', g1, g2⟩ := l3 i q
      have := (hi.uniq g2).1
      omega
    · rcases List.mem_cons.mp hx with q | q
      · rw [q]
        exact ⟨hi.lt, m + 1, Nat.le_refl _, hi⟩
      · obtain ⟨a, m', b, d⟩ := l3 x q
        exact ⟨a, m', by omega, d⟩
theorem Fol.few {os : List Ori} {i m c : Nat} (h : Fol os i m c) : m < os.length := by
  obtain ⟨l, l1, l2, l3⟩ := h.way
  have := nodup_sub l (List.range os.length) l2 fun x hx => List.mem_range.mpr (l3 x hx).1
  rw [l1, List.length_range] at this
  omega
/-- copies of like signs, be they going round or not -/
structure SolW (t : List Nat) (os : List Ori) : Prop where
  len : os.length = t.length
  sg : ∀ i c : Nat, os[i]? = some (Sum.inl c : Ori) → t[i]? = some c
  cp : ∀ i j : Nat, os[i]? = some (Sum.inr j : Ori) → j < t.length ∧ t[j]? = t[i]?
noncomputable def rkOf (os : List Ori) (i : Nat) : Nat := open Classical in if h : ∃ m c, Fol os i m c then h.choose else 0
theorem rkOf_eq {os : List Ori} {i m c : Nat} (h : Fol os i m c) : rkOf os i = m := by
  have hx : ∃ m c, Fol os i m c := ⟨m, c, h⟩
  unfold rkOf
  rw [dif_pos hx]
  obtain ⟨c', hc⟩ := hx.choose_spec
  exact (hc.uniq h).1
theorem SolW.sol {t : List Nat} {os : List Ori} (h : SolW t os) (all : ∀ i, i < t.length → ∃ m c, Fol os i m c) : Sol t (rkOf os) os := by
  refine ⟨h.len, h.sg, fun i j e => ?_, fun i hi => ?_⟩
  · obtain ⟨a, b⟩ := h.cp i j e
    obtain ⟨m, c, hc⟩ := all j a
    refine ⟨a, b, ?_⟩
    rw [rkOf_eq hc, rkOf_eq (Fol.copy e hc)]
    omega
  · obtain ⟨m, c, hc⟩ := all i hi
    rw [rkOf_eq hc, ← h.len]
    exact hc.few
/-- told as signs, a place needs no more copies -/
theorem Fol.told {os os' : List Ori} (h : ∀ i : Nat, os'[i]? = os[i]? ∨ ∃ c : Nat, os'[i]? = some (Sum.inl c)) {i m c : Nat} (hc : Fol os i m c) : ∃ m' c', Fol os' i m' c' := by
  induction hc with
  | @sign i c e =>
    rcases h i with q | ⟨c', q⟩
    · exact ⟨0, c, .sign (q.trans e)⟩
    · exact ⟨0, c', .sign q⟩
  | @copy i j m c e _ ih =>
    rcases h i with q | ⟨c', q⟩
    · obtain ⟨m', c', g⟩ := ih
      exact ⟨m' + 1, c', .copy (q.trans e) g⟩
    · exact ⟨0, c', .sign q⟩
end L2

set_option Elab.async false
set_option linter.all false
set_option maxRecDepth 100000
set_option maxHeartbeats 4000000
namespace L2
open PySem PySem.Spec PyProof.Rows

/-! ### exceptions of our own classes: how one lies behind a call -/
/-- g: the heap at the entry; h: now. The exception at a and its trace entry are new and not tracked, the entry's flight has ended -/
def Trc (g h : Heap) (H : Hp) (a : Addr) (cls : Value) (dd : Option Addr) : Prop :=
  ∃ (oe : Obj) (vs : Array Value) (T : Addr) (oT : Obj) (ts : Array Value), h.get? a = some oe ∧ oe.cls = cls ∧ oe.dict = dd ∧ oe.data = Data.fields vs ∧ vs[1]? = some (Value.ref T) ∧ T ≠ a ∧
    h.get? T = some oT ∧ oT.data = Data.fields ts ∧ ts[3]? = some Value.none ∧ H a = none ∧ H T = none ∧ g.get? a = none ∧ g.get? T = none
/-- the wish of an exception: its class, its dict, the tracked heap -/
def CXE (P : Program) (w : World) : CXT := fun outer H s E e s' =>
  ∃ (a : Addr) (cls : Value) (dd : Option Addr) (H' : Hp), e = Value.ref a ∧ s'.os = s.os ∧ AllBare s'.gens ∧ Un (frs outer) [] H H' s.heap s'.heap ∧ HOk P w H' s'.heap ∧ Trc s.heap s'.heap H' a cls dd ∧ E cls dd H'

theorem frs_cons {env : Env} {l : List Env} {L : Addr} (h : env.frame = some L) : frs (env :: l) = L :: frs l := by
  unfold frs; rw [List.filterMap_cons, h]
theorem ObjOk.ex {P : Program} {w : World} {H : Hp} {h : Heap} {a : Addr} {o : HO} (x : ObjOk P w H h a o) : ∃ ob, h.get? a = some ob := by
  cases o with
  | lst xs => obtain ⟨_, _, _, _, e⟩ := x; exact ⟨_, e⟩
  | tup xs => obtain ⟨_, _, _, ob, e, _⟩ := x; exact ⟨_, e⟩
  | dK kvs => obtain ⟨_, _, _, _, o, _, _, e, _⟩ := x; exact ⟨_, e⟩
  | dT kvs => obtain ⟨_, _, _, _, o, _, _, e, _⟩ := x; exact ⟨_, e⟩
  | set S n => obtain ⟨o, _, _, _, e, _⟩ := x; exact ⟨_, e⟩
  | ins C dx fs => obtain ⟨_, _, _, e, _⟩ := x; exact ⟨_, e⟩
  | own y => obtain ⟨_, e⟩ := x; exact ⟨_, e⟩
  | xd fs => obtain ⟨_, ⟨_, _, _, e, _⟩, _⟩ := x; exact ⟨_, e⟩
  | rng lo hi => obtain ⟨_, _, _, e⟩ := x; exact ⟨_, e⟩
  | frz ob u => obtain ⟨e, _⟩ := x; exact ⟨_, e⟩
  | tbl ps => exact ⟨_, (show h.get? a = some _ from x)⟩
  | met f y => exact ⟨_, (show h.get? a = some _ from x)⟩
  | ext φ => obtain ⟨_, ⟨_, e⟩, _⟩ := x; exact ⟨_, e⟩
/-- what is tracked stays where all but untracked ones stay -/
theorem HOk.off {P : Program} {w : World} {H : Hp} {h h' : Heap} (ok : HOk P w H h) (l : List Addr) (hl : ∀ b ∈ l, H b = none) (k : ∀ b o, h.get? b = some o → b ∉ l → h'.get? b = some o) : HOk P w H h' := fun a o e =>
  (ok a o e).stay (fun b u hb q => k b u q fun z => by
    rcases hb with rfl | hb
    · rw [hl b z] at e; cases e
    · rw [hl b z] at hb; cases hb) (fun _ q => q) fun _ _ q => q
theorem FunFrames.to {h h' base base' : Heap} : ∀ {l : List Env}, h.FunFrames base l → (∀ b ∈ frs l, base'.get? b = none) → (∀ b o, b ∈ frs l → h.get? b = some o → ∃ sl, h'.get? b = some { o with slots := sl }) → h'.FunFrames base' l := by
  intro l
  induction l with
  | nil => intro _ _ _; trivial
  | cons env r ih =>
    intro hl h1 h2
    obtain ⟨hk, ⟨L, o, hf, hn, ho, hd⟩, hr⟩ := hl
    rw [frs_cons hf] at h1 h2
    obtain ⟨sl, e⟩ := h2 L o List.mem_cons_self ho
    exact ⟨hk, ⟨L, _, hf, h1 L List.mem_cons_self, e, hd⟩, ih hr (fun b hb => h1 b (List.mem_cons_of_mem _ hb)) fun b o hb => h2 b o (List.mem_cons_of_mem _ hb)⟩
/-- behind: the older objects are kept but the frames' slots -/
structure Stays (fs : List Addr) (g h h' : Heap) : Prop where
  keep : ∀ b o o', g.get? b = some o → h.get? b = some o' → b ∉ fs → h'.get? b = some o'
  slot : ∀ b o, b ∈ fs → h.get? b = some o → ∃ sl, h'.get? b = some { o with slots := sl }

/-- all but what stands at ch, of frames all but the slots -/
structure Near (fs ch : List Addr) (h h' : Heap) : Prop where
  keep : ∀ b o, h.get? b = some o → b ∉ fs → b ∉ ch → h'.get? b = some o
  slot : ∀ b o, h.get? b = some o → b ∈ fs → b ∉ ch → ∃ sl, h'.get? b = some { o with slots := sl }
section
variable {M : Model} {A : Around} {env : Env} {outer : List Env} {L e : Addr} {b0 : Heap} {s : Shared} {Q : Unit → Shared → Prop} {E : Value → Shared → Prop} {oe : Obj} {vs : Array Value}
/-- the end of a note: a new entry with no flight -/
def Noted (fs : List Addr) (h : Heap) (e : Addr) (oe : Obj) (h' : Heap) : Prop :=
  ∃ (oe' : Obj) (vs' : Array Value) (T : Addr) (oT : Obj) (ts : Array Value), Near fs [e] h h' ∧ h'.get? e = some oe' ∧ oe'.cls = oe.cls ∧ oe'.dict = oe.dict ∧ oe'.data = Data.fields vs' ∧ vs'[1]? = some (Value.ref T) ∧
    h.get? T = none ∧ h'.get? T = some oT ∧ oT.data = Data.fields ts ∧ ts[3]? = some Value.none
end

section
variable {P : Program} {w : World} {env : Env} {outer : List Env} {a : Addr} {H : Hp} {g h h' : Heap} {oe : Obj}
/-- behind a note: what is tracked, the trace, the older objects -/
theorem Noted.out (n : Noted (frs (env :: outer)) h a oe h') (hf : ∀ b ∈ frs (env :: outer), H b = none) (hok : HOk P w H h) (ha : H a = none) (hga : g.get? a = none) (hea : h.get? a = some oe) (na : a ∉ frs (env :: outer)) (hg : ∀ b o, g.get? b = some o → ∃ o', h.get? b = some o') :
    HOk P w H h' ∧ Trc g h' H a oe.cls oe.dict ∧ Stays (frs (env :: outer)) g h h' := by
  obtain ⟨oe', vs', T, oT, ts, nr, k1, k2, k3, k4, k5, k6, k7, k8, k9⟩ := n
  have hHT : H T = none := by
    cases q : H T with
    | none => rfl
    | some x => obtain ⟨ob, e⟩ := (hok T x q).ex; rw [e] at k6; cases k6
  have hgT : g.get? T = none := by
    cases q : g.get? T with
    | none => rfl
    | some x => obtain ⟨ob, e⟩ := hg T x q; rw [e] at k6; cases k6
  refine ⟨hok.off (a :: frs (env :: outer)) (fun b hb => ?_) fun b o e nb => nr.keep b o e (fun z => nb (List.mem_cons_of_mem _ z)) (fun z => nb (by simp only [List.mem_singleton] at z; subst z; exact List.mem_cons_self)),
    ⟨oe', vs', T, oT, ts, k1, k2, k3, k4, k5, fun z => ?_, k7, k8, k9, ha, hHT, hga, hgT⟩, ⟨fun b o o' e e' nb => nr.keep b o' e' nb fun z => ?_, fun b o hb e => ?_⟩⟩
  · rcases List.mem_cons.mp hb with rfl | hb
    · exact ha
    · exact hf b hb
  · subst z; rw [hea] at k6; cases k6
  · simp only [List.mem_singleton] at z; subst z; rw [hga] at e; cases e
  · by_cases z : b = a
    · subst z
      exact absurd hb na
    · exact nr.slot b o e hb (by simpa using z)
end
end L2

set_option Elab.async false
set_option linter.all false
set_option maxRecDepth 100000
set_option maxHeartbeats 4000000
namespace L2
open PySem PySem.Spec PyProof.Rows

section
variable {P : Program} {w : World} {K : PySem.W.Frag} {mg : Str → Option Value} {base : Heap} {N : List Str} {qual : Str} {scope : Scope} {f : Addr} {cd : Value} {A : Around} {outer : List Env} {s : Shared} {H : Hp} {E E' : XK}
end

/-! ### our classes of exceptions -/
theorem OwnTail.has {h : Heap} {bmB bm : List Value} {v : Value} (t : OwnTail h bmB bm) (c : bmB.contains v = true) : bm.contains v = true := by
  induction t with
  | base => exact c
  | own _ _ _ _ ih =>
    rw [List.contains_cons, ih, Bool.or_true]
theorem OwnTail.kept {h h' : Heap} {bmB bm : List Value} (t : OwnTail h bmB bm) (k : ∀ b o, h.get? b = some o → h'.get? b = some o) : OwnTail h' bmB bm := by
  induction t with
  | base => exact .base
  | own a b c _ ih => exact .own (k _ _ a) (b.keeps k) c ih
/-- x is our exception class at C, without an __init__ of its own or of its bases -/
structure ExC (K : PySem.W.Frag) (mg : Str → Option Value) (x : Str) (C : Addr) : Prop where
  glob : mg x = some (.ref C)
  exc : PySem.W.excIn K C [Value.type "ValueError", Value.type "Exception", Value.type "BaseException", Value.type "object"] "ValueError.__new__" = true
/-- what X wants of an exception: E of its class, its dict and the tracked heap -/
structure Flies (X : Cx) (E : XK) : Prop where
  made : ∀ (pins : List (Addr × Obj)) (σ : St) (H1 : Hp) (s1 : Shared) (a : Addr) (oe : Obj) (vs : Array Value), Inv X pins σ H1 s1 → s1.heap.get? a = some oe → oe.data = Data.fields vs → vs[1]? = some Value.none → H1 a = none → X.s_0.heap.get? a = none →
    E oe.cls oe.dict H1 → X.xe (.ref a) s1
  pass : ∀ E' : XK, (∀ c a H, E' c a H → E c a H) → Passes (CXE X.prog X.w) X E'
  own : PassesOwn (model X.prog X.w) X.A X.env X.xe
section
variable {X : Cx}
end
end L2

set_option Elab.async false
set_option linter.all false
set_option maxRecDepth 100000
set_option maxHeartbeats 4000000
namespace L2
open PySem PySem.Spec PyProof.Rows

/-! ### defs and methods that raise -/
structure CalX (P : Program) (w : World) (K : PySem.W.Frag) (mg : Str → Option Value) (base : Heap) (k : Nat) (x : Str) (ps : List Str) (sp : Sp) : Prop where
  ex : ∃ (f : Addr) (fd : FuncData), FnOk P w K mg base (CXE P w) k f fd ps sp ∧ mg x = some (.ref f) ∧ PySem.W.keepIn K (.ref f) = true ∧ Binds K fd ps []
structure CalMX (P : Program) (w : World) (K : PySem.W.Frag) (mg : Str → Option Value) (base : Heap) (k : Nat) (C : Addr) (m : Str) (ps : List Str) (sp : Sp) : Prop where
  ex : ∃ (f : Addr) (fd : FuncData), FnOk P w K mg base (CXE P w) k f fd ps sp ∧ Meth K C m f ∧ Binds K fd ps []
section
variable {P : Program} {w : World} {K : PySem.W.Frag} {mg : Str → Option Value} {base : Heap}
theorem CalX.mono {x : Str} {ps : List Str} {j k : Nat} {sp : Sp} (c : CalX P w K mg base j x ps sp) (h : j ≤ k) : CalX P w K mg base k x ps sp := by
  obtain ⟨f, fd, F, m, kp, b⟩ := c.ex
  exact ⟨f, fd, F.mono h, m, kp, b⟩
theorem CalMX.mono {C : Addr} {x : Str} {ps : List Str} {j k : Nat} {sp : Sp} (c : CalMX P w K mg base j C x ps sp) (h : j ≤ k) : CalMX P w K mg base k C x ps sp := by
  obtain ⟨f, fd, F, m, b⟩ := c.ex
  exact ⟨f, fd, F.mono h, m, b⟩
end
section
variable {X : Cx}
/-! ### try: what comes to the clause -/
end
end L2

set_option Elab.async false
set_option linter.all false
set_option maxRecDepth 100000
set_option maxHeartbeats 4000000
namespace L2
open PySem PySem.Spec PyProof.Rows

/-- an exception is told by its class and its dict -/
def excO (a : Addr) (cls : Value) (dd : Option Addr) : HO := .ext fun h => ∃ o vs, h.get? a = some o ∧ o.cls = cls ∧ o.dict = dd ∧ o.data = Data.fields vs
theorem Un.stay {fs : List Addr} {H H' : Hp} {g h h' : Heap} (u : Un fs [] H H' g h) (st : Stays fs g h h') : Un fs [] H H' g h' := by
  have nx : ∀ b : Addr, b ∉ ([] : List Addr) := fun b z => nomatch z
  refine ⟨fun b o e n nb _ => st.keep b o o e (u.keep b o e n nb (nx b)) nb, fun b o e n hb _ => ?_, u.free, fun b o e _ => ?_, u.tups, u.frzs, u.tbls⟩
  · obtain ⟨sl, e1⟩ := u.slot b o e n hb (nx b)
    obtain ⟨sl2, e2⟩ := st.slot b _ hb e1
    exact ⟨sl2, e2⟩
  · obtain ⟨o1, e1⟩ := u.there b o e (nx b)
    by_cases hb : b ∈ fs
    · obtain ⟨sl, e3⟩ := st.slot b o1 hb e1
      exact ⟨_, e3⟩
    · exact ⟨o1, st.keep b o o1 e e1 hb⟩
/-! ### try .. except X as n -/
section
variable {X : Cx} {pins : List (Addr × Obj)}
end
end L2

set_option Elab.async false
set_option linter.all false
set_option maxRecDepth 100000
set_option maxHeartbeats 4000000
namespace L2
open PySem PySem.Spec PyProof.Rows
/-- within the clause's suite -/
abbrev Cx.held (X : Cx) (a : Addr) : Cx := { X with A := X.A.mark (some (.ref a)), calm := false, xe := fun _ _ => False }
theorem Cx.Ok.held {X : Cx} (ok : X.Ok) (a : Addr) : (X.held a).Ok :=
  ⟨ok.mod, ok.kind, ok.glob, ok.blt, ok.above, ok.inj, ok.has, ok.cab, (fun z => Bool.noConfusion z), ok.frames, ok.stk, ok.exf, ok.bs, ok.bsz, ok.noex, ok.exfs, ok.funs, ok.frf⟩
section
variable {X : Cx} {pins : List (Addr × Obj)} {σ : St} {H : Hp} {s : Shared} {a : Addr}
theorem Inv.held (I : Inv X pins σ H s) (a : Addr) : Inv (X.held a) pins σ H s := ⟨I.ok.held a, I.os, I.bare, I.base, I.loc, I.cell, I.free, I.freeC, I.pin, I.hok, I.len⟩
end
end L2

set_option Elab.async false
set_option linter.all false
set_option maxRecDepth 100000
set_option maxHeartbeats 4000000
namespace L2
open PySem PySem.Spec PyProof.Rows PySem.W

/-! ### attributes of exceptions of our classes -/
section
variable {prog : Program} {w : World} {M : Model} {A : Around} {E : Value → Shared → Prop} {s : Shared} {K : Frag} {x C : Addr} {ox : Obj} {od : Option Obj} {name : Str} {tk : Tok}
/-- what is read of the instance by its class's __getattribute__ -/
structure ExA (K : Frag) (C : Addr) : Prop where
  ga : findIn K (.ref C) "__getattribute__" = some (some (.builtin "BaseException.__getattribute__"))
  no : findIn K (.ref C) "__getattr__" = some none
  sub : subIn K (.ref C) (.type "BaseException") = some true
end

/-! ### isinstance of exceptions -/
structure ExK (K : Frag) (C : Addr) : Prop extends ExA K C where
  cls : findIn K (.ref C) "__class__" = some (some (.builtin "object.__class__"))
  get : specialIn K (.builtin "object.__class__") "__get__" = some (some (.builtin "getset_descriptor.__get__"))
  tk : takesIn K (.builtin "object.__class__") = some true
  mro : mroIn K C (.type "object") = some true
  isc : (clsIn K C).isSome = true
  kit : kitCls K (.ref C) (.ref C) = some true
/-- isinstance(x, c): x None or an exception of ours, c one class or a tuple of classes -/
inductive ExV (K : Frag) (H : Hp) : V → Value → Prop where
  | non : ExV K H .non (.type "NoneType")
  | exc {a C : Addr} {dd : Option Addr} (k : ExK K C) (e : H a = some (excO a (.ref C) dd)) (d : dd = none ∨ ∃ dx fs, dd = some dx ∧ H dx = some (.xd fs)) : ExV K H (.ref a) (.ref C)
section
variable {X : Cx}
end
end L2

set_option Elab.async false
set_option linter.all false
set_option maxRecDepth 100000
set_option maxHeartbeats 4000000
namespace L2
open PySem PySem.Spec PyProof.Rows PySem.W
/-- where our classes of exceptions stand -/
structure Ads where
  PinError : Addr
  TooMany : Addr
  NoTurned : Addr
  NoRow : Addr
  GoesRound : Addr
  Missed : Addr
  NoText : Addr
structure ExG (mg : Str → Option Value) (d : Ads) : Prop where
  g_PinError : mg "PinError" = some (.ref d.PinError)
  g_TooMany : mg "TooMany" = some (.ref d.TooMany)
  g_NoTurned : mg "NoTurned" = some (.ref d.NoTurned)
  g_NoRow : mg "NoRow" = some (.ref d.NoRow)
  g_GoesRound : mg "GoesRound" = some (.ref d.GoesRound)
  g_Missed : mg "Missed" = some (.ref d.Missed)
  g_NoText : mg "NoText" = some (.ref d.NoText)
/-- the class at C, of which an exception is raised: P its base, os the others -/
structure ExR (K : Frag) (C P : Addr) (os : List Addr) : Prop where
  k : ExK K C
  m : exmOne K (.ref C) (.ref P) = some true
  no : kitAny K (.ref C) (os.map Value.ref) = some false
  yes : kitOne K (.ref C) (.ref C) = some true
  v : kitOne K (.ref C) (.type "ValueError") = some true
section
variable {X : Cx}
end
end L2

set_option Elab.async false
set_option linter.all false
set_option maxRecDepth 100000
set_option maxHeartbeats 4000000
namespace L2
open PySem PySem.Spec PyProof.Rows TL
theorem mul_tupN (l : Addr) (items : Array Value) (n : Nat) (dd : Option Addr) (sl : Array (Option Value)) (u : Tok) (m : Int) (h1 : ¬ (decide (m < -2 ^ 63) || decide (m ≥ 2 ^ 63)) = true) (h2 : ¬ (items.isEmpty || m == 1) = true) (h3 : ¬ (decide (m ≤ 0) || items.isEmpty) = true)
    (h4 : ¬ (items.size : Int) * m > (2 ^ 63 - 1) / 8) (h5 : ¬ Builtin.Tuple.tupleTooMany ((items.size : Int) * m) = true) (h6 : (List.foldl (fun x1 x2 => x1 ++ x2) #[] (List.replicate m.toNat items)).size ≤ sizeLine) :
    Meets (Builtin.«tuple.__mul__» ⟨[.ref l, .int m u], []⟩) (fun _ R s => s.heap.get? l = some { cls := .type "tuple", dict := dd, data := .seq items n, slots := sl } ∧
      R (.ok (.ret (Value.ref s.heap.objs.size))) { s with heap := s.heap.push { cls := Value.type "tuple", data := Data.seq (List.foldl (fun x1 x2 => x1 ++ x2) #[] (List.replicate m.toNat items)) }, toks := s.toks }) :=
  .of_wp fun prog w A R s h => by
    obtain ⟨hp, g, d, tk, os⟩ := s; obtain ⟨hl, h⟩ := h; have f1 := AutoSeq1.idx_int; have f2 := AutoSeq1.sub_tuple_tuple
    wp_walk using wpAny_loadPart' hl
    rw [if_neg h1]
    wp_walk using wpAny_loadPart' hl
    rw [if_neg h4]
    wp_walk using wpAny_loadPart' hl
    try (rw [if_neg h5]; wp_walk using wpAny_loadPart' hl)
    exact ⟨_, rfl, h⟩
theorem foldl_repA {α : Type} (l : List α) : ∀ (n : Nat) (a : Array α), (List.foldl (fun x1 x2 => x1 ++ x2) a (List.replicate n l.toArray)) = a ++ (List.replicate n l).flatten.toArray
  | 0, a => by simp
  | n + 1, a => by
    rw [List.replicate_succ, List.foldl_cons, foldl_repA l n, List.replicate_succ, List.flatten_cons]
    simp
/-- xs * n of a tuple, n from 2 on -/
def rRepT : R2 := fun x y H Q => ∃ (a : Addr) (xs : List V) (n : Int), x = .ref a ∧ y = .int n ∧ H a = some (.tup xs) ∧ 2 ≤ n ∧ n ≤ 100000 ∧ 1 ≤ xs.length ∧ xs.length * n.toNat ≤ 100000 ∧ ∀ (p : Addr), H p = none → Q (.ref p) (upd H p (.tup (List.replicate n.toNat xs).flatten))
theorem op_repT {X : Cx} : OpR X (binaryOp .Mult) rRepT := by
  intro pins s σ H x y v u Q I rx ry h
  obtain ⟨a, xs, n, rfl, rfl, ha, h1, h2, h3, h4, q⟩ := h
  cases rx
  obtain ⟨t, rfl⟩ := ry
  obtain ⟨its, r1, p1, _⟩ := I.tuple (SqT.of ha)
  obtain ⟨⟨c, dd, dt, sl⟩, ho, hc, k, hd⟩ := p1
  replace hc : c = .type "tuple" := hc
  replace hd : dt = .seq its.toArray k := hd
  subst hc hd
  have hl := r1.length
  have hS : sizeLine = 16777216 := szl
  have hsz : (its.toArray.size : Int) * n ≤ 100000 := by
    rw [List.size_toArray, ← hl]
    obtain ⟨m, rfl⟩ := Int.eq_ofNat_of_zero_le (show 0 ≤ n by omega)
    have h4 : xs.length * m ≤ 100000 := h4
    have := Int.ofNat_le.mpr h4
    rw [Int.natCast_mul] at this
    exact this
  have hne : its.toArray.isEmpty = false := by
    cases its with
    | nil => rw [hl] at h3; simp at h3
    | cons _ _ => rfl
  have e0 := foldl_repA its n.toNat #[]
  rw [show (#[] : Array Value) ++ (List.replicate n.toNat its).flatten.toArray = (List.replicate n.toNat its).flatten.toArray by simp] at e0
  have hlen : (List.replicate n.toNat its).flatten.length = n.toNat * its.length := len_rep _ _
  refine wpAny_binaryOp_repeat_ref (T := "tuple") (U := "int") (by decide) ⟨_, ho, rfl⟩ (fun s' => typeIs_int s' n t) noFill_tuple_mul F.fills_int_mul F.slot_int_rmul repeat_tuple F.slot_int_index.lookup
    (call_meets F.slot_int_rmul (typeIs_int s n t) F.entry_int_rmul (F.args_int_rmul_2 _ _) (rmul_tup n t a _ k dd sl)
      ⟨ho, rfl, ⟨_, ho, rfl⟩, call_meets F.slot_tuple_mul ⟨_, ho, rfl⟩ F.entry_tuple_mul (F.args_tuple_mul_2 _ _) (mul_tupN a its.toArray k dd sl t n ?_ ?_ ?_ ?_ ?_ ?_) ⟨ho, ?_⟩⟩)
  · intro z
    have p63 : (2 : Int) ^ 63 = 9223372036854775808 := by decide
    rw [p63, Bool.or_eq_true] at z
    rcases z with z | z
    · have z := of_decide_eq_true z
      omega
    · have z := of_decide_eq_true z
      omega
  · intro z
    rw [hne, Bool.false_or, beq_iff_eq] at z
    omega
  · intro z
    rw [hne, Bool.or_false] at z
    have z := of_decide_eq_true z
    omega
  · have p63 : ((2 : Int) ^ 63 - 1) / 8 = 1152921504606846975 := by decide
    rw [p63]
    omega
  · unfold Builtin.Tuple.tupleTooMany
    intro z
    have z := of_decide_eq_true z
    rw [hS] at z
    omega
  · rw [e0, List.size_toArray, hlen, ← hl, Nat.mul_comm, hS]; omega
  · rw [e0]
    exact ⟨.ref _, _, I.laid (t' := s.toks) (o := .tup (List.replicate n.toNat xs).flatten) (fun b ob q => Heap.get?_push_of_some _ q) (Nat.le_refl _) ⟨by rw [len_rep, hS, Nat.mul_comm]; omega, _, r1.rep n.toNat, IsTup.new _ _⟩, rfl, q _ (I.hok.fresh (Nat.le_refl _))⟩
end L2

set_option Elab.async false
set_option linter.all false
set_option maxRecDepth 100000
set_option maxHeartbeats 4000000
namespace L2
open PySem PySem.Spec PyProof.Rows TL HT
section
variable {prog : Program} {w : World} {A : Around} {E : Value → Shared → Prop} {s : Shared}
end
end L2

set_option Elab.async false
set_option linter.all false
set_option maxRecDepth 100000
set_option maxHeartbeats 4000000
namespace L2
open PySem PySem.Spec PyProof.Rows TL HT
/-- t + u of tuples of ours, whichever of them is empty -/
def rCatW (K : PySem.W.Frag) : R2 := fun x y H Q => ∃ (a b : Addr) (xs ys : List V), x = .ref a ∧ y = .ref b ∧ H a = some (.tup xs) ∧ H b = some (.tup ys) ∧ xs.length + ys.length ≤ 100000 ∧ ∀ (p : Addr) (H' : Hp), H' p = some (.tup (xs ++ ys)) → Same H H' → Q (.ref p) H'
theorem op_catW {X : Cx} : OpR X (binaryOp .Add) (rCatW X.K) := by
  intro pins s σ H x y v u Q I rx ry h
  obtain ⟨a, b, xs, ys, ex, ey, ha, hb, hz, q⟩ := h
  refine op_catT0 pins s σ H x y v u Q I rx ry ⟨a, b, xs, ys, ex, ey, SqT.of ha, SqT.of hb, by rw [szl]; omega, fun e => ?_, fun _ e => ?_, fun _ _ p hp => q p _ upd_same (Same.upd_new hp)⟩
  · subst e
    exact q b H hb (.refl _)
  · subst e
    exact q a H (by rw [List.append_nil]; exact ha) (.refl _)
end L2

set_option Elab.async false
set_option linter.all false
set_option maxRecDepth 100000
set_option maxHeartbeats 4000000
namespace L2
open PySem PySem.Spec PyProof.Rows TL
theorem mul_tupZ (l : Addr) (items : Array Value) (n : Nat) (dd : Option Addr) (sl : Array (Option Value)) (u : Tok) (h2 : ¬ (items.isEmpty || (0 : Int) == 1) = true) :
    Meets (Builtin.«tuple.__mul__» ⟨[.ref l, .int 0 u], []⟩) (fun _ R s => s.heap.get? l = some { cls := .type "tuple", dict := dd, data := .seq items n, slots := sl } ∧
      R (.ok (.ret (Value.ref s.heap.objs.size))) { s with heap := s.heap.push { cls := Value.type "tuple", data := Data.seq #[] }, toks := s.toks }) :=
  .of_wp fun prog w A R s h => by
    obtain ⟨hp, g, d, tk, os⟩ := s; obtain ⟨hl, h⟩ := h; have f1 := AutoSeq1.idx_int; have f2 := AutoSeq1.sub_tuple_tuple
    wp_walk using wpAny_loadPart' hl
    try (rw [if_neg (by decide)]; wp_walk using wpAny_loadPart' hl)
    try (rw [if_neg h2]; wp_walk using wpAny_loadPart' hl)
    exact ⟨_, rfl, h⟩
/-- xs * n of a tuple of ours, n from 0 on -/
def rRepTA : R2 := fun x y H Q => ∃ (a : Addr) (xs : List V) (n : Int), x = .ref a ∧ y = .int n ∧ H a = some (.tup xs) ∧ 0 ≤ n ∧ n ≤ 100000 ∧ 1 ≤ xs.length ∧ xs.length * n.toNat ≤ 100000 ∧ ∀ (p : Addr) (H' : Hp), H' p = some (.tup (List.replicate n.toNat xs).flatten) → Same H H' → Q (.ref p) H'
theorem op_repTA {X : Cx} : OpR X (binaryOp .Mult) rRepTA := by
  intro pins s σ H x y v u Q I rx ry h
  obtain ⟨a, xs, n, ex, ey, ha, h1, h2, h3, h4, q⟩ := h
  rcases (by omega : n = 0 ∨ n = 1 ∨ 2 ≤ n) with e | e | e
  · subst e ex ey
    cases rx
    obtain ⟨t, rfl⟩ := ry
    obtain ⟨its, r1, p1, _⟩ := I.tuple (SqT.of ha)
    obtain ⟨⟨c, dd, dt, sl⟩, ho, hc, k, hd⟩ := p1
    replace hc : c = .type "tuple" := hc
    replace hd : dt = .seq its.toArray k := hd
    subst hc hd
    have hl := r1.length
    have hne : its.toArray.isEmpty = false := by
      cases its with
      | nil => rw [hl] at h3; simp at h3
      | cons _ _ => rfl
    exact wpAny_binaryOp_repeat_ref (T := "tuple") (U := "int") (by decide) ⟨_, ho, rfl⟩ (fun s' => typeIs_int s' 0 t) noFill_tuple_mul F.fills_int_mul F.slot_int_rmul repeat_tuple F.slot_int_index.lookup
      (call_meets F.slot_int_rmul (typeIs_int s 0 t) F.entry_int_rmul (F.args_int_rmul_2 _ _) (rmul_tup 0 t a _ k dd sl)
        ⟨ho, rfl, ⟨_, ho, rfl⟩, call_meets F.slot_tuple_mul ⟨_, ho, rfl⟩ F.entry_tuple_mul (F.args_tuple_mul_2 _ _) (mul_tupZ a its.toArray k dd sl t (by rw [hne]; decide)) ⟨ho,
          ⟨.ref _, _, I.laid (t' := s.toks) (o := .tup []) (fun b ob q => Heap.get?_push_of_some _ q) (Nat.le_refl _) ⟨by rw [szl]; show 0 ≤ 16777216; decide, [], .nil, IsTup.new _ _⟩, rfl, q _ _ (by rw [upd_same]; rfl) (Same.upd_new (I.hok.fresh (Nat.le_refl _)))⟩⟩⟩)
  · subst e ex ey
    cases rx
    obtain ⟨t, rfl⟩ := ry
    obtain ⟨its, r1, p1, _⟩ := I.tuple (SqT.of ha)
    obtain ⟨⟨c, dd, dt, sl⟩, ho, hc, k, hd⟩ := p1
    replace hc : c = .type "tuple" := hc
    replace hd : dt = .seq its.toArray k := hd
    subst hc hd
    exact wpAny_binaryOp_repeat_ref (T := "tuple") (U := "int") (by decide) ⟨_, ho, rfl⟩ (fun s' => typeIs_int s' 1 t) noFill_tuple_mul F.fills_int_mul F.slot_int_rmul repeat_tuple F.slot_int_index.lookup
      (call_meets F.slot_int_rmul (typeIs_int s 1 t) F.entry_int_rmul (F.args_int_rmul_2 _ _) (rmul_tup 1 t a _ k dd sl)
        ⟨ho, rfl, ⟨_, ho, rfl⟩, call_meets F.slot_tuple_mul ⟨_, ho, rfl⟩ F.entry_tuple_mul (F.args_tuple_mul_2 _ _) (mul_tup1 a _ k dd sl t) ⟨ho, ⟨.ref a, H, I, rfl, q a H (by rw [ha]; simp) (.refl _)⟩⟩⟩)
  · exact op_repT pins s σ H x y v u Q I rx ry ⟨a, xs, n, ex, ey, ha, e, h2, h3, h4, fun p hp => q p _ upd_same (Same.upd_new hp)⟩
end L2

set_option Elab.async false
set_option linter.all false
set_option maxRecDepth 100000
set_option maxHeartbeats 4000000
namespace PySem
open Sem (wp)
section
variable {prog : Program} {w : World} {A : Around} {E : Value → Shared → Prop} {h : Heap} {g : Array GenState} {d : Drawn} {t : Nat} {os : OsState}
variable {nm q : Str} {C N : Addr} {bs bm bmB : List Value} {hdct : Bool} {sn : List Str} {sub : List Value} {ab : Bool} {col : Option Bool} {dd : Option Addr} {k0 k1 k2 k3 k5 : Option Value} {B Bn newId nid initId inN : String} {bmN : List Value}
end
end PySem

set_option Elab.async false
set_option linter.all false
set_option maxRecDepth 100000
set_option maxHeartbeats 4000000
namespace PySem.W
open PySem.Builtin PySem.Builtin.ObjectAttr
def bmV : List Value := [Value.type "ValueError", Value.type "Exception", Value.type "BaseException", Value.type "object"]
def onlyExc : List Value → Bool
  | .ref _ :: r => onlyExc r
  | l => l == bmV
section
variable {prog : Program} {w : World} {A : Around} {s : Shared} {K : Frag} {C x : Addr} {R : Result → Shared → Prop}
end
end PySem.W

set_option Elab.async false
set_option linter.all false
set_option maxRecDepth 100000
set_option maxHeartbeats 4000000
namespace PySem
open Sem (wp)
section
variable {prog : Program} {w : World} {A : Around} {E : Value → Shared → Prop} {h : Heap} {g : Array GenState} {d : Drawn} {t : Nat} {os : OsState}
variable {nm q : Str} {C N : Addr} {bs bm bmB : List Value} {hdct : Bool} {sn : List Str} {sub : List Value} {ab : Bool} {col : Option Bool} {dd : Option Addr} {k0 k1 k2 k3 k5 : Option Value} {B newId nid initId : String}
end
end PySem

set_option Elab.async false
set_option linter.all false
set_option maxRecDepth 100000
set_option maxHeartbeats 4000000
namespace L2
open PySem PySem.Spec PyProof.Rows
section
variable {X : Cx} {pins : List (Addr × Obj)} {σ : St} {H : Hp} {s : Shared}
/-- an untracked object that X lets go is changed -/
theorem Inv.turn {h' : Heap} {t' : Nat} {e : Addr} {ob : Obj} (I : Inv X pins σ H s) (hx : e ∈ X.ex) (hp : ∀ p ∈ X.pn ++ pins, p.1 ≠ e) (hH : H e = none) (k : ∀ b o, b ≠ e → s.heap.get? b = some o → h'.get? b = some o) (he : h'.get? e = some ob) :
    Inv X pins σ H { s with heap := h', toks := t' } := by
  have ne : ∀ b : Addr, b ∉ [e] → b ≠ e := fun b n z => n (by rw [z]; exact List.mem_cons_self)
  refine I.call (ch := [e]) (g' := s.gens) (d' := s.drawn) ⟨fun b o q n nb nx => k b o (ne b nx) q, fun b o q n nb nx => ⟨o.slots, k b o (ne b nx) q⟩, fun b o q n nx => n, fun b o q nx => ⟨o, k b o (ne b nx) q⟩, fun b xs q => q, fun b o u q => q, fun b ps q => ⟨#[], by rw [Array.append_empty]; exact q⟩⟩
    (I.hok.off [e] (fun b hb => by rw [List.mem_singleton.mp hb]; exact hH) fun b o q nb => k b o (ne b nb) q) I.bare fun b hb => ?_
  rw [List.mem_singleton.mp hb]
  exact ⟨.inl hx, (I.ok.exf e hx).1, (I.ok.exf e hx).2, hp⟩
/-- b, a class of ours over ValueError without an __init__ -/
structure ExB (K : PySem.W.Frag) (mg : Str → Option Value) (b : Str) (B : Addr) : Prop where
  glob : mg b = some (.ref B)
  sp : PySem.W.specialIn K (.ref B) "__getattribute__" = some (some (.builtin "type.__getattribute__"))
  rd : PySem.W.readsIn K B (.type "type") = true
  fc : PySem.W.findCls K (.ref B) (.type "type") "__init__" = some (.val (.builtin "ValueError.__init__"))
def bmVE : List Value := [Value.type "ValueError", Value.type "Exception", Value.type "BaseException", Value.type "object"]
/-- the class at C, as it lies in the heap -/
def ExAt (h : Heap) (C : Addr) : Prop := ∃ bm N nm q bs hdct sn sub ab col dd k0 k1 k2 k3 k5, h.get? C = some (excClassObj nm q C N bs bm hdct sn sub ab col dd k0 k1 k2 k3 k5 "ValueError.__new__") ∧ OwnTail h bmVE bm
def eObj (C : Addr) (dx : Option Addr) (t : Addr) : Obj := { cls := .ref C, dict := dx, data := .fields #[.ref t, .none, .none, .none, .bool false, .none] }
/-- a field of our exceptions -/
structure ExF (K : PySem.W.Frag) (C : Addr) (fld : Str) : Prop where
  sa : PySem.W.findIn K (.ref C) "__setattr__" = some (some (.builtin "object.__setattr__"))
  cl : ∃ cd, PySem.W.clsIn K C = some cd ∧ PySem.W.onlyExc cd.mro = true ∧ cd.hasDict = true
  tk : PySem.W.takerIn K C fld = some none
end
end L2

set_option Elab.async false
set_option linter.all false
set_option maxRecDepth 100000
set_option maxHeartbeats 4000000
namespace L2
open PySem PySem.Spec PyProof.Rows
/-- X, which lets e go, and from which nothing flies -/
def cxEx (X : Cx) (e : Addr) : Cx := { X with ex := [e], xe := fun _ _ => False }
section
variable {P : Program} {w : World} {K : PySem.W.Frag} {mg : Str → Option Value} {base : Heap}
abbrev cxI (P : Program) (w : World) (K : PySem.W.Frag) (mg : Str → Option Value) (base : Heap) (N : List Str) (qual : Str) (scope : Scope) (f : Addr) (cd : Value) (A : Around) (outer : List Env) (s : Shared) (H : Hp) (e : Addr) : Cx :=
  cxEx (cxOf CX0 P w K mg base N qual scope f cd A outer s H E0) e
/-- the __init__ of an exception of ours: what its rows do -/
def InitB (P : Program) (w : World) (K : PySem.W.Frag) (mg : Str → Option Value) (base : Heap) (k : Nat) (C f : Addr) (qual : Str) (st : Stmt) (N : List Str) (fld : Str) : Prop :=
  ∀ (cdv : Value) (A : Around) (outer : List Env) (s s1 : Shared) (H : Hp) (e t0 : Addr) (v : V), Room k (A.deeper (envOfC qual (defScope st) s.heap.objs.size f cdv)) → H e = none →
    Inv (cxI P w K mg base N qual (defScope st) f cdv A outer s H e) [] (start N [.ref e, v]) H s1 → s1.heap.get? e = some (eObj C none t0) →
    wpAny (model P w) (A.deeper (envOfC qual (defScope st) s.heap.objs.size f cdv)) (execs (defBody st) (envOfC qual (defScope st) s.heap.objs.size f cdv)) (fun fl s' => fl = .next ∧ ∃ dx t1 σ', s.heap.objs.size ≤ dx ∧ H dx = none ∧
      Inv (cxI P w K mg base N qual (defScope st) f cdv A outer s H e) [] σ' (upd H dx (.xd [(fld, v)])) s' ∧ s'.heap.get? e = some (eObj C (some dx) t1)) (fun _ _ => False) s1
end
end L2

set_option Elab.async false
set_option linter.all false
set_option maxRecDepth 100000
set_option maxHeartbeats 4000000
namespace L2
open PySem PySem.Spec PyProof.Rows
/-- an exception class of ours whose own __init__ is at f -/
def excInI (K : PySem.W.Frag) (C : Addr) (bmB : List Value) (newId : String) (f : Addr) : Bool := match K.lookup C with
  | some ⟨.type "type", _, .cls cd, sl⟩ => (match cd.mro, sl.toList with
    | .ref C' :: bm, [_, _, _, _, some (.builtin n), _] => C' == C && n == newId && !cd.hasDel && PySem.W.tailIn K bmB bm && PySem.W.nsOkIn K cd.ns && PySem.W.nsIn K cd.ns "__init__" == some (some (.ref f))
    | _, _ => false)
  | _ => false
theorem ns_some_of {K : PySem.W.Frag} {h : Heap} {N : Addr} {mg : Str → Option Value} {n : Str} {v : Value} (X : K.In h) (G : h.Ns N mg) (e : PySem.W.nsIn K N n = some (some v)) : mg n = some v := by
  obtain ⟨o, es, ep, ho, hd, _, hf⟩ := G
  unfold PySem.W.nsIn at e
  split at e
  · rename_i c d es' n' sl q
    have := X _ _ q
    rw [ho] at this
    cases this
    cases hd
    split at e
    · rename_i en he
      rw [← hf]
      unfold nsFind findBy
      rw [← Array.find?_toList, he]
      cases e
      rfl
    · split at e <;> cases e
  · cases e
theorem exc_objI {K : PySem.W.Frag} {h : Heap} {C f : Addr} {bmB : List Value} {newId : String} (hK : K.In h) (e : excInI K C bmB newId f = true) : ∃ bm N nm q bs hdct sn sub ab col dd k0 k1 k2 k3 k5 mN,
    h.get? C = some (excClassObj nm q C N bs bm hdct sn sub ab col dd k0 k1 k2 k3 k5 newId) ∧ h.Ns N mN ∧ mN (Str.ofString "__init__") = some (.ref f) ∧ OwnTail h bmB bm := by
  unfold excInI at e
  split at e
  · rename_i dct cdt sl hl
    split at e
    · rename_i C' bm hd0 hd1 hd2 hd3 n hd4 hm hs
      simp only [Bool.and_eq_true, beq_iff_eq, Bool.not_eq_true'] at e
      obtain ⟨⟨⟨⟨⟨rfl, rfl⟩, hdel⟩, htl⟩, hns⟩, hin⟩ := e
      obtain ⟨nm, bs, mro, N, q, hdct, sn, sub, ab, col, del⟩ := cdt
      simp only at hm hdel hns hin
      subst hm hdel
      have hsl : sl = #[hd0, hd1, hd2, hd3, some (Value.builtin n), hd4] := by
        apply Array.ext'
        rw [hs]
      subst hsl
      have hN : h.isNs N = true := PySem.W.isNs_of_in hK hns
      have this : ∃ m, h.Ns N m := ⟨_, PySem.Heap.Ns.of_isNs hN⟩
      obtain ⟨mN, hm⟩ := this
      exact ⟨bm, N, nm, q, bs, hdct, sn, sub, ab, col, dct, hd0, hd1, hd2, hd3, hd4, mN, hK _ _ hl, hm, ns_some_of hK hm hin, PySem.W.tail_of_in hK htl⟩
    · cases e
  · cases e
structure ExI (K : PySem.W.Frag) (mg : Str → Option Value) (x : Str) (C f : Addr) : Prop where
  glob : mg x = some (.ref C)
  exc : excInI K C bmVE "ValueError.__new__" f = true
  fnc : (K.lookup f).map (·.cls) = some (.type "function")
theorem ExI.at {K : PySem.W.Frag} {mg : Str → Option Value} {x : Str} {C f : Addr} {h : Heap} (c : ExI K mg x C f) (hK : K.In h) : ExAt h C := by
  obtain ⟨bm, N, nm, q, bs, hdct, sn, sub, ab, col, dd, k0, k1, k2, k3, k5, mN, o1, _, _, o4⟩ := exc_objI hK c.exc
  exact ⟨bm, N, nm, q, bs, hdct, sn, sub, ab, col, dd, k0, k1, k2, k3, k5, o1, o4⟩
section
variable {X : Cx} {pins : List (Addr × Obj)} {σ : St} {H : Hp} {s : Shared}
/-- an exception of ours, new, with its field -/
def Made (X : Cx) (pins : List (Addr × Obj)) (σ : St) (H : Hp) (s : Shared) (C : Addr) (fld : Str) (v : V) (r : Value) (s' : Shared) : Prop :=
  ∃ e dx t1, r = .ref e ∧ Inv X pins σ (upd H dx (.xd [(fld, v)])) s' ∧ s'.heap.get? e = some (eObj C (some dx) t1) ∧ H e = none ∧ H dx = none ∧ e ≠ dx ∧ s.heap.get? e = none ∧ s.heap.get? dx = none
end
end L2

set_option Elab.async false
set_option linter.all false
set_option maxRecDepth 100000
set_option maxHeartbeats 4000000
namespace PySem
section
variable {M : Model} {A : Around} {E : Value → Shared → Prop} {env : Env}
variable {nm q : Str} {C N : Addr} {bs bm : List Value} {hdct : Bool} {sn : List Str} {sub : List Value} {ab : Bool} {col : Option Bool} {dd : Option Addr} {k0 k1 k2 k3 k5 : Option Value} {newId : String}
end
end PySem
namespace L2
open PySem PySem.Spec PyProof.Rows
section
variable {X : Cx}
end
end L2

set_option Elab.async false
set_option linter.all false
set_option maxRecDepth 100000
set_option maxHeartbeats 4000000
namespace L2
open PySem PySem.Spec PyProof.Rows
/-- the class x at C, its own __init__ written as st, one field -/
structure FunX (K : PySem.W.Frag) (mg : Str → Option Value) (x : Str) (C : Addr) (fld qual : Str) (st : Stmt) (ps : List Str) : Prop where
  ex : ∃ (f : Addr) (fd : FuncData), ExI K mg x C f ∧ Fun K "__init__" qual st f fd ∧ Binds K fd ps [] ∧ ExF K C fld
/-- an exception of ours that takes its field -/
structure ExcI (P : Program) (w : World) (K : PySem.W.Frag) (mg : Str → Option Value) (base : Heap) (k : Nat) (x : Str) (C : Addr) (fld : Str) : Prop where
  ex : ∃ (f : Addr) (fd : FuncData) (qual : Str) (st : Stmt) (N ps : List Str), ExI K mg x C f ∧ Fun K "__init__" qual st f fd ∧ FnScope N ps (defScope st) ∧ ps.length = 2 ∧ (∀ n, cellsFrom n (defScope st).names [] = []) ∧ InitB P w K mg base k C f qual st N fld ∧ Binds K fd ps []
section
variable {X : Cx}
/-- what is wanted to read a field of our exceptions -/
structure ExR1 (K : PySem.W.Frag) (C : Addr) (fld : Str) : Prop where
  ea : ExA K C
  cl : ∃ cd, PySem.W.clsIn K C = some cd ∧ cd.hasDict = true
  no : PySem.W.findIn K (.ref C) fld = some none
end
end L2

set_option Elab.async false
set_option linter.all false
set_option maxRecDepth 100000
set_option maxHeartbeats 4000000
namespace L2
open PySem PySem.Spec PyProof.Rows
section
variable {X : Cx} {pins : List (Addr × Obj)} {σ : St} {H : Hp} {s : Shared}
end
end L2

set_option Elab.async false
set_option linter.all false
set_option maxRecDepth 100000
set_option maxHeartbeats 1000000
namespace L2
open PySem PySem.Spec PyProof.Rows
/-! ### the ends of runs of the sorted turns hold -/
/-- the starts of the sorted turns, by rows -/
structure Rws2 (x : Str) (ys : List Int) (st : Nat → Nat) : Prop where
  at_ : ∀ r, r ≤ x.length → ys[r]? = some ((st r : Nat) : Int)
  le : ∀ r, r ≤ x.length → st r ≤ x.length
  on : ∀ s, s ≤ x.length → ∃ r, r ≤ x.length ∧ st r = s
  up : ∀ r t, r ≤ t → t ≤ x.length → ¬ rotL (wh x) (st t) < rotL (wh x) (st r)
end L2

set_option Elab.async false
set_option linter.all false
set_option maxRecDepth 100000
set_option maxHeartbeats 4000000
namespace PySem
open Sem (wp)
section
variable {prog : Program} {w : World} {A : Around} {E : Value → Shared → Prop} {h : Heap} {g : Array GenState} {d : Drawn} {t : Nat} {os : OsState}
variable {nm q : Str} {C N : Addr} {bs bm bmB : List Value} {hdct : Bool} {sn : List Str} {sub : List Value} {ab : Bool} {col : Option Bool} {dd : Option Addr} {k0 k1 k2 k3 k5 : Option Value} {B Bn newId nid initId inN : String} {bmN : List Value}
end
end PySem

set_option Elab.async false
set_option linter.all false
set_option maxRecDepth 100000
set_option maxHeartbeats 4000000
namespace L2
open PySem PySem.Spec PyProof.Rows
/-- the second parameter by its name -/
def BindK (fd : FuncData) (ps : List Str) (fld : Str) : Prop := ∀ (s : Shared) (a u : Value), BindsTo s fd ⟨[a], [(fld, u)]⟩ (ps.zip [a, u])
structure FunXK (K : PySem.W.Frag) (mg : Str → Option Value) (x : Str) (C : Addr) (fld qual : Str) (st : Stmt) (ps : List Str) : Prop where
  ex : ∃ (f : Addr) (fd : FuncData), ExI K mg x C f ∧ Fun K "__init__" qual st f fd ∧ Binds K fd ps [] ∧ ExF K C fld ∧ BindK fd ps fld
structure ExcIK (P : Program) (w : World) (K : PySem.W.Frag) (mg : Str → Option Value) (base : Heap) (k : Nat) (x : Str) (C : Addr) (fld : Str) : Prop where
  ex : ∃ (f : Addr) (fd : FuncData) (qual : Str) (st : Stmt) (N ps : List Str), ExI K mg x C f ∧ Fun K "__init__" qual st f fd ∧ FnScope N ps (defScope st) ∧ ps.length = 2 ∧ (∀ n, cellsFrom n (defScope st).names [] = []) ∧ InitB P w K mg base k C f qual st N fld ∧ Binds K fd ps [] ∧ BindK fd ps fld
theorem ExcIK.pos {P : Program} {w : World} {K : PySem.W.Frag} {mg : Str → Option Value} {base : Heap} {k : Nat} {x : Str} {C : Addr} {fld : Str} (c : ExcIK P w K mg base k x C fld) : ExcI P w K mg base k x C fld := by
  obtain ⟨f, fd, qual, st, N, ps, a1, a2, a3, a4, a5, a6, a7, _⟩ := c.ex
  exact ⟨f, fd, qual, st, N, ps, a1, a2, a3, a4, a5, a6, a7⟩
section
variable {X : Cx} {pins : List (Addr × Obj)} {σ : St} {H : Hp} {s : Shared}
/-! ### without an __init__ -/
end
end L2

set_option Elab.async false
set_option linter.all false
set_option maxRecDepth 100000
set_option maxHeartbeats 4000000
namespace L2
open PySem PySem.Spec PyProof.Rows
/-! ### xs.count(b) of a list of truths -/
section
variable {X : Cx}
end
end L2

set_option Elab.async false
set_option linter.all false
set_option maxRecDepth 100000
set_option maxHeartbeats 4000000
namespace L2
open PySem PySem.Spec PyProof.Rows
/-! ### tuples of a text and a number compared by the sort -/
section
variable {prog : Program} {w : World} {A : Around} {E : Value → Shared → Prop} {s : Shared}
end
end L2

set_option Elab.async false
set_option linter.all false
set_option maxRecDepth 100000
set_option maxHeartbeats 4000000
namespace L2
open PySem PySem.Spec PyProof.Rows
/-! ### sorted of tuples of a text and a number, the texts unlike -/
structure TupAt (h : Heap) (c : Addr) (z : Str) (n : Int) : Prop where
  ex : ∃ (o : Obj) (t t2 : Tok) (e : Nat), h.get? c = some o ∧ o.cls = .type "tuple" ∧ o.data = .seq #[.str z t, .int n t2] e
section
variable {prog : Program} {w : World} {A : Around} {E : Value → Shared → Prop} {s : Shared}
end
end L2

set_option Elab.async false
set_option linter.all false
set_option maxRecDepth 100000
set_option maxHeartbeats 4000000
namespace L2
open PySem PySem.Spec PyProof.Rows
theorem TupAt.uniq {h : Heap} {c : Addr} {z z' : Str} {n n' : Int} (a : TupAt h c z n) (b : TupAt h c z' n') : z = z' := by
  obtain ⟨o, t, t2, e, g, _, d⟩ := a.ex
  obtain ⟨o', t', t2', e', g', _, d'⟩ := b.ex
  rw [g] at g'
  cases g'
  rw [d] at d'
  injection d' with d1 d2
  have := congrArg (fun x : Array Value => x[0]?) d1
  have := Option.some.inj this
  injection this
section
variable {prog : Program} {w : World} {A : Around} {E : Value → Shared → Prop} {s : Shared}
end
end L2

set_option Elab.async false
set_option linter.all false
set_option maxRecDepth 100000
set_option maxHeartbeats 4000000
namespace L2
open PySem PySem.Spec PyProof.Rows
section
variable {X : Cx}
end
end L2

set_option Elab.async false
set_option linter.all false
set_option maxRecDepth 100000
set_option maxHeartbeats 1000000
namespace L2
open PySem PySem.Spec PyProof.Rows
/-! ### unlike starts, unlike turns -/
end L2

set_option Elab.async false
set_option linter.all false
set_option maxRecDepth 100000
set_option maxHeartbeats 1000000
namespace L2
open PySem PySem.Spec PyProof.Rows PySem.W TL
/-! ### min(xs, key=lambda y: ..): texts by whole numbers -/
/-- the first of the least ones -/
def Fst1 (g : Str → Int) (xs : List Str) (x : Str) : Prop := ∃ i : Nat, xs[i]? = some x ∧ ∀ (j : Nat) y, xs[j]? = some y → g x ≤ g y ∧ (j < i → g x < g y)
theorem Fst1.mem {g : Str → Int} {xs : List Str} {x : Str} (h : Fst1 g xs x) : x ∈ xs := by
  obtain ⟨i, h, _⟩ := h
  exact List.mem_of_getElem? h
theorem sqL_same {K : PySem.W.Frag} {H H' : Hp} {a : Addr} {xs : List V} (e : Same H H') (h : SqL K H a xs) : SqL K H' a xs := by
  rcases h with (h | ⟨ob, h⟩) | h
  · exact .inl (.inl (e _ _ h))
  · exact .inl (.inr ⟨ob, e _ _ h⟩)
  · exact .inr h
section
variable {X : Cx} {pins : List (Addr × Obj)} {σ : St} {H : Hp} {E : Value → Shared → Prop}
end
section
variable {X : Cx}
end
end L2

set_option Elab.async false
set_option linter.all false
set_option maxRecDepth 100000
set_option maxHeartbeats 1000000
namespace L2
open PySem PySem.Spec PyProof.Rows TL
/-! ### comprehensions of two clauses, whatever they gather -/
structure Cmp2 (e t0 i0 : Expr) (ifs0 : List Expr) (t1 i1 : Expr) (ifs1 : List Expr) (emit : Value → Env → Sem Unit) : Prop where
  out : ∀ (it acc : Value) (env : Env), compTurn e 0 it acc env = (do
      standAt i0.pos
      match ← pyNext it with
      | none => pure (.done .next)
      | some v =>
        letOwnedTupleGo t0 it v; assign t0 env v
        let mut ok := true
        for c in ifs0 do
          if ok then ok ← isTrue c env (eval c env)
        if ok then
          let x ← eval i1 env
          standAt i1.pos
          let x ← foldedSetIterable i1 env x
          let _ ← runOwn (.compStart e 1 (← holding [x] (pyIter x)) acc env) env
        again (.compLoop e 0 it acc env))
  inn : ∀ (it acc : Value) (env : Env), compTurn e 1 it acc env = (do
      standAt i1.pos
      match ← pyNext it with
      | none => pure (.done .next)
      | some v =>
        letOwnedTupleGo t1 it v; assign t1 env v
        let mut ok := true
        for c in ifs1 do
          if ok then ok ← isTrue c env (eval c env)
        if ok then emit acc env
        again (.compLoop e 1 it acc env))
  cls : clausesOf e = [⟨t0, i0, ifs0, 0⟩, ⟨t1, i1, ifs1, 0⟩]
  un : ∀ (A : Around) (d : Nat) (it acc : Value) (env : Env), A.under (.compLoop e d it acc env) = A
  unS : ∀ (A : Around) (d : Nat) (it acc : Value) (env : Env), A.under (.compStart e d it acc env) = A
  den : ∀ (prog : Program) (w : World) (d : Nat) (it acc : Value) (env : Env), (model prog w).den (.compLoop e d it acc env) = (compTurn e d it acc env).onRaise (fun x => do noteFrame x env; theTreesLotGoes x)
  denS : ∀ (prog : Program) (w : World) (d : Nat) (it acc : Value) (env : Env), (model prog w).den (.compStart e d it acc env) = (compStart e d it acc env).onRaise (fun x => do noteFrame x env; standAt theWindowsPlace)
section
variable {prog : Program} {w : World} {A : Around} {R : Result → Shared → Prop} {s : Shared} {e t0 i0 t1 i1 : Expr} {ifs0 ifs1 : List Expr} {emit : Value → Env → Sem Unit} {it acc : Value} {env : Env}
end
section
variable {X : Cx}
/-! ### sets and dicts of two clauses -/
end
/-! ### walks, whatever a turn does -/
end L2

set_option Elab.async false
set_option linter.all false
set_option maxRecDepth 100000
set_option maxHeartbeats 1000000
namespace L2
open PySem PySem.Spec PyProof.Rows TL
/-! ### the places under a piece, pins that hit, trees -/
def Sts (x y : Str) (i : Nat) : Prop := i + y.length ≤ x.length ∧ sub (cs x) i y.length = cs y
def isP (x y : Str) : Prop := 1 ≤ y.length ∧ ∃ i, Sts x y i
def tou (x y : Str) (p : Int) : Prop := ∃ i t : Nat, Sts x y i ∧ t < y.length ∧ p = ((i + t : Nat) : Int)
open Classical in
noncomputable def tl (x y : Str) : List Int := (upInts 0 x.length).filter fun p => decide (tou x y p)
/-- pins that touch each of some pieces -/
def Hits (x : Str) (ms : List Str) (qs : List Int) : Prop := ∀ y ∈ ms, ∃ q ∈ qs, q ∈ tl x y
def NoHit (x : Str) (ms : List Str) (n : Nat) : Prop := ∀ qs : List Int, qs.length ≤ n → ¬ Hits x ms qs
noncomputable def stl (x : Str) (ms : List Str) (p : Int) : List Str := ms.filter fun z => decide (p ∉ tl x z)
theorem stl_mem {x : Str} {ms : List Str} {p : Int} {z : Str} : z ∈ stl x ms p ↔ z ∈ ms ∧ p ∉ tl x z := by
  unfold stl
  rw [List.mem_filter, decide_eq_true_iff]
theorem NoHit.ne {x : Str} {ms : List Str} {n : Nat} (h : NoHit x ms n) : ms ≠ [] := by
  rintro rfl
  exact h [] (Nat.zero_le _) fun y hy => by cases hy
theorem NoHit.next {x : Str} {ms : List Str} {n : Nat} (h : NoHit x ms (n + 1)) (p : Int) : NoHit x (stl x ms p) n := by
  intro qs hq hh
  refine h (p :: qs) (by rw [List.length_cons]; omega) fun y hy => ?_
  by_cases hp : p ∈ tl x y
  · exact ⟨p, List.mem_cons_self .., hp⟩
  · obtain ⟨q, h1, h2⟩ := hh y (stl_mem.mpr ⟨hy, hp⟩)
    exact ⟨q, List.mem_cons_of_mem _ h1, h2⟩
theorem NoHit.zero {x : Str} {ms : List Str} (h : ms ≠ []) : NoHit x ms 0 := by
  intro qs hq hh
  obtain ⟨y, hy⟩ := List.exists_mem_of_ne_nil ms h
  obtain ⟨q, h1, _⟩ := hh y hy
  have e : qs = [] := List.eq_nil_of_length_eq_zero (by omega)
  rw [e] at h1
  cases h1
theorem NoHit.of {x : Str} {ms : List Str} {n : Nat} {y : Str} (hy : y ∈ ms) (h : ∀ p ∈ tl x y, NoHit x (stl x ms p) n) : NoHit x ms (n + 1) := by
  intro qs hq hh
  obtain ⟨q, h1, h2⟩ := hh y hy
  refine h q h2 (qs.erase q) (by rw [List.length_erase_of_mem h1]; omega) fun z hz => ?_
  obtain ⟨hz1, hz2⟩ := stl_mem.mp hz
  obtain ⟨q', h3, h4⟩ := hh z hz1
  have : q' ≠ q := fun e => hz2 (e ▸ h4)
  exact ⟨q', (List.mem_erase_of_ne this).mpr h3, h4⟩
theorem NoHit.less {x : Str} {ms : List Str} {n m : Nat} (h : NoHit x ms n) (hm : m ≤ n) : NoHit x ms m := fun qs hq => h qs (Nat.le_trans hq hm)
/-- pins found for some pieces -/
structure Fnd (x : Str) (ms : List Str) (n : Nat) (ps : List Int) : Prop where
  hit : Hits x ms ps
  len : ps.length ≤ n
  nd : ps.Nodup
  own : ∀ p ∈ ps, ∃ y ∈ ms, p ∈ tl x y
theorem Fnd.nil {x : Str} {n : Nat} : Fnd x [] n [] := ⟨(fun y hy => by cases hy), Nat.zero_le _, List.nodup_nil, (fun p hp => by cases hp)⟩
theorem Fnd.cons {x : Str} {ms : List Str} {n : Nat} {ps : List Int} {p : Int} {y : Str} (hy : y ∈ ms) (hp : p ∈ tl x y) (h : Fnd x (stl x ms p) n ps) : Fnd x ms (n + 1) (p :: ps) := by
  refine ⟨fun z hz => ?_, by rw [List.length_cons]; have := h.len; omega, List.nodup_cons.mpr ⟨fun hm => ?_, h.nd⟩, fun q hq => ?_⟩
  · by_cases hq : p ∈ tl x z
    · exact ⟨p, List.mem_cons_self .., hq⟩
    · obtain ⟨q, h1, h2⟩ := h.hit z (stl_mem.mpr ⟨hz, hq⟩)
      exact ⟨q, List.mem_cons_of_mem _ h1, h2⟩
  · obtain ⟨z, h1, h2⟩ := h.own p hm
    exact (stl_mem.mp h1).2 h2
  · rcases List.mem_cons.mp hq with rfl | hq
    · exact ⟨y, hy, hp⟩
    · obtain ⟨z, h1, h2⟩ := h.own q hq
      exact ⟨z, (stl_mem.mp h1).1, h2⟩
/-! ### trees in the heap -/
def TreeOk (x : Str) (H : Hp) : Nat → List Int → V → Prop
  | 0, pins, v => ∃ (t l : Addr) (y : Str), v = .ref t ∧ H t = some (.tup [.str y, .ref l]) ∧ H l = some (.lst []) ∧ isP x y ∧ ∀ p ∈ pins, p ∉ tl x y
  | n + 1, pins, v => ∃ (t l : Addr) (y : Str) (bs : List V), v = .ref t ∧ H t = some (.tup [.str y, .ref l]) ∧ H l = some (.lst bs) ∧ isP x y ∧ (∀ p ∈ pins, p ∉ tl x y) ∧ bs.length = (tl x y).length ∧
      ∀ (i : Nat) b q, bs[i]? = some b → (tl x y)[i]? = some q → ∃ (a : Addr) (u : V), b = .ref a ∧ H a = some (.tup [.int q, u]) ∧ TreeOk x H n (pins ++ [q]) u
def KpS (H H' : Hp) : Prop := ∀ a o, H a = some o → (∃ us, o = .tup us ∨ o = .lst us) → H' a = some o
theorem TreeOk.keep {x : Str} {H H' : Hp} (k : KpS H H') : ∀ {n : Nat} {pins : List Int} {v : V}, TreeOk x H n pins v → TreeOk x H' n pins v
  | 0, pins, v, h => by
    obtain ⟨t, l, y, e, h1, h2, h3⟩ := h
    exact ⟨t, l, y, e, k _ _ h1 ⟨_, .inl rfl⟩, k _ _ h2 ⟨_, .inr rfl⟩, h3⟩
  | n + 1, pins, v, h => by
    obtain ⟨t, l, y, bs, e, h1, h2, h3, h4, h5, h6⟩ := h
    refine ⟨t, l, y, bs, e, k _ _ h1 ⟨_, .inl rfl⟩, k _ _ h2 ⟨_, .inr rfl⟩, h3, h4, h5, fun i b q hb hq => ?_⟩
    obtain ⟨a, u, e2, h7, h8⟩ := h6 i b q hb hq
    exact ⟨a, u, e2, k _ _ h7 ⟨_, .inl rfl⟩, h8.keep k⟩
/-- the dict of the places under each piece -/
structure Tch (x : Str) (H : Hp) (d : Addr) : Prop where
  ex : ∃ kvs : List (Key × V), H d = some (.dK kvs) ∧ kvs.length ≤ 1000 ∧ (∀ k, k ∈ kvs.map (·.1) → ∃ y, k = Sum.inr y ∧ isP x y) ∧ ∀ y : Str, isP x y → ∃ l : Addr, valV kvs (Sum.inr y) = some (.ref l) ∧ H l = some (.lst ((tl x y).map V.int))
theorem Tch.keep {x : Str} {H H' : Hp} {d : Addr} (h : Tch x H d) (k : ∀ a o, H a = some o → ((∃ kvs, o = .dK kvs) ∨ ∃ us, o = .tup us ∨ o = .lst us) → H' a = some o) : Tch x H' d := by
  obtain ⟨kvs, h1, h2, h3, h4⟩ := h.ex
  refine ⟨kvs, k _ _ h1 (.inl ⟨_, rfl⟩), h2, h3, fun y hy => ?_⟩
  obtain ⟨l, h5, h6⟩ := h4 y hy
  exact ⟨l, h5, k _ _ h6 (.inr ⟨_, .inr rfl⟩)⟩
theorem Tch.same {x : Str} {H H' : Hp} {d : Addr} (h : Tch x H d) (k : Same H H') : Tch x H' d := h.keep fun a o e _ => k a o e
theorem Tch.off {x : Str} {H H' : Hp} {d P : Addr} {o : Obj} (h : Tch x H d) (k : Off P H H') (hP : H P = some (objX P o)) : Tch x H' d := h.keep fun a o' e hs => k a o' e fun z => by
  rw [z, hP] at e
  cases e
  rcases hs with ⟨_, hs⟩ | ⟨us, hs | hs⟩ <;> cases hs
theorem Tch.at' {x : Str} {H : Hp} {d : Addr} {y : Str} (h : Tch x H d) (hy : isP x y) : ∃ l : Addr, DGet H d (.str y) (some (.ref l)) ∧ H l = some (.lst ((tl x y).map V.int)) := by
  obtain ⟨kvs, h1, h2, h3, h4⟩ := h.ex
  obtain ⟨l, h5, h6⟩ := h4 y hy
  refine ⟨l, ?_, h6⟩
  rw [← h5]
  exact DGet.k (k := Sum.inr y) h1
end L2

set_option Elab.async false
set_option linter.all false
set_option maxRecDepth 100000
set_option maxHeartbeats 1000000
namespace L2
open PySem PySem.Spec PyProof.Rows TL
/-- a tree in the heap, with the addresses of its lists of branches -/
def TreeL (x : Str) (H : Hp) : Nat → List Int → V → List Addr → Prop
  | 0, pins, v, ls => ∃ (t l : Addr) (y : Str), v = .ref t ∧ H t = some (.tup [.str y, .ref l]) ∧ H l = some (.lst []) ∧ isP x y ∧ (∀ p ∈ pins, p ∉ tl x y) ∧ ls = [l]
  | n + 1, pins, v, ls => ∃ (t l : Addr) (y : Str) (bs : List V) (lss : List (List Addr)), v = .ref t ∧ H t = some (.tup [.str y, .ref l]) ∧ H l = some (.lst bs) ∧ isP x y ∧ (∀ p ∈ pins, p ∉ tl x y) ∧ (tl x y).length + pins.length + (n + 1) ≤ x.length ∧
      bs.length = (tl x y).length ∧ lss.length = (tl x y).length ∧ ls = l :: lss.flatten ∧
      ∀ (i : Nat) b q m, bs[i]? = some b → (tl x y)[i]? = some q → lss[i]? = some m → ∃ (a : Addr) (u : V), b = .ref a ∧ H a = some (.tup [.int q, u]) ∧ TreeL x H n (pins ++ [q]) u m
theorem TreeL.ok {x : Str} {H : Hp} : ∀ {n : Nat} {pins : List Int} {v : V} {ls : List Addr}, TreeL x H n pins v ls → TreeOk x H n pins v
  | 0, _, _, _, h => by
    obtain ⟨t, l, y, e, h1, h2, h3, h4, _⟩ := h
    exact ⟨t, l, y, e, h1, h2, h3, h4⟩
  | n + 1, _, _, _, h => by
    obtain ⟨t, l, y, bs, lss, e, h1, h2, h3, h4, _, h5, h6, _, h8⟩ := h
    refine ⟨t, l, y, bs, e, h1, h2, h3, h4, h5, fun i b q hb hq => ?_⟩
    have hi := (List.getElem?_eq_some_iff.mp hq).1
    obtain ⟨a, u, e2, h9, h10⟩ := h8 i b q (lss[i]'(by omega)) hb hq (List.getElem?_eq_getElem (by omega))
    exact ⟨a, u, e2, h9, h10.ok⟩
theorem TreeL.keep2 {x : Str} {H H' : Hp} (k : ∀ a us, H a = some (.tup us) → H' a = some (.tup us)) : ∀ {n : Nat} {pins : List Int} {v : V} {ls : List Addr}, (∀ a ∈ ls, ∀ us, H a = some (.lst us) → H' a = some (.lst us)) → TreeL x H n pins v ls → TreeL x H' n pins v ls
  | 0, _, _, _, k2, h => by
    obtain ⟨t, l, y, e, h1, h2, h3, h4, h5⟩ := h
    exact ⟨t, l, y, e, k _ _ h1, k2 l (by rw [h5]; exact List.mem_singleton.mpr rfl) _ h2, h3, h4, h5⟩
  | n + 1, _, _, _, k2, h => by
    obtain ⟨t, l, y, bs, lss, e, h1, h2, h3, h4, hw, h5, h6, h7, h8⟩ := h
    refine ⟨t, l, y, bs, lss, e, k _ _ h1, k2 l (by rw [h7]; exact List.mem_cons_self ..) _ h2, h3, h4, hw, h5, h6, h7, fun i b q m hb hq hm => ?_⟩
    obtain ⟨a, u, e2, h9, h10⟩ := h8 i b q m hb hq hm
    exact ⟨a, u, e2, k _ _ h9, h10.keep2 k fun c hc => k2 c (by rw [h7]; exact List.mem_cons_of_mem _ (List.mem_flatten.mpr ⟨m, List.mem_of_getElem? hm, hc⟩))⟩
theorem TreeL.keep {x : Str} {H H' : Hp} (k : KpS H H') {n : Nat} {pins : List Int} {v : V} {ls : List Addr} (h : TreeL x H n pins v ls) : TreeL x H' n pins v ls :=
  h.keep2 (fun a us e => k a _ e ⟨_, .inl rfl⟩) fun a _ us e => k a _ e ⟨_, .inr rfl⟩
theorem TreeL.trk {x : Str} {H : Hp} : ∀ {n : Nat} {pins : List Int} {v : V} {ls : List Addr}, TreeL x H n pins v ls → ∀ a ∈ ls, ∃ us, H a = some (.lst us)
  | 0, _, _, _, h, a, ha => by
    obtain ⟨t, l, y, e, h1, h2, h3, h4, h5⟩ := h
    rw [h5, List.mem_singleton] at ha
    exact ⟨_, ha ▸ h2⟩
  | n + 1, _, _, _, h, a, ha => by
    obtain ⟨t, l, y, bs, lss, e, h1, h2, h3, h4, hw, h5, h6, h7, h8⟩ := h
    rw [h7] at ha
    rcases List.mem_cons.mp ha with rfl | ha
    · exact ⟨_, h2⟩
    · obtain ⟨m, hm, hc⟩ := List.mem_flatten.mp ha
      obtain ⟨i, hi⟩ := List.getElem?_of_mem hm
      have il := (List.getElem?_eq_some_iff.mp hi).1
      obtain ⟨_, _, _, _, h10⟩ := h8 i _ _ m (List.getElem?_eq_getElem (by omega)) (List.getElem?_eq_getElem (by omega)) hi
      exact h10.trk a hc
end L2

set_option Elab.async false
set_option linter.all false
set_option maxRecDepth 100000
set_option maxHeartbeats 1000000
namespace L2
open PySem PySem.Spec PyProof.Rows TL
end L2

set_option Elab.async false
set_option linter.all false
set_option maxRecDepth 100000
set_option maxHeartbeats 1000000
namespace L2
open PySem PySem.Spec PyProof.Rows PySem.W
/-- all but two addresses stay -/
def OffB (p P : Addr) (H H' : Hp) : Prop := ∀ b o, H b = some o → b ≠ p → b ≠ P → H' b = some o
theorem OffB.refl {p P : Addr} {H : Hp} : OffB p P H H := fun _ _ e _ _ => e
theorem OffB.trans {p P : Addr} {H H1 H2 : Hp} (a : OffB p P H H1) (b : OffB p P H1 H2) : OffB p P H H2 := fun c o e n m => b _ _ (a _ _ e n m) n m
theorem OffB.s {p P : Addr} {H H1 H2 : Hp} (a : OffB p P H H1) (b : Same H1 H2) : OffB p P H H2 := fun c o e n m => b _ _ (a _ _ e n m)
theorem OffB.l {p P : Addr} {H H1 H2 : Hp} (a : OffB p P H H1) (b : Off p H1 H2) : OffB p P H H2 := fun c o e n m => b _ _ (a _ _ e n m) n
theorem OffB.r {p P : Addr} {H H1 H2 : Hp} (a : OffB p P H H1) (b : Off P H1 H2) : OffB p P H H2 := fun c o e n m => b _ _ (a _ _ e n m) m
theorem OffB.new {p P r : Addr} {H H1 H2 : Hp} (o1 : OffB p P H H1) (hr : H r = none) (o2 : Off r H1 H2) : OffB p P H H2 := fun b ob e n m => o2 _ _ (o1 _ _ e n m) (ne_of_none e hr)
end L2

set_option Elab.async false
set_option linter.all false
set_option maxRecDepth 100000
set_option maxHeartbeats 1000000
namespace L2
open PySem PySem.Spec PyProof.Rows
end L2

set_option Elab.async false
set_option linter.all false
set_option maxRecDepth 100000
set_option maxHeartbeats 1000000
namespace L2
open PySem PySem.Spec PyProof.Rows
/-! ### turned back: of the stable order of the last signs -/
/-- the place ahead, turned round -/
def prv (n p : Nat) : Nat := if p = 0 then n - 1 else p - 1
theorem prv_lt {n p : Nat} (h : p < n) : prv n p < n := by unfold prv; split <;> omega
theorem rotL_prv {w : List Nat} {p : Nat} (h : p < w.length) : rotL w (prv w.length p) = lstN w p :: (rotL w p).dropLast := by
  unfold prv
  by_cases h0 : p = 0
  · subst h0
    rw [if_pos rfl]
    unfold rotL lstN
    rw [if_pos rfl, List.drop_zero, List.take_zero, List.append_nil, List.dropLast_eq_take, List.drop_eq_getElem_cons (by omega), List.drop_of_length_le (by omega), List.getLastD_eq_getLast?, List.getLast?_eq_getElem?, List.getElem?_eq_getElem (by omega)]
    rfl
  · rw [if_neg h0]
    obtain ⟨q, rfl⟩ : ∃ q, p = q + 1 := ⟨p - 1, by omega⟩
    unfold rotL lstN
    rw [if_neg h0, Nat.add_sub_cancel, List.take_succ, List.getElem?_eq_getElem (show q < w.length by omega)]
    rw [List.drop_eq_getElem_cons (show q < w.length by omega), List.getD_eq_getElem?_getD, List.getElem?_eq_getElem (show q < w.length by omega)]
    show _ = w[q] :: (List.drop (q + 1) w ++ (List.take q w ++ [w[q]])).dropLast
    rw [← List.append_assoc, List.dropLast_concat]
    rfl
theorem lt_appL : ∀ {u v s t : List Nat}, u < v → u.length = v.length → u ++ s < v ++ t
  | [], [], _, _, h, _ => absurd h (List.lt_irrefl _)
  | [], _ :: _, _, _, _, e => by simp at e
  | _ :: _, [], _, _, _, e => by simp at e
  | a :: u, b :: v, s, t, h, e => by
    rw [List.cons_append, List.cons_append]
    rcases List.cons_lt_cons_iff.mp h with h1 | ⟨h1, h2⟩
    · exact List.Lex.rel h1
    · rw [h1]
      exact List.Lex.cons (lt_appL h2 (by simpa using e))
theorem le_dropLast {a b : List Nat} (h : ¬ b < a) (e : a.length = b.length) : ¬ b.dropLast < a.dropLast := by
  intro z
  by_cases h0 : a = []
  · subst h0
    have q : b = [] := List.eq_nil_of_length_eq_zero (by simpa using e.symm)
    rw [q] at z
    exact List.lt_irrefl _ z
  have h1 : b ≠ [] := fun q => h0 (List.eq_nil_of_length_eq_zero (by rw [e, q]; rfl))
  refine h ?_
  rw [← List.dropLast_concat_getLast h1, ← List.dropLast_concat_getLast h0]
  exact lt_appL z (by rw [List.length_dropLast, List.length_dropLast, e])
theorem range_prv : ∀ n, ((List.range n).map (prv n)).Perm (List.range n)
  | 0 => .nil
  | k + 1 => by
    rw [show (List.range (k + 1)).map (prv (k + 1)) = k :: List.range k by
      rw [List.range_succ_eq_map, List.map_cons, List.map_map]
      show k :: _ = _
      refine congrArg (List.cons k) ?_
      refine (List.map_congr_left fun i _ => ?_).trans (List.map_id _)
      rfl]
    rw [List.range_succ]
    exact (List.perm_append_comm (l₁ := [k]) (l₂ := List.range k))
theorem rotL_inj {x : Str} (h : 46 ∉ cs x) {a b : Nat} (ha : a < x.length + 1) (hb : b < x.length + 1) (e : rotL (wh x) a = rotL (wh x) b) : a = b := by
  have key : ∀ c, c < x.length + 1 → (rotL (wh x) c).idxOf 46 = x.length - c := fun c hc => by
    unfold rotL wh
    rw [List.drop_append_of_le_length (by rw [cs_len]; omega), List.append_assoc, List.idxOf_append, if_neg (fun z => h (List.mem_of_mem_drop z)), List.length_drop, cs_len]
    show List.idxOf 46 (46 :: _) + _ = _
    rw [List.idxOf_cons_self, Nat.zero_add]
  have h1 := key a ha
  have h2 := key b hb
  rw [e, h2] at h1
  omega
/-- the row that stands at a place's turn -/
def Yat (ys : List Int) (r : Nat) : Nat := (ys.getD r 0).toNat
theorem map_toNat_up {n : Nat} : (upInts 0 n).map Int.toNat = List.range n := by
  unfold upInts
  rw [List.map_map]
  refine (List.map_congr_left fun i _ => ?_).trans (List.map_id _)
  show ((0 : Int) + (i : Int)).toNat = i
  omega
theorem upInts_Yat {ys : List Int} : (upInts 0 ys.length).map (fun m => Yat ys m.toNat) = ys.map Int.toNat := by
  unfold upInts
  rw [List.map_map]
  refine List.ext_getElem? fun i => ?_
  rw [List.getElem?_map, List.getElem?_map]
  rcases Nat.lt_or_ge i ys.length with h | h
  · rw [List.getElem?_range h, List.getElem?_eq_getElem h]
    show some (Yat ys ((0 : Int) + (i : Int)).toNat) = _
    rw [show ((0 : Int) + (i : Int)).toNat = i by omega]
    unfold Yat
    rw [List.getD_eq_getElem?_getD, List.getElem?_eq_getElem h]
    rfl
  · rw [List.getElem?_eq_none (by rw [List.length_range]; exact h), List.getElem?_eq_none h]
    rfl
/-- of the stable order of the last signs, the row of a turn's follower is found -/
theorem Tnd.later {x y : Str} {ys later : List Int} {g : Int → Str} (t : Tnd x ys y) (hx : 46 ∉ cs x) (hl : ByKey g (upInts 0 (x.length + 1)) later) (hg : ∀ n : Int, 0 ≤ n → n < x.length + 1 → cs (g n) = [(cs y).getD n.toNat 0]) : ∀ r, r < x.length + 1 → Yat ys r = prv (x.length + 1) (Yat ys (Yat later r)) := by
  have hyl := t.by_.len
  have hll := hl.len
  have hyn : ∀ k, k < x.length + 1 → Yat ys k < x.length + 1 := fun k hk => by
    have := t.by_.in_ (n := ys.getD k 0) (by rw [List.getD_eq_getElem?_getD, List.getElem?_eq_getElem (by omega)]; exact List.getElem_mem _)
    unfold Yat
    omega
  have hy : ∀ k, k < x.length + 1 → (cs y).getD k 0 = lstN (wh x) (Yat ys k) := fun k hk => by
    rw [t.cs_, List.getD_eq_getElem?_getD, List.getElem?_map, List.getElem?_eq_getElem (by omega)]
    unfold Yat
    rw [List.getD_eq_getElem?_getD, List.getElem?_eq_getElem (by omega)]
    rfl
  have p1 : (later.map fun m => prv (x.length + 1) (Yat ys m.toNat)).Perm (ys.map Int.toNat) := by
    have q1 := hl.perm.map fun m => prv (x.length + 1) (Yat ys m.toNat)
    have q2 : (upInts 0 (x.length + 1)).map (fun m => prv (x.length + 1) (Yat ys m.toNat)) = (ys.map Int.toNat).map (prv (x.length + 1)) := by
      rw [← upInts_Yat, hyl, List.map_map]
      rfl
    have q3 : (ys.map Int.toNat).Perm (List.range (x.length + 1)) := by
      rw [← map_toNat_up]
      exact t.by_.perm.map _
    rw [q2] at q1
    exact q1.trans ((q3.map _).trans ((range_prv _).trans q3.symm))
  have p2 : (later.map fun m => rotL (wh x) (prv (x.length + 1) (Yat ys m.toNat))).Perm (ys.map fun n => rotL (wh x) n.toNat) := by
    have := p1.map (rotL (wh x))
    rwa [List.map_map, List.map_map] at this
  have s2 : (later.map fun m => rotL (wh x) (prv (x.length + 1) (Yat ys m.toNat))).Pairwise fun a b => ¬ b < a := by
    rw [List.pairwise_map]
    refine (hl.sor.and (hl.stb _ rfl)).imp_of_mem fun {m n} hm hn q => ?_
    obtain ⟨q1, q2⟩ := q
    have bm := hl.in_ hm
    have bn := hl.in_ hn
    unfold sLe at q1
    rw [hg m bm.1 bm.2, hg n bn.1 bn.2] at q1 q2
    rw [hy m.toNat (by omega), hy n.toNat (by omega)] at q1 q2
    have e1 := rotL_prv (w := wh x) (p := Yat ys m.toNat) (by rw [wh_len]; exact hyn _ (by omega))
    have e2 := rotL_prv (w := wh x) (p := Yat ys n.toNat) (by rw [wh_len]; exact hyn _ (by omega))
    rw [wh_len] at e1 e2
    rw [e1, e2]
    intro z
    rcases List.cons_lt_cons_iff.mp z with z | ⟨z1, z2⟩
    · exact q1 (List.Lex.rel z)
    · have hmn := q2 (by rw [z1])
      rcases Int.lt_or_eq_of_le hmn with h | h
      · have hs : ¬ rotL (wh x) (Yat ys n.toNat) < rotL (wh x) (Yat ys m.toNat) := by
          have := List.pairwise_iff_getElem.mp t.by_.sor m.toNat n.toNat (by omega) (by omega) (by omega)
          unfold sLe at this
          rw [cs_rotS, cs_rotS] at this
          unfold Yat
          rw [List.getD_eq_getElem?_getD, List.getD_eq_getElem?_getD, List.getElem?_eq_getElem (by omega), List.getElem?_eq_getElem (by omega)]
          exact this
        exact le_dropLast hs (by rw [rotL_len, rotL_len]) z2
      · rw [h] at z2
        exact List.lt_irrefl _ z2
  have eq := sorted_uniq p2 s2 t.by_.turns.1
  intro r hr
  have er := congrArg (fun l : List (List Nat) => l[r]?) eq
  rw [List.getElem?_map, List.getElem?_map, List.getElem?_eq_getElem (by omega), List.getElem?_eq_getElem (by omega)] at er
  have er := Option.some.inj er
  have hb := hl.in_ (n := later[r]) (List.getElem_mem _)
  have e3 := rotL_inj hx (prv_lt (hyn _ (by omega))) (by have := t.by_.in_ (n := ys[r]) (List.getElem_mem _); omega) er
  unfold Yat at e3 ⊢
  rw [List.getD_eq_getElem?_getD (l := ys) (i := r), List.getD_eq_getElem?_getD (l := later) (i := r), List.getElem?_eq_getElem (by omega), List.getElem?_eq_getElem (by omega)]
  exact e3.symm
theorem Tnd.yat_lt {x y : Str} {ys : List Int} (t : Tnd x ys y) {k : Nat} (hk : k < x.length + 1) : Yat ys k < x.length + 1 := by
  have hyl := t.by_.len
  have := t.by_.in_ (n := ys.getD k 0) (by rw [List.getD_eq_getElem?_getD, List.getElem?_eq_getElem (by omega)]; exact List.getElem_mem _)
  unfold Yat
  omega
theorem ByKey.yat_lt {g : Int → Str} {N : Nat} {later : List Int} (h : ByKey g (upInts 0 N) later) {k : Nat} (hk : k < N) : Yat later k < N := by
  have hll := h.len
  have := h.in_ (n := later.getD k 0) (by rw [List.getD_eq_getElem?_getD, List.getElem?_eq_getElem (by omega)]; exact List.getElem_mem _)
  unfold Yat
  omega
theorem Tnd.sign {x y : Str} {ys : List Int} (t : Tnd x ys y) {k : Nat} (hk : k < x.length + 1) : (cs y)[k]? = some (lstN (wh x) (Yat ys k)) := by
  have hyl := t.by_.len
  rw [t.cs_, List.getElem?_map, List.getElem?_eq_getElem (by omega)]
  unfold Yat
  rw [List.getD_eq_getElem?_getD, List.getElem?_eq_getElem (by omega)]
  rfl
theorem lstN_zero {x : Str} : lstN (wh x) 0 = 46 := by
  unfold lstN wh
  rw [if_pos rfl, List.getLastD_eq_getLast?, List.getLast?_concat]
  rfl
theorem lstN_succ {x : Str} {k : Nat} (h : k < x.length) : (cs x)[k]? = some (lstN (wh x) (k + 1)) := by
  unfold lstN wh
  rw [if_neg (by omega), Nat.add_sub_cancel, List.getD_eq_getElem?_getD, List.getElem?_append_left (by rw [cs_len]; exact h), List.getElem?_eq_getElem (by rw [cs_len]; exact h)]
  rfl
theorem lstN_pt {x : Str} (hx : 46 ∉ cs x) {k : Nat} (hk : k < x.length + 1) (e : lstN (wh x) k = 46) : k = 0 := by
  rcases Nat.eq_zero_or_pos k with h | h
  · exact h
  · obtain ⟨j, rfl⟩ : ∃ j, k = j + 1 := ⟨k - 1, by omega⟩
    have := lstN_succ (x := x) (k := j) (by omega)
    rw [e] at this
    exact absurd (List.mem_of_getElem? this) hx
/-- a step of the walk: the turn that begins a sign later -/
theorem Tnd.step {x y : Str} {ys later : List Int} {g : Int → Str} (t : Tnd x ys y) (hx : 46 ∉ cs x) (hl : ByKey g (upInts 0 (x.length + 1)) later) (hg : ∀ n : Int, 0 ≤ n → n < x.length + 1 → cs (g n) = [(cs y).getD n.toNat 0]) {r : Nat} (hr : r < x.length + 1) : Yat ys (Yat later r) = if Yat ys r = x.length then 0 else Yat ys r + 1 := by
  have h1 := t.later hx hl hg r hr
  have h2 := t.yat_lt (hl.yat_lt hr)
  rw [h1]
  unfold prv
  generalize Yat ys (Yat later r) = q at h2
  by_cases h0 : q = 0
  · rw [if_pos h0, if_pos (by omega), h0]
  · rw [if_neg h0, if_neg (by omega)]
    omega
/-- where the walk stands: k signs are out -/
structure Wlk (x : Str) (ys : List Int) (row k : Nat) : Prop where
  lt : row < x.length + 1
  le : k ≤ x.length
  at_ : Yat ys row = if k = x.length then 0 else k + 1
theorem Wlk.start {x y : Str} {ys later : List Int} {g : Int → Str} (t : Tnd x ys y) (hx : 46 ∉ cs x) (hl : ByKey g (upInts 0 (x.length + 1)) later) (hg : ∀ n : Int, 0 ≤ n → n < x.length + 1 → cs (g n) = [(cs y).getD n.toNat 0]) {r : Nat} (hr : r < x.length + 1) (hp : (cs y)[r]? = some 46) : Wlk x ys (Yat later r) 0 := by
  rw [t.sign hr] at hp
  have e := lstN_pt hx (t.yat_lt hr) (Option.some.inj hp)
  refine ⟨hl.yat_lt hr, Nat.zero_le _, ?_⟩
  rw [t.step hx hl hg hr, e]
theorem Wlk.go {x y : Str} {ys later : List Int} {g : Int → Str} {r k : Nat} (t : Tnd x ys y) (hx : 46 ∉ cs x) (hl : ByKey g (upInts 0 (x.length + 1)) later) (hg : ∀ n : Int, 0 ≤ n → n < x.length + 1 → cs (g n) = [(cs y).getD n.toNat 0]) (h : Wlk x ys r k) (hp : (cs y)[r]? ≠ some 46) : k < x.length ∧ (cs y)[r]? = (cs x)[k]? ∧ Wlk x ys (Yat later r) (k + 1) := by
  have ha := h.at_
  have hk : k ≠ x.length := fun e => by
    rw [if_pos e] at ha
    rw [t.sign h.lt, ha, lstN_zero] at hp
    exact hp rfl
  rw [if_neg hk] at ha
  have hkl : k < x.length := by have := h.le; omega
  refine ⟨hkl, ?_, hl.yat_lt h.lt, hkl, ?_⟩
  · rw [t.sign h.lt, ha, lstN_succ hkl]
  · rw [t.step hx hl hg h.lt, ha]
theorem Wlk.stop {x y : Str} {ys : List Int} {r k : Nat} (t : Tnd x ys y) (hx : 46 ∉ cs x) (h : Wlk x ys r k) (hp : (cs y)[r]? = some 46) : k = x.length := by
  rw [t.sign h.lt] at hp
  have e := lstN_pt hx (t.yat_lt h.lt) (Option.some.inj hp)
  have ha := h.at_
  rw [e] at ha
  by_cases hk : k = x.length
  · exact hk
  · rw [if_neg hk] at ha
    omega
end L2

set_option Elab.async false
set_option linter.all false
set_option maxRecDepth 100000
set_option maxHeartbeats 1000000
namespace L2
open PySem PySem.Spec PyProof.Rows TL
/-- a turned text has the signs of the text and a point -/
theorem Tnd.perm {x y : Str} {ys : List Int} (t : Tnd x ys y) : (cs y).Perm (wh x) := by
  have e : (List.range (x.length + 1)).map (lstN (wh x)) = 46 :: cs x := by
    rw [List.range_succ_eq_map, List.map_cons, List.map_map, lstN_zero]
    refine congrArg (List.cons 46) ?_
    refine List.ext_getElem? fun i => ?_
    rw [List.getElem?_map]
    rcases Nat.lt_or_ge i x.length with h | h
    · rw [List.getElem?_range h, lstN_succ h]
      rfl
    · rw [List.getElem?_eq_none (by rw [List.length_range]; exact h), List.getElem?_eq_none (by rw [cs_len]; exact h)]
      rfl
  have p := (t.by_.perm.map Int.toNat).map (lstN (wh x))
  rw [map_toNat_up, e, List.map_map] at p
  rw [t.cs_]
  refine List.Perm.trans p ?_
  unfold wh
  exact (List.perm_append_comm (l₁ := [46]) (l₂ := cs x))
theorem Tnd.count {x y : Str} {ys : List Int} (t : Tnd x ys y) (hx : 46 ∉ cs x) : (cs y).count 46 = 1 := by
  rw [t.perm.count_eq]
  unfold wh
  rw [List.count_append, List.count_eq_zero_of_not_mem hx]
  rfl
end L2

set_option Elab.async false
set_option linter.all false
set_option maxRecDepth 100000
set_option maxHeartbeats 1000000
namespace K20
open PySem L2
def top (i : Nat) : Stmt := PySem.Challenge.pw_touchpin_k20_what_is_a_form.main.body.getD i (.Pass ⟨0, 0, 0, 0⟩)
abbrev s_is_letter : Stmt := top 2
abbrev N_is_letter : List Str := ["sign"]
abbrev P_is_letter : List Str := ["sign"]
theorem sc_is_letter : FnScope N_is_letter P_is_letter (defScope s_is_letter) := ⟨rfl, rfl, rfl, by decide +kernel, rfl, by decide +kernel, by decide +kernel⟩
abbrev s_is_one_letter : Stmt := top 3
abbrev N_is_one_letter : List Str := ["thing"]
abbrev P_is_one_letter : List Str := ["thing"]
theorem sc_is_one_letter : FnScope N_is_one_letter P_is_one_letter (defScope s_is_one_letter) := ⟨rfl, rfl, rfl, by decide +kernel, rfl, by decide +kernel, by decide +kernel⟩
abbrev s_is_whole : Stmt := top 5
abbrev N_is_whole : List Str := ["thing"]
abbrev P_is_whole : List Str := ["thing"]
theorem sc_is_whole : FnScope N_is_whole P_is_whole (defScope s_is_whole) := ⟨rfl, rfl, rfl, by decide +kernel, rfl, by decide +kernel, by decide +kernel⟩
abbrev s_is_copies : Stmt := top 7
abbrev N_is_copies : List Str := ["thing", "part", "signs"]
abbrev P_is_copies : List Str := ["thing"]
theorem sc_is_copies : FnScope N_is_copies P_is_copies (defScope s_is_copies) := ⟨rfl, rfl, rfl, by decide +kernel, rfl, by decide +kernel, by decide +kernel⟩
abbrev s_is_part : Stmt := top 8
abbrev N_is_part : List Str := ["thing"]
abbrev P_is_part : List Str := ["thing"]
theorem sc_is_part : FnScope N_is_part P_is_part (defScope s_is_part) := ⟨rfl, rfl, rfl, by decide +kernel, rfl, by decide +kernel, by decide +kernel⟩
abbrev s_is_sign : Stmt := top 9
abbrev N_is_sign : List Str := ["part"]
abbrev P_is_sign : List Str := ["part"]
theorem sc_is_sign : FnScope N_is_sign P_is_sign (defScope s_is_sign) := ⟨rfl, rfl, rfl, by decide +kernel, rfl, by decide +kernel, by decide +kernel⟩
abbrev s_is_copy : Stmt := top 10
abbrev N_is_copy : List Str := ["part"]
abbrev P_is_copy : List Str := ["part"]
theorem sc_is_copy : FnScope N_is_copy P_is_copy (defScope s_is_copy) := ⟨rfl, rfl, rfl, by decide +kernel, rfl, by decide +kernel, by decide +kernel⟩
abbrev s_length_of : Stmt := top 11
abbrev N_length_of : List Str := ["part"]
abbrev P_length_of : List Str := ["part"]
theorem sc_length_of : FnScope N_length_of P_length_of (defScope s_length_of) := ⟨rfl, rfl, rfl, by decide +kernel, rfl, by decide +kernel, by decide +kernel⟩
abbrev s_reach_of : Stmt := top 12
abbrev N_reach_of : List Str := ["part"]
abbrev P_reach_of : List Str := ["part"]
theorem sc_reach_of : FnScope N_reach_of P_reach_of (defScope s_reach_of) := ⟨rfl, rfl, rfl, by decide +kernel, rfl, by decide +kernel, by decide +kernel⟩
abbrev s_law_reel : Stmt := top 14
abbrev N_law_reel : List Str := ["script", "k", "number", "stir", "found", "turn"]
abbrev P_law_reel : List Str := ["script", "k"]
theorem sc_law_reel : FnScope N_law_reel P_law_reel (defScope s_law_reel) := ⟨rfl, rfl, rfl, by decide +kernel, rfl, by decide +kernel, by decide +kernel⟩
abbrev s_law_pick : Stmt := top 15
abbrev N_law_pick : List Str := ["reel", "many", "digit"]
abbrev P_law_pick : List Str := ["reel", "many"]
theorem sc_law_pick : FnScope N_law_pick P_law_pick (defScope s_law_pick) := ⟨rfl, rfl, rfl, by decide +kernel, rfl, by decide +kernel, by decide +kernel⟩
abbrev s_law_whole : Stmt := top 16
abbrev N_law_whole : List Str := ["thing"]
abbrev P_law_whole : List Str := ["thing"]
theorem sc_law_whole : FnScope N_law_whole P_law_whole (defScope s_law_whole) := ⟨rfl, rfl, rfl, by decide +kernel, rfl, by decide +kernel, by decide +kernel⟩
abbrev s_law_text : Stmt := top 17
abbrev N_law_text : List Str := ["reel", "most", "letters", "many", "way", "some", "k", "text", "one", "other", "start"]
abbrev P_law_text : List Str := ["reel", "most"]
theorem sc_law_text : FnScope N_law_text P_law_text (defScope s_law_text) := ⟨rfl, rfl, rfl, by decide +kernel, rfl, by decide +kernel, by decide +kernel⟩
abbrev s_law_length : Stmt := top 18
abbrev N_law_length : List Str := ["part"]
abbrev P_law_length : List Str := ["part"]
theorem sc_law_length : FnScope N_law_length P_law_length (defScope s_law_length) := ⟨rfl, rfl, rfl, by decide +kernel, rfl, by decide +kernel, by decide +kernel⟩
abbrev s_law_from : Stmt := top 19
abbrev N_law_from : List Str := ["form", "found", "part", "k"]
abbrev P_law_from : List Str := ["form"]
theorem sc_law_from : FnScope N_law_from P_law_from (defScope s_law_from) := ⟨rfl, rfl, rfl, by decide +kernel, rfl, by decide +kernel, by decide +kernel⟩
abbrev s_law_followed : Stmt := top 20
abbrev N_law_followed : List Str := ["found", "place", "seen"]
abbrev P_law_followed : List Str := ["found", "place"]
theorem sc_law_followed : FnScope N_law_followed P_law_followed (defScope s_law_followed) := ⟨rfl, rfl, rfl, by decide +kernel, rfl, by decide +kernel, by decide +kernel⟩
abbrev s_law_parts : Stmt := top 21
abbrev N_law_parts : List Str := ["reel", "text", "found", "place", "many", "piece", "some", "start"]
abbrev P_law_parts : List Str := ["reel", "text"]
theorem sc_law_parts : FnScope N_law_parts P_law_parts (defScope s_law_parts) := ⟨rfl, rfl, rfl, by decide +kernel, rfl, by decide +kernel, by decide +kernel⟩
abbrev s_law_form : Stmt := top 22
abbrev N_law_form : List Str := ["reel", "text", "form", "place", "found", "start", "number", "many", "sign"]
abbrev P_law_form : List Str := ["reel", "text"]
theorem sc_law_form : FnScope N_law_form P_law_form (defScope s_law_form) := ⟨rfl, rfl, rfl, by decide +kernel, rfl, by decide +kernel, by decide +kernel⟩
abbrev s_law_is_part : Stmt := top 23
abbrev N_law_is_part : List Str := ["part"]
abbrev P_law_is_part : List Str := ["part"]
theorem sc_law_is_part : FnScope N_law_is_part P_law_is_part (defScope s_law_is_part) := ⟨rfl, rfl, rfl, by decide +kernel, rfl, by decide +kernel, by decide +kernel⟩
abbrev s_law_is_form : Stmt := top 24
abbrev N_law_is_form : List Str := ["thing", "part", "many"]
abbrev P_law_is_form : List Str := ["thing"]
theorem sc_law_is_form : FnScope N_law_is_form P_law_is_form (defScope s_law_is_form) := ⟨rfl, rfl, rfl, by decide +kernel, rfl, by decide +kernel, by decide +kernel⟩
abbrev s_law_bent : Stmt := top 25
abbrev N_law_bent : List Str := ["reel", "form", "at", "many", "part", "i", "one", "some"]
abbrev P_law_bent : List Str := ["reel", "form"]
theorem sc_law_bent : FnScope N_law_bent P_law_bent (defScope s_law_bent) := ⟨rfl, rfl, rfl, by decide +kernel, rfl, by decide +kernel, by decide +kernel⟩
abbrev s_law_bent_more : Stmt := top 26
abbrev N_law_bent_more : List Str := ["reel", "form", "way", "signs", "sign", "at", "some", "one"]
abbrev P_law_bent_more : List Str := ["reel", "form"]
theorem sc_law_bent_more : FnScope N_law_bent_more P_law_bent_more (defScope s_law_bent_more) := ⟨rfl, rfl, rfl, by decide +kernel, rfl, by decide +kernel, by decide +kernel⟩
abbrev s_law : Stmt := top 27
abbrev N_law : List Str := ["script", "k", "reel", "form", "thing", "turn", "found", "kept", "many"]
abbrev P_law : List Str := ["script"]
theorem sc_law : FnScope N_law P_law (defScope s_law) := ⟨rfl, rfl, rfl, by decide +kernel, rfl, by decide +kernel, by decide +kernel⟩

structure Bu (mg : Str → Option Value) : Prop where
  n_isinstance : mg "isinstance" = none
  n_str : mg "str" = none
  n_int : mg "int" = none
  n_bool : mg "bool" = none
  n_tuple : mg "tuple" = none
  n_list : mg "list" = none
  n_len : mg "len" = none
  n_range : mg "range" = none
  n_min : mg "min" = none
  n_max : mg "max" = none
  n_sum : mg "sum" = none
  n_any : mg "any" = none
  n_all : mg "all" = none
  n_repr : mg "repr" = none
  n_sorted : mg "sorted" = none
  c_MOST_SIGNS : ∃ t, mg "MOST_SIGNS" = some (.int 300 t)
end K20

set_option Elab.async false
set_option linter.all false
set_option maxRecDepth 100000
set_option maxHeartbeats 1000000
namespace K20
open PySem L2
/-- a reel: a number, and whether all letters are asked -/
def Rl (H : Hp) (r : Addr) : Prop := ∃ (n : Int) (b : Bool), H r = some (.lst [.int n, .bl b])
theorem Rl.upd_new {H : Hp} {r l : Addr} {o : HO} (h : Rl H r) (hl : H l = none) : Rl (upd H l o) r := by
  obtain ⟨n, b, hp⟩ := h
  exact ⟨n, b, by rw [upd_ne (ne_of_none hp hl)]; exact hp⟩
theorem Rl.same {H H' : Hp} {r : Addr} (h : Rl H r) (e : Same H H') : Rl H' r := by
  obtain ⟨n, b, hp⟩ := h
  exact ⟨n, b, e _ _ hp⟩
theorem Rl.upd_ne {H : Hp} {r l : Addr} {o : HO} (h : Rl H r) (h1 : l ≠ r) : Rl (upd H l o) r := by
  obtain ⟨n, b, hp⟩ := h
  exact ⟨n, b, by rw [L2.upd_ne h1.symm]; exact hp⟩
theorem Rl.ne {H : Hp} {r l : Addr} (h : Rl H r) (hl : H l = none) : l ≠ r := by
  obtain ⟨n, b, hp⟩ := h
  exact (ne_of_none hp hl).symm
def spPick : Sp := fun vs H Q _ => ∃ (r : Addr) (m : Int), vs = [.ref r, .int m] ∧ 0 < m ∧ m ≤ 1000000 ∧ Rl H r ∧ ∀ (d : Int) (H' : Hp), 0 ≤ d → d < m → Rl H' r → Off r H H' → Q (.int d) H'
def spReel (K : PySem.W.Frag) : Sp := fun vs H Q _ => ∃ (a : Addr) (ns : List Int) (k : Nat), vs = [.ref a, .int k] ∧ SqL K H a (ns.map V.int) ∧ ∀ (r : Addr) (H' : Hp), H r = none → Rl H' r → Same H H' → Q (.ref r) H'
def spText : Sp := fun vs H Q _ => ∃ (r : Addr) (n : Int), vs = [.ref r, .int n] ∧ 0 ≤ n ∧ n ≤ 300 ∧ Rl H r ∧ ∀ (x : Str) (H' : Hp), Lets x → (x.length : Int) ≤ n → Rl H' r → Off r H H' → Q (.str x) H'
theorem at_last {xs : List Nat} (h : 1 ≤ xs.length) : ∃ c, atI xs (-1) = some c ∧ c ∈ xs := by
  refine ⟨xs[xs.length - 1]'(by omega), ?_, List.getElem_mem _⟩
  unfold atI ixN
  rw [if_neg (by decide), if_pos (by omega)]
  show xs[((xs.length : Int) + -1).toNat]? = _
  rw [show ((xs.length : Int) + -1).toNat = xs.length - 1 by omega]
  simp
theorem at_in {xs : List Nat} {i : Int} (h0 : 0 ≤ i) (h1 : i < xs.length) : ∃ c, atI xs i = some c ∧ c ∈ xs := ⟨_, atI_in h0 h1, List.getElem_mem _⟩
theorem Lets.one {c : Nat} (h : 97 ≤ c ∧ c ≤ 122) : Lets (⟨#[c]⟩ : Str) := fun d m => by
  have e : d = c := by simpa [cs] using m
  subst e
  exact h
theorem Lets.rep {z u : Str} {n : Nat} (h : Lets z) (e : cs u = (List.replicate n (cs z)).flatten) : Lets u ∧ u.length = n * z.length := by
  constructor
  · intro c m
    rw [e] at m
    obtain ⟨l, hl, hc⟩ := List.mem_flatten.mp m
    obtain ⟨_, rfl⟩ := List.mem_replicate.mp hl
    exact h c hc
  · rw [← cs_len, e]
    simp
    first | done | rfl | exact Nat.mul_comm _ _
/-- a text's state -/
abbrev tst (r : Addr) (most : Int) (z : Str) (many way : Int) (a b : Option V) (x : Str) (c d e : Option V) : St := [some (.ref r), some (.int most), some (.str z), some (.int many), some (.int way), a, b, some (.str x), c, d, e]
section
variable {P : Program} {w : World} {K : PySem.W.Frag} {mg : Str → Option Value} {base : Heap}
theorem ok_pick (F : FunN K mg "_law_pick" s_law_pick P_law_pick) (T : Bu mg) : Cal P w K mg base 1 "_law_pick" P_law_pick spPick := by
  refine cal_of F sc_law_pick (fun vs H Q E h => ?_) (fun f cdv A outer s H vs Q E hr h => ?_)
  · obtain ⟨r, m, rfl, _⟩ := h
    rfl
  · obtain ⟨r, m, rfl, hm, hm2, ⟨n, b, hp⟩, k⟩ := h
    refine ⟨_, (@pss_cons _ _ _ _ _ (@ps_set _ _ (2) _ _ _ _ sc_law_pick.nd rfl (Or.inl rfl) (@pe_op _ _ _ _ _ _ _ _ op_mod (@pe_ix _ _ _ _ _ _ _ ix_list (@pv _ 0 _ _ (by rfl) (by first | exact Or.inl rfl | exact Or.inr (Or.inl rfl) | exact Or.inr (Or.inr rfl)) (by decide) (by decide)) pe_int (fun _ _ => rfl)) (@pv _ 1 _ _ (by rfl) (by first | exact Or.inl rfl | exact Or.inr (Or.inl rfl) | exact Or.inr (Or.inr rfl)) (by decide) (by decide))) (by rfl) (by first | exact .inl rfl | exact .inr rfl)) (@pss_cons _ _ _ _ _ (@ps_asg _ _ _ _ _ _ (@pe_op _ _ _ _ _ _ _ _ op_fdivL (@pe_ix _ _ _ _ _ _ _ ix_list (@pv _ 0 _ _ (by rfl) (by first | exact Or.inl rfl | exact Or.inr (Or.inl rfl) | exact Or.inr (Or.inr rfl)) (by decide) (by decide)) pe_int (fun _ _ => rfl)) (@pv _ 1 _ _ (by rfl) (by first | exact Or.inl rfl | exact Or.inr (Or.inl rfl) | exact Or.inr (Or.inr rfl)) (by decide) (by decide))) (@pg_sub _ _ _ _ _ _ _ (@pv _ 0 _ _ (by rfl) (by first | exact Or.inl rfl | exact Or.inr (Or.inl rfl) | exact Or.inr (Or.inr rfl)) (by decide) (by decide)) pe_int set_list (by intro _; rfl)) (by rfl) (by rfl) (by rfl)) (@pss_one _ _ _ (@ps_ret _ _ _ _ (@pv _ 2 _ _ (by rfl) (by first | exact Or.inl rfl | exact Or.inr (Or.inl rfl) | exact Or.inr (Or.inr rfl)) (by decide) (by decide)))))), ?_⟩
    refine ⟨_, rfl, r, _, _, _, rfl, rfl, SqL.of hp, rfl, _, rfl, _, _, rfl, rfl, hm, ?_⟩
    refine ⟨_, rfl, r, _, _, _, rfl, rfl, SqL.of hp, rfl, _, rfl, _, _, rfl, rfl, ⟨hm, small_log hm hm2⟩, _, rfl, r, _, _, _, rfl, rfl, hp, rfl, ?_⟩
    refine ⟨_, rfl, ?_⟩
    exact k _ _ (Int.emod_nonneg _ (by omega)) (Int.emod_lt_of_pos _ hm) ⟨_, b, upd_same⟩ Off.upd
theorem ok_reel (F : FunN K mg "_law_reel" s_law_reel P_law_reel) (T : Bu mg) : Cal P w K mg base 1 "_law_reel" P_law_reel (spReel K) := by
  refine cal_of F sc_law_reel (fun vs H Q E h => ?_) (fun f cdv A outer s H vs Q E hr h => ?_)
  · obtain ⟨a, ns, k, rfl, _⟩ := h
    rfl
  · obtain ⟨a, ns, kk, rfl, ha, k⟩ := h
    refine ⟨_, (@pss_cons _ _ _ _ _ (@ps_set _ _ (2) _ _ _ _ sc_law_reel.nd rfl (Or.inl rfl) (@pe_op _ _ _ _ _ _ _ _ op_add (@pe_op _ _ _ _ _ _ _ _ op_mul pe_int (@pv _ 1 _ _ (by rfl) (by first | exact Or.inl rfl | exact Or.inr (Or.inl rfl) | exact Or.inr (Or.inr rfl)) (by decide) (by decide))) pe_int) (by rfl) (by first | exact .inl rfl | exact .inr rfl)) (@pss_cons _ _ _ _ _ (@ps_if _ _ _ _ _ _ _ _ (@pt_cmpR _ _ _ _ _ _ _ _ op_lt (@pv _ 1 _ _ (by rfl) (by first | exact Or.inl rfl | exact Or.inr (Or.inl rfl) | exact Or.inr (Or.inr rfl)) (by decide) (by decide)) (@pe_callB _ _ _ _ _ _ _ _ _ call_len_seq (by rfl) T.n_len (by decide +kernel) (@pa_cons _ _ _ _ _ (@pv _ 0 _ _ (by rfl) (by first | exact Or.inl rfl | exact Or.inr (Or.inl rfl) | exact Or.inr (Or.inr rfl)) (by decide) (by decide)) pa_nil (by rfl)) (by decide) (by decide) (by rfl) (by rfl)) (nomark _)) (@pss_one _ _ _ (@ps_set _ _ (2) _ _ _ _ sc_law_reel.nd rfl (Or.inl rfl) (@pe_ix _ _ _ _ _ _ _ ix_list (@pv _ 0 _ _ (by rfl) (by first | exact Or.inl rfl | exact Or.inr (Or.inl rfl) | exact Or.inr (Or.inr rfl)) (by decide) (by decide)) (@pv _ 1 _ _ (by rfl) (by first | exact Or.inl rfl | exact Or.inr (Or.inl rfl) | exact Or.inr (Or.inr rfl)) (by decide) (by decide)) (fun _ _ => rfl)) (by rfl) (by first | exact .inl rfl | exact .inr rfl))) pss_nil) (@pss_cons _ _ _ _ _ (@ps_if _ _ _ _ _ _ _ _ (@pt_cmpR _ _ _ _ _ _ _ _ op_eq (@pe_op _ _ _ _ _ _ _ _ op_mod (@pv _ 2 _ _ (by rfl) (by first | exact Or.inl rfl | exact Or.inr (Or.inl rfl) | exact Or.inr (Or.inr rfl)) (by decide) (by decide)) pe_int) pe_int (nomark _)) (@pss_one _ _ _ (@ps_ret _ _ _ _ (@pe_lst _ _ _ _ (@pa_cons _ _ _ _ _ (@pe_op _ _ _ _ _ _ _ _ op_fdivL (@pv _ 2 _ _ (by rfl) (by first | exact Or.inl rfl | exact Or.inr (Or.inl rfl) | exact Or.inr (Or.inr rfl)) (by decide) (by decide)) pe_int) (@pa_cons _ _ _ _ _ (@pe_cmpR _ _ _ _ _ _ _ _ op_eq (@pe_op _ _ _ _ _ _ _ _ op_mod (@pe_callB _ _ _ _ _ _ _ _ _ call_len_seq (by rfl) T.n_len (by decide +kernel) (@pa_cons _ _ _ _ _ (@pv _ 0 _ _ (by rfl) (by first | exact Or.inl rfl | exact Or.inr (Or.inl rfl) | exact Or.inr (Or.inr rfl)) (by decide) (by decide)) pa_nil (by rfl)) (by decide) (by decide) (by rfl) (by rfl)) pe_int) pe_int (nomark _)) pa_nil (by rfl)) (by rfl))))) pss_nil) (@pss_cons _ _ _ _ _ (@ps_set _ _ (3) _ _ _ _ sc_law_reel.nd rfl (Or.inl rfl) (@pe_op _ _ _ _ _ _ _ _ op_mod (@pe_op _ _ _ _ _ _ _ _ op_add (@pe_op _ _ _ _ _ _ _ _ op_add (@pe_op _ _ _ _ _ _ _ _ op_mul (@pe_op _ _ _ _ _ _ _ _ op_mod (@pv _ 2 _ _ (by rfl) (by first | exact Or.inl rfl | exact Or.inr (Or.inl rfl) | exact Or.inr (Or.inr rfl)) (by decide) (by decide)) pe_int) pe_int) (@pe_op _ _ _ _ _ _ _ _ op_mul pe_int (@pv _ 1 _ _ (by rfl) (by first | exact Or.inl rfl | exact Or.inr (Or.inl rfl) | exact Or.inr (Or.inr rfl)) (by decide) (by decide)))) pe_int) pe_int) (by rfl) (by first | exact .inl rfl | exact .inr rfl)) (@pss_cons _ _ _ _ _ (@ps_set _ _ (4) _ _ _ _ sc_law_reel.nd rfl (Or.inl rfl) pe_int (by rfl) (by first | exact .inl rfl | exact .inr rfl)) (@pss_cons _ _ _ _ _ (@ps_for _ _ _ _ _ _ _ _ PassesOwn.never rfl (@pi_range1 _ _ _ _ _ _ rfl T.n_range (@pa_cons _ _ _ _ _ pe_int pa_nil (by rfl)) (by rfl)) (@pg_name _ _ (5) _ sc_law_reel.nd rfl (Or.inl rfl) (by first | exact .inl rfl | exact .inr rfl)) (@pss_cons _ _ _ _ _ (@ps_set _ _ (3) _ _ _ _ sc_law_reel.nd rfl (Or.inl rfl) (@pe_op _ _ _ _ _ _ _ _ op_mod (@pe_op _ _ _ _ _ _ _ _ op_add (@pe_op _ _ _ _ _ _ _ _ op_add (@pe_op _ _ _ _ _ _ _ _ op_add (@pe_op _ _ _ _ _ _ _ _ op_mul (@pv _ 3 _ _ (by rfl) (by first | exact Or.inl rfl | exact Or.inr (Or.inl rfl) | exact Or.inr (Or.inr rfl)) (by decide) (by decide)) (@pv _ 3 _ _ (by rfl) (by first | exact Or.inl rfl | exact Or.inr (Or.inl rfl) | exact Or.inr (Or.inr rfl)) (by decide) (by decide))) (@pe_op _ _ _ _ _ _ _ _ op_mul pe_int (@pv _ 3 _ _ (by rfl) (by first | exact Or.inl rfl | exact Or.inr (Or.inl rfl) | exact Or.inr (Or.inr rfl)) (by decide) (by decide)))) (@pe_op _ _ _ _ _ _ _ _ op_mul pe_int (@pv _ 5 _ _ (by rfl) (by first | exact Or.inl rfl | exact Or.inr (Or.inl rfl) | exact Or.inr (Or.inr rfl)) (by decide) (by decide)))) pe_int) pe_int) (by rfl) (by first | exact .inl rfl | exact .inr rfl)) (@pss_one _ _ _ (@ps_set _ _ (4) _ _ _ _ sc_law_reel.nd rfl (Or.inl rfl) (@pe_op _ _ _ _ _ _ _ _ op_add (@pe_op _ _ _ _ _ _ _ _ op_mul (@pv _ 4 _ _ (by rfl) (by first | exact Or.inl rfl | exact Or.inr (Or.inl rfl) | exact Or.inr (Or.inr rfl)) (by decide) (by decide)) pe_int) (@pv _ 3 _ _ (by rfl) (by first | exact Or.inl rfl | exact Or.inr (Or.inl rfl) | exact Or.inr (Or.inr rfl)) (by decide) (by decide))) (by rfl) (by first | exact .inl rfl | exact .inr rfl)))) (by intro _; rfl)) (@pss_one _ _ _ (@ps_ret _ _ _ _ (@pe_lst _ _ _ _ (@pa_cons _ _ _ _ _ (@pv _ 4 _ _ (by rfl) (by first | exact Or.inl rfl | exact Or.inr (Or.inl rfl) | exact Or.inr (Or.inr rfl)) (by decide) (by decide)) (@pa_cons _ _ _ _ _ (@pe_cmpR _ _ _ _ _ _ _ _ op_eq (@pe_op _ _ _ _ _ _ _ _ op_mod (@pe_callB _ _ _ _ _ _ _ _ _ call_len_seq (by rfl) T.n_len (by decide +kernel) (@pa_cons _ _ _ _ _ (@pv _ 0 _ _ (by rfl) (by first | exact Or.inl rfl | exact Or.inr (Or.inl rfl) | exact Or.inr (Or.inr rfl)) (by decide) (by decide)) pa_nil (by rfl)) (by decide) (by decide) (by rfl) (by rfl)) pe_int) pe_int (nomark _)) pa_nil (by rfl)) (by rfl))))))))))), ?_⟩
    refine ⟨_, rfl, _, _, rfl, rfl, .inl ⟨by decide, by decide⟩, _, _, rfl, rfl, ?_⟩
    try dsimp only
    refine seq_after (fun σ' H' => ∃ number : Int, σ' = [some (.ref a), some (.int kk), some (.int number), none, none, none] ∧ H' = H) ?_ (fun cont => ?_)
    · rintro _ _ ⟨number, rfl, rfl⟩
      refine ⟨_, rfl, _, _, rfl, rfl, (by decide : (0 : Int) < 5), rfl, _, rfl, ?_⟩
      refine ite2 (fun h1 => ?_) (fun _ => ?_)
      · refine ⟨_, rfl, _, _, rfl, rfl, ⟨by decide, by decide +kernel⟩, _, rfl, a, _, rfl, .inl ha, _, _, rfl, rfl, (by decide : (0 : Int) < 8), rfl, by rw [szl]; show 2 ≤ 16777216; decide, fun l hl => ?_⟩
        exact k l _ hl ⟨_, _, upd_same⟩ (Same.upd_new hl)
      · refine ⟨_, rfl, _, _, rfl, rfl, (by decide : (0 : Int) < 2147483423), _, _, rfl, rfl, .inr ⟨by decide, by decide⟩, _, rfl, _, _, rfl, rfl, .inl ⟨by decide, by decide⟩, _, _, rfl, rfl, _, _, rfl, rfl, _, _, rfl, rfl, (by decide : (0 : Int) < 2147483423), ?_⟩
        refine ⟨60, rfl, by decide, by decide, ?_⟩
        refine for_range (lo := 0) (n := 60) (fun i σ H2 => H2 = _ ∧ ∃ (st fd : Int) (v : Option V), σ = [some (.ref a), some (.int kk), some (.int number), some (.int st), some (.int fd), v] ∧ 0 ≤ st ∧ st < 2147483423) ⟨rfl, _, _, none, rfl, Int.emod_nonneg _ (by decide), Int.emod_lt_of_pos _ (by decide)⟩ ?_ ?_
        · rintro i _ _ hi ⟨rfl, st, fd, v, rfl, a0, a1⟩
          refine ⟨_, rfl, _, rfl, _, _, rfl, rfl, .inl ⟨by omega, by omega⟩, _, rfl, _, _, rfl, rfl, .inl ⟨by decide, by decide⟩, _, _, rfl, rfl, _, rfl, _, _, rfl, rfl, .inl ⟨by decide, by decide⟩, _, _, rfl, rfl, _, _, rfl, rfl, _, _, rfl, rfl, (by decide : (0 : Int) < 2147483423), ?_⟩
          refine ⟨_, rfl, _, _, rfl, rfl, .inr ⟨by decide, by decide⟩, _, rfl, _, _, rfl, rfl, ?_⟩
          exact ⟨rfl, _, _, _, rfl, Int.emod_nonneg _ (by decide), Int.emod_lt_of_pos _ (by decide)⟩
        · rintro _ _ ⟨rfl, st, fd, v, rfl, a0, a1⟩
          refine ⟨_, rfl, _, rfl, a, _, rfl, .inl ha, _, _, rfl, rfl, (by decide : (0 : Int) < 8), rfl, by rw [szl]; show 2 ≤ 16777216; decide, fun l hl => ?_⟩
          exact k l _ hl ⟨_, _, upd_same⟩ (Same.upd_new hl)
    · refine ⟨_, rfl, _, rfl, a, _, rfl, .inl ha, _, _, rfl, rfl, _, rfl, ?_⟩
      refine ite2 (fun h1 => ?_) (fun _ => ?_)
      · have h1 := of_decide_eq_true h1
        rw [List.length_map] at h1
        refine ⟨_, rfl, _, rfl, a, _, _, _, rfl, rfl, ha, at_of (j := kk) (v := V.int (ns[kk]'(by omega))) (by omega) (by simp), ?_⟩
        exact cont _ _ ⟨_, rfl, rfl⟩
      · exact cont _ _ ⟨_, rfl, rfl⟩
theorem ok_text (F : FunN K mg "_law_text" s_law_text P_law_text) (T : Bu mg) (c__law_pick : Cal P w K mg base 1 "_law_pick" P_law_pick spPick) : Cal P w K mg base 2 "_law_text" P_law_text spText := by
  refine cal_of F sc_law_text (fun vs H Q E h => ?_) (fun f cdv A outer s H vs Q E hr h => ?_)
  · obtain ⟨r, n, rfl, _⟩ := h
    rfl
  · obtain ⟨r, most, rfl, hn, hn2, rl, k⟩ := h
    refine ⟨_, (@pss_cons _ _ _ _ _ (@ps_set _ _ (2) _ _ _ _ sc_law_text.nd rfl (Or.inr rfl) (@pe_ix _ _ _ _ _ _ _ ix_list (@pe_lst _ _ _ _ (@pa_consts _ _ ([V.str "a", V.str "ab", V.str "bac", V.str "zyxw"]) (by kernel_rfl))) (@pe_cal _ _ _ _ _ _ _ _ _ _ c__law_pick (hr.mono (by decide)) (by rfl) (@pa_cons _ _ _ _ _ (@pv _ 0 _ _ (by rfl) (by first | exact Or.inl rfl | exact Or.inr (Or.inl rfl) | exact Or.inr (Or.inr rfl)) (by decide) (by decide)) (@pa_cons _ _ _ _ _ pe_int pa_nil (by rfl)) (by rfl)) (by decide) (by rfl) (by rfl)) (fun _ _ => rfl)) (by rfl) (by first | exact .inl rfl | exact .inr rfl)) (@pss_cons _ _ _ _ _ (@ps_set _ _ (3) _ _ _ _ sc_law_text.nd rfl (Or.inl rfl) (@pe_cal _ _ _ _ _ _ _ _ _ _ c__law_pick (hr.mono (by decide)) (by rfl) (@pa_cons _ _ _ _ _ (@pv _ 0 _ _ (by rfl) (by first | exact Or.inl rfl | exact Or.inr (Or.inl rfl) | exact Or.inr (Or.inr rfl)) (by decide) (by decide)) (@pa_cons _ _ _ _ _ (@pe_op _ _ _ _ _ _ _ _ op_add (@pv _ 1 _ _ (by rfl) (by first | exact Or.inl rfl | exact Or.inr (Or.inl rfl) | exact Or.inr (Or.inr rfl)) (by decide) (by decide)) pe_int) pa_nil (by rfl)) (by rfl)) (by decide) (by rfl) (by rfl)) (by rfl) (by first | exact .inl rfl | exact .inr rfl)) (@pss_cons _ _ _ _ _ (@ps_set _ _ (4) _ _ _ _ sc_law_text.nd rfl (Or.inl rfl) (@pe_cal _ _ _ _ _ _ _ _ _ _ c__law_pick (hr.mono (by decide)) (by rfl) (@pa_cons _ _ _ _ _ (@pv _ 0 _ _ (by rfl) (by first | exact Or.inl rfl | exact Or.inr (Or.inl rfl) | exact Or.inr (Or.inr rfl)) (by decide) (by decide)) (@pa_cons _ _ _ _ _ pe_int pa_nil (by rfl)) (by rfl)) (by decide) (by rfl) (by rfl)) (by rfl) (by first | exact .inl rfl | exact .inr rfl)) (@pss_cons _ _ _ _ _ (@ps_setLc _ (5) _ _ _ _ _ _ _ ([("k", 6)]) _ _ _ (gName 6) _ _ (by rfl) sc_law_text.nd rfl rfl (@sw_true _ _ _ _ _ _ _ _ rfl rfl rfl (by decide +kernel)) (@pi_range1 _ _ _ _ _ _ rfl T.n_range (@pa_cons _ _ _ _ _ (@pe_op _ _ _ _ _ _ _ _ op_add pe_int (@pe_cal _ _ _ _ _ _ _ _ _ _ c__law_pick (hr.mono (by decide)) (by rfl) (@pa_cons _ _ _ _ _ (@pv _ 0 _ _ (by rfl) (by first | exact Or.inl rfl | exact Or.inr (Or.inl rfl) | exact Or.inr (Or.inr rfl)) (by decide) (by decide)) (@pa_cons _ _ _ _ _ pe_int pa_nil (by rfl)) (by rfl)) (by decide) (by rfl) (by rfl))) pa_nil (by rfl)) (by rfl)) (@blkOk_by (N_law_text) (defScope s_law_text) _ ([("k", 6)]) (by decide +kernel)) (fun _ _ _ _ _ => pg_name (i := 6) sc_law_text.nd rfl (Or.inl rfl)) (fun _ _ _ _ _ => pts_nil) (fun _ _ _ _ _ => (@pe_ix _ _ _ _ _ _ _ ix_str (@pv _ 2 _ _ (by rfl) (by first | exact Or.inl rfl | exact Or.inr (Or.inl rfl) | exact Or.inr (Or.inr rfl)) (by decide) (by decide)) (@pe_cal _ _ _ _ _ _ _ _ _ _ c__law_pick (hr.mono (by decide)) (by rfl) (@pa_cons _ _ _ _ _ (@pv _ 0 _ _ (by rfl) (by first | exact Or.inl rfl | exact Or.inr (Or.inl rfl) | exact Or.inr (Or.inr rfl)) (by decide) (by decide)) (@pa_cons _ _ _ _ _ (@pe_callB _ _ _ _ _ _ _ _ _ call_len_str (by rfl) T.n_len (by decide +kernel) (@pa_cons _ _ _ _ _ (@pv _ 2 _ _ (by rfl) (by first | exact Or.inl rfl | exact Or.inr (Or.inl rfl) | exact Or.inr (Or.inr rfl)) (by decide) (by decide)) pa_nil (by rfl)) (by decide) (by decide) (by rfl) (by rfl)) pa_nil (by rfl)) (by rfl)) (by decide) (by rfl) (by rfl)) (fun _ _ => rfl))) (by intro _; rfl)) (@pss_cons _ _ _ _ _ (@ps_set _ _ (7) _ _ _ _ sc_law_text.nd rfl (Or.inl rfl) (@pe_join _ _ _ _ _ _ _ pe_str (@pv _ 5 _ _ (by rfl) (by first | exact Or.inl rfl | exact Or.inr (Or.inl rfl) | exact Or.inr (Or.inr rfl)) (by decide) (by decide)) (by rfl) (by rfl) (by rfl)) (by rfl) (by first | exact .inl rfl | exact .inr rfl)) (@pss_cons _ _ _ _ _ (@ps_if _ _ _ _ _ _ _ _ (@pt_cmpR _ _ _ _ _ _ _ _ op_eq (@pv _ 4 _ _ (by rfl) (by first | exact Or.inl rfl | exact Or.inr (Or.inl rfl) | exact Or.inr (Or.inr rfl)) (by decide) (by decide)) pe_int (nomark _)) (@pss_one _ _ _ (@ps_set _ _ (7) _ _ _ _ sc_law_text.nd rfl (Or.inl rfl) (@pe_op _ _ _ _ _ _ _ _ op_rep_str (@pv _ 7 _ _ (by rfl) (by first | exact Or.inl rfl | exact Or.inr (Or.inl rfl) | exact Or.inr (Or.inr rfl)) (by decide) (by decide)) (@pe_op _ _ _ _ _ _ _ _ op_add (@pv _ 1 _ _ (by rfl) (by first | exact Or.inl rfl | exact Or.inr (Or.inl rfl) | exact Or.inr (Or.inr rfl)) (by decide) (by decide)) pe_int)) (by rfl) (by first | exact .inl rfl | exact .inr rfl))) pss_nil) (@pss_cons _ _ _ _ _ (@ps_if _ _ _ _ _ _ _ _ (@pt_cmpR _ _ _ _ _ _ _ _ op_eq (@pv _ 4 _ _ (by rfl) (by first | exact Or.inl rfl | exact Or.inr (Or.inl rfl) | exact Or.inr (Or.inr rfl)) (by decide) (by decide)) pe_int (nomark _)) (@pss_cons _ _ _ _ _ (@ps_par _ _ (8) (9) _ _ _ _ _ _ _ _ _ _ _ (by rfl) sc_law_text.nd rfl rfl (by decide) rfl rfl (@pa_cons _ _ _ _ _ (@pv _ 7 _ _ (by rfl) (by first | exact Or.inl rfl | exact Or.inr (Or.inl rfl) | exact Or.inr (Or.inr rfl)) (by decide) (by decide)) (@pa_cons _ _ _ _ _ (@pe_ix _ _ _ _ _ _ _ ix_str (@pv _ 2 _ _ (by rfl) (by first | exact Or.inl rfl | exact Or.inr (Or.inl rfl) | exact Or.inr (Or.inr rfl)) (by decide) (by decide)) (@pe_un _ _ _ _ _ _ un_neg pe_int) (fun _ _ => rfl)) pa_nil (by rfl)) (by rfl)) (by rfl) (by rfl)) (@pss_cons _ _ _ _ _ (@ps_while _ _ _ _ _ _ PassesOwn.never (@pt_cmpR _ _ _ _ _ _ _ _ op_lt (@pe_callB _ _ _ _ _ _ _ _ _ call_len_str (by rfl) T.n_len (by decide +kernel) (@pa_cons _ _ _ _ _ (@pv _ 8 _ _ (by rfl) (by first | exact Or.inl rfl | exact Or.inr (Or.inl rfl) | exact Or.inr (Or.inr rfl)) (by decide) (by decide)) pa_nil (by rfl)) (by decide) (by decide) (by rfl) (by rfl)) (@pv _ 3 _ _ (by rfl) (by first | exact Or.inl rfl | exact Or.inr (Or.inl rfl) | exact Or.inr (Or.inr rfl)) (by decide) (by decide)) (nomark _)) (@pss_one _ _ _ (@ps_par _ _ (8) (9) _ _ _ _ _ _ _ _ _ _ _ (by rfl) sc_law_text.nd rfl rfl (by decide) rfl rfl (@pa_cons _ _ _ _ _ (@pe_op _ _ _ _ _ _ _ _ op_add_str (@pv _ 8 _ _ (by rfl) (by first | exact Or.inl rfl | exact Or.inr (Or.inl rfl) | exact Or.inr (Or.inr rfl)) (by decide) (by decide)) (@pv _ 9 _ _ (by rfl) (by first | exact Or.inl rfl | exact Or.inr (Or.inl rfl) | exact Or.inr (Or.inr rfl)) (by decide) (by decide))) (@pa_cons _ _ _ _ _ (@pv _ 8 _ _ (by rfl) (by first | exact Or.inl rfl | exact Or.inr (Or.inl rfl) | exact Or.inr (Or.inr rfl)) (by decide) (by decide)) pa_nil (by rfl)) (by rfl)) (by rfl) (by rfl)))) (@pss_one _ _ _ (@ps_set _ _ (7) _ _ _ _ sc_law_text.nd rfl (Or.inl rfl) (@pv _ 8 _ _ (by rfl) (by first | exact Or.inl rfl | exact Or.inr (Or.inl rfl) | exact Or.inr (Or.inr rfl)) (by decide) (by decide)) (by rfl) (by first | exact .inl rfl | exact .inr rfl))))) pss_nil) (@pss_cons _ _ _ _ _ (@ps_while _ _ _ _ _ _ PassesOwn.never (@PW.pt _ _ _ (@pw_and _ _ _ _ _ _ _ (@pt_cmpR _ _ _ _ _ _ _ _ op_gt (@pv _ 4 _ _ (by rfl) (by first | exact Or.inl rfl | exact Or.inr (Or.inl rfl) | exact Or.inr (Or.inr rfl)) (by decide) (by decide)) pe_int (nomark _)) (@pw_and1 _ _ _ _ (@pt_cmpR _ _ _ _ _ _ _ _ op_lt (@pe_callB _ _ _ _ _ _ _ _ _ call_len_str (by rfl) T.n_len (by decide +kernel) (@pa_cons _ _ _ _ _ (@pv _ 7 _ _ (by rfl) (by first | exact Or.inl rfl | exact Or.inr (Or.inl rfl) | exact Or.inr (Or.inr rfl)) (by decide) (by decide)) pa_nil (by rfl)) (by decide) (by decide) (by rfl) (by rfl)) (@pv _ 3 _ _ (by rfl) (by first | exact Or.inl rfl | exact Or.inr (Or.inl rfl) | exact Or.inr (Or.inr rfl)) (by decide) (by decide)) (nomark _))))) (@pss_cons _ _ _ _ _ (@ps_set _ _ (10) _ _ _ _ sc_law_text.nd rfl (Or.inl rfl) (@pe_cal _ _ _ _ _ _ _ _ _ _ c__law_pick (hr.mono (by decide)) (by rfl) (@pa_cons _ _ _ _ _ (@pv _ 0 _ _ (by rfl) (by first | exact Or.inl rfl | exact Or.inr (Or.inl rfl) | exact Or.inr (Or.inr rfl)) (by decide) (by decide)) (@pa_cons _ _ _ _ _ (@pe_callB _ _ _ _ _ _ _ _ _ call_len_str (by rfl) T.n_len (by decide +kernel) (@pa_cons _ _ _ _ _ (@pv _ 7 _ _ (by rfl) (by first | exact Or.inl rfl | exact Or.inr (Or.inl rfl) | exact Or.inr (Or.inr rfl)) (by decide) (by decide)) pa_nil (by rfl)) (by decide) (by decide) (by rfl) (by rfl)) pa_nil (by rfl)) (by rfl)) (by decide) (by rfl) (by rfl)) (by rfl) (by first | exact .inl rfl | exact .inr rfl)) (@pss_one _ _ _ (@ps_set _ _ (7) _ _ _ _ sc_law_text.nd rfl (Or.inl rfl) (@pe_op _ _ _ _ _ _ _ _ op_add_str (@pe_op _ _ _ _ _ _ _ _ op_add_str (@pv _ 7 _ _ (by rfl) (by first | exact Or.inl rfl | exact Or.inr (Or.inl rfl) | exact Or.inr (Or.inr rfl)) (by decide) (by decide)) (@pe_slice _ _ _ _ _ _ _ _ _ _ sl_str (@pv _ 7 _ _ (by rfl) (by first | exact Or.inl rfl | exact Or.inr (Or.inl rfl) | exact Or.inr (Or.inr rfl)) (by decide) (by decide)) (@po_some _ _ _ (@pv _ 10 _ _ (by rfl) (by first | exact Or.inl rfl | exact Or.inr (Or.inl rfl) | exact Or.inr (Or.inr rfl)) (by decide) (by decide))) (@po_some _ _ _ (@pe_op _ _ _ _ _ _ _ _ op_add (@pe_op _ _ _ _ _ _ _ _ op_add (@pv _ 10 _ _ (by rfl) (by first | exact Or.inl rfl | exact Or.inr (Or.inl rfl) | exact Or.inr (Or.inr rfl)) (by decide) (by decide)) pe_int) (@pe_cal _ _ _ _ _ _ _ _ _ _ c__law_pick (hr.mono (by decide)) (by rfl) (@pa_cons _ _ _ _ _ (@pv _ 0 _ _ (by rfl) (by first | exact Or.inl rfl | exact Or.inr (Or.inl rfl) | exact Or.inr (Or.inr rfl)) (by decide) (by decide)) (@pa_cons _ _ _ _ _ pe_int pa_nil (by rfl)) (by rfl)) (by decide) (by rfl) (by rfl)))))) (@pe_ix _ _ _ _ _ _ _ ix_str (@pv _ 2 _ _ (by rfl) (by first | exact Or.inl rfl | exact Or.inr (Or.inl rfl) | exact Or.inr (Or.inr rfl)) (by decide) (by decide)) (@pe_cal _ _ _ _ _ _ _ _ _ _ c__law_pick (hr.mono (by decide)) (by rfl) (@pa_cons _ _ _ _ _ (@pv _ 0 _ _ (by rfl) (by first | exact Or.inl rfl | exact Or.inr (Or.inl rfl) | exact Or.inr (Or.inr rfl)) (by decide) (by decide)) (@pa_cons _ _ _ _ _ (@pe_callB _ _ _ _ _ _ _ _ _ call_len_str (by rfl) T.n_len (by decide +kernel) (@pa_cons _ _ _ _ _ (@pv _ 2 _ _ (by rfl) (by first | exact Or.inl rfl | exact Or.inr (Or.inl rfl) | exact Or.inr (Or.inr rfl)) (by decide) (by decide)) pa_nil (by rfl)) (by decide) (by decide) (by rfl) (by rfl)) pa_nil (by rfl)) (by rfl)) (by decide) (by rfl) (by rfl)) (fun _ _ => rfl))) (by rfl) (by first | exact .inl rfl | exact .inr rfl))))) (@pss_cons _ _ _ _ _ (@ps_while _ _ _ _ _ _ PassesOwn.never (@PW.pt _ _ _ (@pw_and _ _ _ _ _ _ _ (@pt_cmpR _ _ _ _ _ _ _ _ op_eq (@pv _ 4 _ _ (by rfl) (by first | exact Or.inl rfl | exact Or.inr (Or.inl rfl) | exact Or.inr (Or.inr rfl)) (by decide) (by decide)) pe_int (nomark _)) (@pw_and1 _ _ _ _ (@pt_cmpR _ _ _ _ _ _ _ _ op_lt (@pe_callB _ _ _ _ _ _ _ _ _ call_len_str (by rfl) T.n_len (by decide +kernel) (@pa_cons _ _ _ _ _ (@pv _ 7 _ _ (by rfl) (by first | exact Or.inl rfl | exact Or.inr (Or.inl rfl) | exact Or.inr (Or.inr rfl)) (by decide) (by decide)) pa_nil (by rfl)) (by decide) (by decide) (by rfl) (by rfl)) (@pv _ 3 _ _ (by rfl) (by first | exact Or.inl rfl | exact Or.inr (Or.inl rfl) | exact Or.inr (Or.inr rfl)) (by decide) (by decide)) (nomark _))))) (@pss_one _ _ _ (@ps_set _ _ (7) _ _ _ _ sc_law_text.nd rfl (Or.inl rfl) (@pe_op _ _ _ _ _ _ _ _ op_add_str (@pv _ 7 _ _ (by rfl) (by first | exact Or.inl rfl | exact Or.inr (Or.inl rfl) | exact Or.inr (Or.inr rfl)) (by decide) (by decide)) (@pe_ix _ _ _ _ _ _ _ ix_str (@pv _ 2 _ _ (by rfl) (by first | exact Or.inl rfl | exact Or.inr (Or.inl rfl) | exact Or.inr (Or.inr rfl)) (by decide) (by decide)) (@pe_cal _ _ _ _ _ _ _ _ _ _ c__law_pick (hr.mono (by decide)) (by rfl) (@pa_cons _ _ _ _ _ (@pv _ 0 _ _ (by rfl) (by first | exact Or.inl rfl | exact Or.inr (Or.inl rfl) | exact Or.inr (Or.inr rfl)) (by decide) (by decide)) (@pa_cons _ _ _ _ _ (@pe_callB _ _ _ _ _ _ _ _ _ call_len_str (by rfl) T.n_len (by decide +kernel) (@pa_cons _ _ _ _ _ (@pv _ 2 _ _ (by rfl) (by first | exact Or.inl rfl | exact Or.inr (Or.inl rfl) | exact Or.inr (Or.inr rfl)) (by decide) (by decide)) pa_nil (by rfl)) (by decide) (by decide) (by rfl) (by rfl)) pa_nil (by rfl)) (by rfl)) (by decide) (by rfl) (by rfl)) (fun _ _ => rfl))) (by rfl) (by first | exact .inl rfl | exact .inr rfl)))) (@pss_one _ _ _ (@ps_ret _ _ _ _ (@pe_slice _ _ _ _ _ _ _ _ _ _ sl_str (@pv _ 7 _ _ (by rfl) (by first | exact Or.inl rfl | exact Or.inr (Or.inl rfl) | exact Or.inr (Or.inr rfl)) (by decide) (by decide)) po_none (@po_some _ _ _ (@pv _ 3 _ _ (by rfl) (by first | exact Or.inl rfl | exact Or.inr (Or.inl rfl) | exact Or.inr (Or.inr rfl)) (by decide) (by decide))))))))))))))), ?_⟩
    have hS : sizeLine = 16777216 := szl
    -- letters
    refine ⟨by rw [hS]; show 4 ≤ 16777216; decide, fun l hl => ⟨_, rfl, r, 4, rfl, by decide, by decide, rl.upd_new hl, fun d H1 d0 d1 rl1 off1 => ?_⟩⟩
    have hl1 := off1 l _ upd_same (rl.ne hl)
    obtain ⟨z, hz0, hz, hz1, hz2⟩ : ∃ z : Str, atI [V.str (Str.ofString "a"), V.str (Str.ofString "ab"), V.str (Str.ofString "bac"), V.str (Str.ofString "zyxw")] d = some (V.str z) ∧ Lets z ∧ 1 ≤ z.length ∧ z.length ≤ 26 := by
      rcases (by omega : d = 0 ∨ d = 1 ∨ d = 2 ∨ d = 3) with e | e | e | e <;> (subst e; exact ⟨_, rfl, by unfold Lets; decide +kernel, by decide +kernel, by decide +kernel⟩)
    refine ⟨l, _, _, _, rfl, rfl, SqL.of hl1, hz0, ?_⟩
    have offA : Off r H H1 := ((Same.upd_new hl).off).trans off1
    clear hl1 hz0 off1 hl
    · skip
      -- many, way
      refine ⟨_, rfl, _, rfl, _, _, rfl, rfl, r, most + 1, rfl, by omega, by omega, rl1, fun many H2 m0 m1 rl2 off2 => ?_⟩
      refine ⟨_, rfl, r, 5, rfl, by decide, by decide, rl2, fun way H3 w0 w1 rl3 off3 => ?_⟩
      -- some
      refine ⟨_, rfl, r, 5, rfl, by decide, by decide, rl3, fun d5 H4 a0 a1 rl4 off4 => ⟨_, _, rfl, rfl, 1 + d5, rfl, by omega, by omega, fun D hD => ?_⟩⟩
      have offB : Off r H H4 := offA.trans (off2.trans (off3.trans off4))
      clear offA off2 off3 off4
      have nD := rl4.ne hD
      refine lc_range (lo := 0) (n := (1 + d5).toNat) (fun i H' => Rl H' r ∧ Off r H4 H' ∧ ∃ ys : List Str, H' D = some (.lst (ys.map V.str)) ∧ ys.length = i ∧ Ones ys)
        ⟨rl4.upd_new hD, (Same.upd_new hD).off, [], upd_same, rfl, fun y m => nomatch m⟩ ?_ ?_
      · rintro i H5 hi ⟨rl5, off5, ys, hD5, hly, on⟩
        refine ⟨rfl, _, rfl, _, rfl, _, rfl, z, rfl, by omega, r, _, rfl, by omega, by omega, rl5, fun c H6 c0 c1 rl6 off6 => ?_⟩
        obtain ⟨cc, hc1, hc2⟩ := at_in (xs := z.cps.toList) c0 (by rw [Array.length_toList]; exact c1)
        have hD6 := off6 D _ hD5 nD
        refine ⟨z, c, cc, rfl, rfl, by omega, hc1, ys.map V.str, hD6, by rw [List.length_map]; omega, rl6.upd_ne nD, fun b o hb nb => ?_, ys ++ [⟨#[cc]⟩], ?_, by simp [hly], ?_⟩
        · rw [upd_ne (ne_of_none hb hD)]
          exact off6 b o (off5 b o hb nb) nb
        · rw [upd_same, map_app1]
        · intro y my
          rcases List.mem_append.mp my with my | my
          · exact on y my
          · exact ⟨cc, List.mem_singleton.mp my, hz cc hc2⟩
      · rintro H5 ⟨rl5, off5, ys, hD5, hly, on⟩
        obtain ⟨j1, j2⟩ := ones_join (e := Str.ofString "") (by decide +kernel) on
        refine ⟨⟨_, rfl⟩, _, rfl, _, D, ys, rfl, rfl, .inl (SqL.of hD5), ?_, ?_⟩
        · rw [sum_len1 on, hly]
          have : (Str.ofString "").length = 0 := by decide +kernel
          rw [this]
          omega
        have x1 : 1 ≤ (Txt.join (Str.ofString "") ys).length := by omega
        have x2 : (Txt.join (Str.ofString "") ys).length ≤ 5 := by omega
        generalize Txt.join (Str.ofString "") ys = x at j1 x1 x2
        have offC : Off r H H5 := offB.trans off5
        clear offB off5 hD5 on hly j2 hD nD
        try dsimp only
        -- if way == 1
        refine seq_after (fun σ' H' => ∃ (x : Str), σ' = tst r most z many way (some (.ref D)) none x none none none ∧ H' = H5 ∧ Lets x ∧ 1 ≤ x.length ∧ x.length ≤ 2000) ?_ (fun cont => ?_)
        · rintro _ H5 ⟨x, rfl, rfl, hx, x1, x2⟩
          try dsimp only
          -- if way == 2
          refine seq_after (fun σ' H' => ∃ (x : Str) (a b : Option V), σ' = tst r most z many way (some (.ref D)) none x a b none ∧ H' = H5 ∧ Lets x ∧ 1 ≤ x.length ∧ x.length ≤ 2000) ?_ (fun cont => ?_)
          · rintro _ H5 ⟨x, a, b, rfl, rfl, hx, x1, x2⟩
            try dsimp only
            -- while way > 2
            refine seq_after (fun σ' H' => ∃ (x : Str) (c : Option V), σ' = tst r most z many way (some (.ref D)) none x a b c ∧ Lets x ∧ x.length ≤ 2000 ∧ Rl H' r ∧ Off r H H') ?_ (fun cont => ?_)
            · rintro _ H6 ⟨x, c, rfl, hx, x2, rl6, off6⟩
              try dsimp only
              -- while way == 0
              refine seq_after (fun σ' H' => ∃ (x : Str), σ' = tst r most z many way (some (.ref D)) none x a b c ∧ Lets x ∧ x.length ≤ 2000 ∧ Rl H' r ∧ Off r H H') ?_ (fun cont => ?_)
              · rintro _ H7 ⟨x, rfl, hx, x2, rl7, off7⟩
                refine ⟨_, rfl, _, rfl, many, rfl, x, rfl, by omega, ?_⟩
                exact k _ H7 (hx.cut _ _) (by rw [len_take m0]; omega) rl7 off7
              refine ⟨fun m σ' H' => ∃ (x : Str), m = many.toNat - x.length ∧ σ' = tst r most z many way (some (.ref D)) none x a b c ∧ Lets x ∧ x.length ≤ 2000 ∧ Rl H' r ∧ Off r H H', ⟨_, x, rfl, rfl, hx, x2, rl6, off6⟩, ?_⟩
              rintro m _ H7 ⟨x, rfl, rfl, hx, x2, rl7, off7⟩
              refine ⟨_, rfl, rfl, _, rfl, ?_⟩
              refine ite2 (fun _ => ?_) (fun _ => ?_)
              · refine ⟨_, rfl, x, rfl, by omega, _, rfl, _, _, rfl, rfl, _, rfl, ?_⟩
                refine ite2 (fun hlt => ?_) (fun _ => ?_)
                · have hlt : (x.length : Int) < many := of_decide_eq_true hlt
                  refine ⟨fun σ' H' => ∃ (y : Str), σ' = tst r most z many way (some (.ref D)) none y a b c ∧ Lets y ∧ x.length < y.length ∧ y.length ≤ 2000 ∧ Rl H' r ∧ Off r H H', ?_, ?_⟩
                  · rintro _ H8 ⟨y, rfl, hy, hy1, hy2, rl8, off8⟩
                    exact ⟨_, by omega, y, rfl, rfl, hy, hy2, rl8, off8⟩
                  refine ⟨_, rfl, _, rfl, _, rfl, _, rfl, z, rfl, by omega, r, _, rfl, by omega, by omega, rl7, fun t H8 t0 t1 rl8 off8 => ?_⟩
                  obtain ⟨cc, hc1, hc2⟩ := at_in (xs := z.cps.toList) t0 (by rw [Array.length_toList]; exact t1)
                  refine ⟨z, t, cc, rfl, rfl, by omega, hc1, _, _, rfl, rfl, by show x.length + 1 ≤ _; omega, ?_⟩
                  exact ⟨_, rfl, hx.app (Lets.one (hz cc hc2)), by rw [len_app]; show _ < _ + 1; omega, by rw [len_app]; show _ + 1 ≤ _; omega, rl8, off7.trans off8⟩
                · exact cont _ _ ⟨x, rfl, hx, x2, rl7, off7⟩
              · exact cont _ _ ⟨x, rfl, hx, x2, rl7, off7⟩
            refine ⟨fun m σ' H' => ∃ (x : Str) (c : Option V), m = many.toNat - x.length ∧ σ' = tst r most z many way (some (.ref D)) none x a b c ∧ Lets x ∧ 1 ≤ x.length ∧ x.length ≤ 2000 ∧ Rl H' r ∧ Off r H H', ⟨_, x, none, rfl, rfl, hx, x1, x2, rl5, offC⟩, ?_⟩
            rintro m _ H6 ⟨x, c, rfl, rfl, hx, x1, x2, rl6, off6⟩
            refine ⟨_, rfl, _, _, rfl, rfl, _, rfl, ?_⟩
            refine ite2 (fun _ => ?_) (fun _ => ?_)
            · refine ⟨_, rfl, x, rfl, by omega, _, rfl, _, _, rfl, rfl, _, rfl, ?_⟩
              refine ite2 (fun hlt => ?_) (fun _ => ?_)
              · have hlt : (x.length : Int) < many := of_decide_eq_true hlt
                refine ⟨fun σ' H' => ∃ (y : Str) (c : Option V), σ' = tst r most z many way (some (.ref D)) none y a b c ∧ Lets y ∧ x.length < y.length ∧ y.length ≤ 2000 ∧ Rl H' r ∧ Off r H H', ?_, ?_⟩
                · rintro _ H8 ⟨y, c, rfl, hy, hy1, hy2, rl8, off8⟩
                  exact ⟨_, by omega, y, c, rfl, rfl, hy, by omega, hy2, rl8, off8⟩
                refine ⟨_, rfl, _, rfl, x, rfl, by omega, r, _, rfl, by omega, by omega, rl6, fun st H7 s0 s1 rl7 off7 => ?_⟩
                refine ⟨_, rfl, _, rfl, _, rfl, _, rfl, _, rfl, _, _, rfl, rfl, _, rfl, r, 6, rfl, by decide, by decide, rl7, fun t H8 t0 t1 rl8 off8 => ⟨_, _, rfl, rfl, _, rfl, x, rfl, by omega, _, _, rfl, rfl, ?_, _, rfl, _, rfl, _, rfl, z, rfl, by omega, r, _, rfl, by omega, by omega, rl8, fun q H9 q0 q1 rl9 off9 => ?_⟩⟩
                · rw [len_mid s0 (by omega)]
                  omega
                obtain ⟨cc, hc1, hc2⟩ := at_in (xs := z.cps.toList) q0 (by rw [Array.length_toList]; exact q1)
                refine ⟨z, q, cc, rfl, rfl, by omega, hc1, _, _, rfl, rfl, ?_, ?_⟩
                · rw [len_app, len_mid s0 (by omega)]
                  show _ + 1 ≤ _
                  omega
                · refine ⟨_, _, rfl, (hx.app (hx.cut _ _)).app (Lets.one (hz cc hc2)), ?_, ?_, rl9, off6.trans (off7.trans (off8.trans off9))⟩
                  · rw [len_app, len_app, len_mid s0 (by omega)]
                    show _ < _ + 1
                    omega
                  · rw [len_app, len_app, len_mid s0 (by omega)]
                    show _ + 1 ≤ _
                    omega
              · exact cont _ _ ⟨x, c, rfl, hx, x2, rl6, off6⟩
            · exact cont _ _ ⟨x, c, rfl, hx, x2, rl6, off6⟩
          -- way == 2
          refine ⟨_, rfl, rfl, _, rfl, ?_⟩
          refine ite2 (fun _ => ?_) (fun _ => ?_)
          · obtain ⟨cc, hc1, hc2⟩ := at_last (xs := z.cps.toList) (by rw [Array.length_toList]; exact hz1)
            refine ⟨_, rfl, _, rfl, _, rfl, z, _, cc, rfl, rfl, by omega, hc1, _, _, rfl, ?_⟩
            try dsimp only
            refine seq_after (fun σ' H' => ∃ (x' one : Str) (b : Option V), σ' = tst r most z many way (some (.ref D)) none x' (some (.str one)) b none ∧ H' = H5 ∧ Lets one ∧ 1 ≤ one.length ∧ one.length ≤ 2000) ?_ (fun cont2 => ?_)
            · rintro _ H5 ⟨x', one, b, rfl, rfl, ho, o1, o2⟩
              exact ⟨_, rfl, cont _ _ ⟨one, _, _, rfl, rfl, ho, o1, o2⟩⟩
            refine ⟨fun m σ' H' => ∃ (one other : Str), m = many.toNat - one.length ∧ σ' = tst r most z many way (some (.ref D)) none x (some (.str one)) (some (.str other)) none ∧ H' = H5 ∧ Lets one ∧ Lets other ∧ 1 ≤ other.length ∧ other.length ≤ one.length ∧ one.length ≤ 2000, ⟨_, x, ⟨#[cc]⟩, rfl, rfl, rfl, hx, Lets.one (hz cc hc2), by show 1 ≤ 1; omega, by show 1 ≤ _; omega, x2⟩, ?_⟩
            rintro m _ H5 ⟨one, other, rfl, rfl, rfl, ho, hot, o1, o2, o3⟩
            refine ⟨_, rfl, one, rfl, by omega, _, rfl, _, _, rfl, rfl, _, rfl, ?_⟩
            refine ite2 (fun hlt => ?_) (fun _ => ?_)
            · have hlt : (one.length : Int) < many := of_decide_eq_true hlt
              refine ⟨fun σ' H' => σ' = tst r most z many way (some (.ref D)) none x (some (.str (one ++ other))) (some (.str one)) none ∧ H' = H5, ?_, ?_⟩
              · rintro _ _ ⟨rfl, rfl⟩
                exact ⟨_, by rw [len_app]; omega, _, _, rfl, rfl, rfl, ho.app hot, ho, by omega, by rw [len_app]; omega, by rw [len_app]; omega⟩
              refine ⟨_, rfl, _, rfl, _, _, rfl, rfl, by omega, _, rfl, _, _, rfl, ?_⟩
              exact ⟨rfl, rfl⟩
            · exact cont2 _ _ ⟨x, one, _, rfl, rfl, ho, by omega, o3⟩
          · exact cont _ _ ⟨x, none, none, rfl, rfl, hx, x1, x2⟩
        -- way == 1
        refine ⟨_, rfl, rfl, _, rfl, ?_⟩
        refine ite2 (fun _ => ?_) (fun _ => ?_)
        · refine ⟨_, rfl, _, rfl, _, _, rfl, rfl, x, _, rfl, rfl, by omega, by omega, ?_, fun u hu => ?_⟩
          · have : x.length * (most + 1).toNat ≤ 5 * 301 := Nat.mul_le_mul x2 (by omega)
            omega
          · obtain ⟨u1, u2⟩ := Lets.rep j1 hu
            have l1 : (most + 1).toNat * x.length ≤ 301 * 5 := Nat.mul_le_mul (by omega) x2
            have l2 : 1 * 1 ≤ (most + 1).toNat * x.length := Nat.mul_le_mul (by omega) x1
            exact cont _ _ ⟨u, rfl, rfl, u1, by omega, by omega⟩
        · exact cont _ _ ⟨x, rfl, rfl, j1, x1, by omega⟩
end
end K20

set_option Elab.async false
set_option linter.all false
set_option maxRecDepth 100000
set_option maxHeartbeats 1000000
namespace K20
open PySem L2
def isl (c : Nat) : Bool := decide (97 ≤ c) && decide (c ≤ 122)
theorem lt1 (a b : Nat) : (([a] : List Nat) < [b]) ↔ a < b := by
  rw [List.cons_lt_cons_iff]
  constructor
  · rintro (h | ⟨_, h⟩)
    · exact h
    · exact absurd h (List.lt_irrefl _)
  · exact .inl
def spIsLet : Sp := fun vs H Q _ => ∃ c : Nat, vs = [.str ⟨#[c]⟩] ∧ Q (.bl (isl c)) H
/-- the test 'a' <= sign <= 'z' -/
theorem az (c : Nat) : (if (!decide (([c] : List Nat) < (Str.ofString "a").cps.toList)) = true then !decide ((Str.ofString "z").cps.toList < ([c] : List Nat)) else false) = isl c := by
  have e1 : (Str.ofString "a").cps.toList = [97] := by decide +kernel
  have e2 : (Str.ofString "z").cps.toList = [122] := by decide +kernel
  rw [e1, e2]
  unfold isl
  rw [show decide (([c] : List Nat) < [97]) = decide (c < 97) from decide_eq_decide.mpr (lt1 _ _), show decide (([122] : List Nat) < [c]) = decide (122 < c) from decide_eq_decide.mpr (lt1 _ _)]
  by_cases h1 : c < 97
  · simp [h1]; omega
  · by_cases h2 : 122 < c
    · simp [h1, h2]
    · simp [h1, h2]; omega
section
variable {P : Program} {w : World} {K : PySem.W.Frag} {mg : Str → Option Value} {base : Heap}
theorem ok_isLet (F : FunN K mg "is_letter" s_is_letter P_is_letter) (T : Bu mg) : Cal P w K mg base 1 "is_letter" P_is_letter spIsLet := by
  refine cal_of F sc_is_letter (fun vs H Q E h => ?_) (fun f cdv A outer s H vs Q E hr h => ?_)
  · obtain ⟨c, rfl, _⟩ := h
    rfl
  · obtain ⟨c, rfl, k⟩ := h
    refine ⟨_, (@pss_one _ _ _ (@ps_ret _ _ _ _ (@pe_chain _ _ _ _ _ _ _ _ _ _ _ _ op_le_str op_le_str pe_str (@pv _ 0 _ _ (by rfl) (by first | exact Or.inl rfl | exact Or.inr (Or.inl rfl) | exact Or.inr (Or.inr rfl)) (by decide) (by decide)) pe_str (by with_unfolding_all rfl)))), ?_⟩
    have ea := az c
    refine ⟨_, rfl, _, _, rfl, rfl, _, rfl, ?_⟩
    refine ite2 (fun h1 => ?_) (fun h1 => ?_)
    · rw [if_pos h1] at ea
      refine ⟨_, _, rfl, rfl, ?_⟩
      show Q (.bl _) H
      rw [ea]
      exact k
    · rw [if_neg h1] at ea
      show Q (.bl false) H
      rw [ea]
      exact k
end
def OffL (rs : List Addr) (H H' : Hp) : Prop := ∀ b o, H b = some o → b ∉ rs → H' b = some o
theorem Same.offL {H H' : Hp} {rs : List Addr} (h : Same H H') : OffL rs H H' := fun b o e _ => h b o e
theorem Off.offL {H H' : Hp} {r : Addr} {rs : List Addr} (h : Off r H H') (m : r ∈ rs) : OffL rs H H' := fun b o e n => h b o e fun z => n (z ▸ m)
mutual
/-- data that stands at addresses beyond rs -/
inductive Dx (rs : List Addr) (H : Hp) : V → PyData → Prop
  | non : Dx rs H .non .none
  | bl (b : Bool) : Dx rs H (.bl b) (.bool b)
  | int (z : Int) : Dx rs H (.int z) (.int z)
  | str (x : Str) : Dx rs H (.str x) (.str x)
  | tup {a : Addr} {vs : List V} {ds : List PyData} : H a = some (.tup vs) → a ∉ rs → DxAll rs H vs ds → Dx rs H (.ref a) (.tuple ds)
  | lst {a : Addr} {vs : List V} {ds : List PyData} : H a = some (.lst vs) → a ∉ rs → DxAll rs H vs ds → Dx rs H (.ref a) (.list ds)
inductive DxAll (rs : List Addr) (H : Hp) : List V → List PyData → Prop
  | nil : DxAll rs H [] []
  | cons {v : V} {vs : List V} {d : PyData} {ds : List PyData} : Dx rs H v d → DxAll rs H vs ds → DxAll rs H (v :: vs) (d :: ds)
end
mutual
theorem Dx.off {rs : List Addr} {H H' : Hp} (o : OffL rs H H') : ∀ {v : V} {d : PyData}, Dx rs H v d → Dx rs H' v d
  | _, _, .non => .non
  | _, _, .bl b => .bl b
  | _, _, .int z => .int z
  | _, _, .str x => .str x
  | _, _, .tup e n h => .tup (o _ _ e n) n (DxAll.off o h)
  | _, _, .lst e n h => .lst (o _ _ e n) n (DxAll.off o h)
theorem DxAll.off {rs : List Addr} {H H' : Hp} (o : OffL rs H H') : ∀ {vs : List V} {ds : List PyData}, DxAll rs H vs ds → DxAll rs H' vs ds
  | _, _, .nil => .nil
  | _, _, .cons a b => .cons (Dx.off o a) (DxAll.off o b)
end
mutual
theorem Dx.dp {K : PySem.W.Frag} {rs : List Addr} {H : Hp} : ∀ {v : V} {d : PyData}, Dx rs H v d → Dp K H v d
  | _, _, .non => .non
  | _, _, .bl b => .bl b
  | _, _, .int z => .int z
  | _, _, .str x => .str x
  | _, _, .tup e n h => .tup (SqT.of e) (DxAll.dp h)
  | _, _, .lst e n h => .lst (SqL.of e) (DxAll.dp h)
theorem DxAll.dp {K : PySem.W.Frag} {rs : List Addr} {H : Hp} : ∀ {vs : List V} {ds : List PyData}, DxAll rs H vs ds → DpAll K H vs ds
  | _, _, .nil => .nil
  | _, _, .cons a b => .cons (Dx.dp a) (DxAll.dp b)
end
theorem DxAll.len {rs : List Addr} {H : Hp} : ∀ {vs : List V} {ds : List PyData}, DxAll rs H vs ds → vs.length = ds.length
  | _, _, .nil => rfl
  | _, _, .cons _ b => by rw [List.length_cons, List.length_cons, b.len]
theorem DxAll.app {rs : List Addr} {H : Hp} : ∀ {vs ws : List V} {ds es : List PyData}, DxAll rs H vs ds → DxAll rs H ws es → DxAll rs H (vs ++ ws) (ds ++ es)
  | _, _, _, _, .nil, h => h
  | _, _, _, _, .cons a b, h => .cons a (b.app h)
theorem DxAll.drop {rs : List Addr} {H : Hp} : ∀ {vs : List V} {ds : List PyData} (n : Nat), DxAll rs H vs ds → DxAll rs H (vs.drop n) (ds.drop n)
  | _, _, 0, h => h
  | _, _, _ + 1, .nil => .nil
  | _, _, n + 1, .cons _ b => b.drop n
theorem DxAll.take {rs : List Addr} {H : Hp} : ∀ {vs : List V} {ds : List PyData} (n : Nat), DxAll rs H vs ds → DxAll rs H (vs.take n) (ds.take n)
  | _, _, 0, _ => .nil
  | _, _, _ + 1, .nil => .nil
  | _, _, n + 1, .cons a b => .cons a (b.take n)
theorem DxAll.cut {rs : List Addr} {H : Hp} {vs : List V} {ds : List PyData} (h : DxAll rs H vs ds) (lo hi : Option Int) : ∃ i j, DxAll rs H (cutV vs lo hi) ((ds.drop i).take j) := ⟨_, _, (h.drop _).take _⟩
theorem DxAll.at' {rs : List Addr} {H : Hp} : ∀ {vs : List V} {ds : List PyData}, DxAll rs H vs ds → ∀ {i : Nat} {v : V}, vs[i]? = some v → ∃ d, ds[i]? = some d ∧ Dx rs H v d
  | _, _, .nil, i, v, e => by simp at e
  | _, _, .cons a b, 0, v, e => by cases e; exact ⟨_, rfl, a⟩
  | _, _, .cons a b, i + 1, v, e => by
    obtain ⟨d, e', q⟩ := b.at' (i := i) (v := v) (by simpa using e)
    exact ⟨d, by simpa using e', q⟩
def letL : List Nat → Bool
  | [c] => isl c
  | _ => false
def letD : PyData → Bool
  | .str s => letL (cs s)
  | _ => false
def whD : PyData → Bool
  | .int _ => true
  | _ => false
theorem one_of {s : Str} (h : s.length = 1) : ∃ c, s = ⟨#[c]⟩ := by
  have hl : (cs s).length = 1 := by rw [cs_len]; exact h
  match e : cs s, hl with
  | [c], _ => exact ⟨c, cs_inj (by rw [e])⟩
theorem letD_len {s : Str} (h : s.length ≠ 1) : letD (.str s) = false := by
  have hl : (cs s).length ≠ 1 := by rw [cs_len]; exact h
  show letL (cs s) = false
  match cs s, hl with
  | [], _ => rfl
  | [c], hl => exact absurd rfl hl
  | _ :: _ :: _, _ => rfl
def spOne : Sp := fun vs H Q _ => ∃ (rs : List Addr) (v : V) (d : PyData), vs = [v] ∧ Dx rs H v d ∧ (∀ s, d = .str s → s.length ≤ 1000) ∧ Q (.bl (letD d)) H
def spWh : Sp := fun vs H Q _ => ∃ (rs : List Addr) (v : V) (d : PyData), vs = [v] ∧ Dx rs H v d ∧ Q (.bl (whD d)) H
def shortS : PyData → Prop
  | .str s => s.length ≤ 1000
  | _ => True
section
variable {P : Program} {w : World} {K : PySem.W.Frag} {mg : Str → Option Value} {base : Heap}
theorem ok_one (F : FunN K mg "is_one_letter" s_is_one_letter P_is_one_letter) (T : Bu mg) (c_is_letter : Cal P w K mg base 1 "is_letter" P_is_letter spIsLet) : Cal P w K mg base 2 "is_one_letter" P_is_one_letter spOne := by
  refine cal_of F sc_is_one_letter (fun vs H Q E h => ?_) (fun f cdv A outer s H vs Q E hr h => ?_)
  · obtain ⟨rs, v, d, rfl, _⟩ := h
    rfl
  · obtain ⟨rs, v, d, rfl, dx, hs, k⟩ := h
    have hS : sizeLine = 16777216 := szl
    refine ⟨_, (@pss_one _ _ _ (@ps_ret _ _ _ _ (@pe_and _ _ _ _ _ _ _ (@pe_callB _ _ _ _ _ _ _ _ _ call_isi (by rfl) T.n_isinstance (by decide +kernel) (@pa_cons _ _ _ _ _ (@pv _ 0 _ _ (by rfl) (by first | exact Or.inl rfl | exact Or.inr (Or.inl rfl) | exact Or.inr (Or.inr rfl)) (by decide) (by decide)) (@pa_cons _ _ _ _ _ (@pe_bltn _ _ (V.ty "str") _ _ (by rfl) T.n_str (by decide +kernel) rfl (by decide) (by decide)) pa_nil (by rfl)) (by rfl)) (by decide) (by decide) (by rfl) (by rfl)) (@pe_and _ _ _ _ _ _ _ (@pe_cmpR _ _ _ _ _ _ _ _ op_eq (@pe_callB _ _ _ _ _ _ _ _ _ call_len_str (by rfl) T.n_len (by decide +kernel) (@pa_cons _ _ _ _ _ (@pv _ 0 _ _ (by rfl) (by first | exact Or.inl rfl | exact Or.inr (Or.inl rfl) | exact Or.inr (Or.inr rfl)) (by decide) (by decide)) pa_nil (by rfl)) (by decide) (by decide) (by rfl) (by rfl)) pe_int (nomark _)) (@pe_one _ _ _ _ _ (@pe_cal _ _ _ _ _ _ _ _ _ _ c_is_letter (hr.mono (by decide)) (by rfl) (@pa_cons _ _ _ _ _ (@pv _ 0 _ _ (by rfl) (by first | exact Or.inl rfl | exact Or.inr (Or.inl rfl) | exact Or.inr (Or.inr rfl)) (by decide) (by decide)) pa_nil (by rfl)) (by decide) (by rfl) (by rfl))))))), ?_⟩
    cases dx with
    | int z => exact ⟨_, rfl, _, _, _, _, rfl, .int z, kit_int_str, _, rfl, k⟩
    | bl b => exact ⟨_, rfl, _, _, _, _, rfl, .bl b, kit_bool_str, _, rfl, k⟩
    | non => exact ⟨_, rfl, _, _, _, _, rfl, .non, kit_none_str, _, rfl, k⟩
    | tup e n h => exact ⟨_, rfl, _, _, _, _, rfl, .tup e, kit_tuple_str, _, rfl, k⟩
    | lst e n h => exact ⟨_, rfl, _, _, _, _, rfl, .lst e, kit_list_str, _, rfl, k⟩
    | str x =>
      have hx := hs x rfl
      refine ⟨_, rfl, _, _, _, _, rfl, .str x, kit_str_str, _, rfl, ?_⟩
      refine ite2 (fun _ => ?_) (fun h => absurd rfl h)
      refine ⟨_, rfl, x, rfl, by omega, rfl, _, rfl, ?_⟩
      refine ite2 (fun h => ?_) (fun h => ?_)
      · have h1 : x.length = 1 := by have := V.int.inj (of_decide_eq_true h); omega
        obtain ⟨c, rfl⟩ := one_of h1
        exact ⟨_, rfl, c, rfl, k⟩
      · have h1 : x.length ≠ 1 := fun z => h (decide_eq_true (by rw [z]; rfl))
        have h0 : decide (V.int (x.length : Int) = V.int 1) = false := by cases q : decide (V.int (x.length : Int) = V.int 1) with | false => rfl | true => exact absurd q h
        rw [letD_len h1] at k
        exact k
theorem ok_wh (F : FunN K mg "is_whole" s_is_whole P_is_whole) (T : Bu mg) : Cal P w K mg base 1 "is_whole" P_is_whole spWh := by
  refine cal_of F sc_is_whole (fun vs H Q E h => ?_) (fun f cdv A outer s H vs Q E hr h => ?_)
  · obtain ⟨rs, v, d, rfl, _⟩ := h
    rfl
  · obtain ⟨rs, v, d, rfl, dx, k⟩ := h
    refine ⟨_, (@pss_one _ _ _ (@ps_ret _ _ _ _ (@pe_and _ _ _ _ _ _ _ (@pe_callB _ _ _ _ _ _ _ _ _ call_isi (by rfl) T.n_isinstance (by decide +kernel) (@pa_cons _ _ _ _ _ (@pv _ 0 _ _ (by rfl) (by first | exact Or.inl rfl | exact Or.inr (Or.inl rfl) | exact Or.inr (Or.inr rfl)) (by decide) (by decide)) (@pa_cons _ _ _ _ _ (@pe_bltn _ _ (V.ty "int") _ _ (by rfl) T.n_int (by decide +kernel) rfl (by decide) (by decide)) pa_nil (by rfl)) (by rfl)) (by decide) (by decide) (by rfl) (by rfl)) (@pe_one _ _ _ _ _ (@pe_not _ _ _ _ (@pe_callB _ _ _ _ _ _ _ _ _ call_isi (by rfl) T.n_isinstance (by decide +kernel) (@pa_cons _ _ _ _ _ (@pv _ 0 _ _ (by rfl) (by first | exact Or.inl rfl | exact Or.inr (Or.inl rfl) | exact Or.inr (Or.inr rfl)) (by decide) (by decide)) (@pa_cons _ _ _ _ _ (@pe_bltn _ _ (V.ty "bool") _ _ (by rfl) T.n_bool (by decide +kernel) rfl (by decide) (by decide)) pa_nil (by rfl)) (by rfl)) (by decide) (by decide) (by rfl) (by rfl))))))), ?_⟩
    cases dx with
    | int z => exact ⟨_, rfl, _, _, _, _, rfl, .int z, kit_int_int, _, rfl, ⟨_, rfl, _, _, _, _, rfl, .int z, kit_int_bool, _, rfl, k⟩⟩
    | bl b => exact ⟨_, rfl, _, _, _, _, rfl, .bl b, kit_bool_int, _, rfl, ⟨_, rfl, _, _, _, _, rfl, .bl b, kit_bool_bool, _, rfl, k⟩⟩
    | non => exact ⟨_, rfl, _, _, _, _, rfl, .non, kit_none_int, _, rfl, k⟩
    | str x => exact ⟨_, rfl, _, _, _, _, rfl, .str _, kit_str_int, _, rfl, k⟩
    | tup e n h => exact ⟨_, rfl, _, _, _, _, rfl, .tup e, kit_tuple_int, _, rfl, k⟩
    | lst e n h => exact ⟨_, rfl, _, _, _, _, rfl, .lst e, kit_list_int, _, rfl, k⟩
theorem sh_of {d : PyData} (h : shortS d) : ∀ s, d = .str s → s.length ≤ 1000 := fun s e => by subst e; exact h
end
end K20

set_option Elab.async false
set_option linter.all false
set_option maxRecDepth 100000
set_option maxHeartbeats 1000000
namespace K20
open PySem L2
def lenD : PyData → Int
  | .tuple [_, _, .int z] => z
  | _ => 1
def rchD : PyData → Int
  | .tuple [_, .int a, .int b] => a + b
  | _ => 0
def eqS (x : Str) (d : PyData) : Bool := PyData.eqv d (.str x)
def signD : List PyData → Bool
  | [a, b] => eqS (Str.ofString "sign") a && letD b
  | _ => false
def intGe (n : Int) : PyData → Bool
  | .int z => decide (n ≤ z)
  | _ => false
def copyD : List PyData → Bool
  | [a, b, c] => eqS (Str.ofString "copy") a && (whD b && (whD c && (intGe 0 b && intGe 1 c)))
  | _ => false
def partD : PyData → Bool
  | .tuple ds => signD ds || copyD ds
  | _ => false
def sumD (ds : List PyData) : Int := (ds.map lenD).sum
def formD : PyData → Bool
  | .tuple ds => ds.all partD && (decide (sumD ds ≤ 300) && ds.all fun d => decide (rchD d ≤ sumD ds))
  | _ => false
theorem eqS_str (x y : Str) : eqS x (.str y) = decide (y = x) := by
  unfold eqS
  simp only [PyData.eqv]
  rw [Bool.eq_iff_iff, beq_iff_eq, decide_eq_true_iff]
theorem eqS_not {x : Str} {d : PyData} (h : ∀ y, d ≠ .str y) : eqS x d = false := by
  unfold eqS
  cases d with
  | str y => exact absurd rfl (h y)
  | _ => simp [PyData.eqv]
theorem eqS_true {x : Str} {d : PyData} (h : eqS x d = true) : d = .str x := by
  cases d with
  | str y => rw [eqS_str] at h; rw [of_decide_eq_true h]
  | _ => rw [eqS_not (fun y e => by cases e)] at h; cases h
/-- what a part is -/
theorem part_cases {d : PyData} (h : partD d = true) : (∃ c, isl c = true ∧ d = .tuple [.str (Str.ofString "sign"), .str ⟨#[c]⟩]) ∨ ∃ a b : Int, 0 ≤ a ∧ 1 ≤ b ∧ d = .tuple [.str (Str.ofString "copy"), .int a, .int b] := by
  cases d with
  | tuple ds =>
    have h : (signD ds || copyD ds) = true := h
    rw [Bool.or_eq_true] at h
    rcases h with h | h
    · match ds, h with
      | [a, b], h =>
        have h : (eqS (Str.ofString "sign") a && letD b) = true := h
        rw [Bool.and_eq_true] at h
        have e := eqS_true h.1
        subst e
        cases b with
        | str s =>
          have hl : letL (cs s) = true := h.2
          match hc : cs s, hl with
          | [c], hl => exact .inl ⟨c, hl, by rw [show s = (⟨#[c]⟩ : Str) from cs_inj (by rw [hc])]⟩
        | _ => cases h.2
    · match ds, h with
      | [a, b, c], h =>
        have h : (eqS (Str.ofString "copy") a && (whD b && (whD c && (intGe 0 b && intGe 1 c)))) = true := h
        simp only [Bool.and_eq_true] at h
        obtain ⟨h1, h2, h3, h4, h5⟩ := h
        have e := eqS_true h1
        subst e
        cases b with
        | int z =>
          cases c with
          | int y => exact .inr ⟨z, y, of_decide_eq_true h4, of_decide_eq_true h5, rfl⟩
          | _ => cases h3
        | _ => cases h2
  | _ => cases h
def shp (d : PyData) : Prop := SeqAt.shaped d = true
/-- what stands in a part -/
def okE (ds : List PyData) : Prop := ∀ d ∈ ds, shortS d ∧ shp d
def okP (d : PyData) : Prop := ∀ ds, d = .tuple ds → ds.length ≤ 1000 ∧ okE ds
def spSg : Sp := fun vs H Q _ => ∃ (rs : List Addr) (a : Addr) (us : List V) (ds : List PyData), vs = [.ref a] ∧ H a = some (.tup us) ∧ DxAll rs H us ds ∧ okE ds ∧ Q (.bl (signD ds)) H
def spCy : Sp := fun vs H Q _ => ∃ (rs : List Addr) (a : Addr) (us : List V) (ds : List PyData), vs = [.ref a] ∧ H a = some (.tup us) ∧ DxAll rs H us ds ∧ okE ds ∧ Q (.bl (copyD ds)) H
def spPt : Sp := fun vs H Q _ => ∃ (rs : List Addr) (v : V) (d : PyData), vs = [v] ∧ Dx rs H v d ∧ okP d ∧ Q (.bl (partD d)) H
def spLenD : Sp := fun vs H Q _ => ∃ (rs : List Addr) (v : V) (d : PyData), vs = [v] ∧ Dx rs H v d ∧ partD d = true ∧ Q (.int (lenD d)) H
def spRchD : Sp := fun vs H Q _ => ∃ (rs : List Addr) (v : V) (d : PyData), vs = [v] ∧ Dx rs H v d ∧ partD d = true ∧ Q (.int (rchD d)) H
theorem shp_str (s : String) (h : PyData.strOk (Str.ofString s) = true) : SeqAt.shaped (.str (Str.ofString s)) = true := by
  unfold SeqAt.shaped
  simp [PyData.canLay0, PyData.depth, h]
theorem shp_sign : SeqAt.shaped (.str (Str.ofString "sign")) = true := shp_str _ (by decide +kernel)
theorem shp_copy : SeqAt.shaped (.str (Str.ofString "copy")) = true := shp_str _ (by decide +kernel)
theorem sign_not {ds : List PyData} (h : ds.length ≠ 2) : signD ds = false := by
  match ds, h with
  | [], _ => rfl
  | [_], _ => rfl
  | [_, _], h => exact absurd rfl h
  | _ :: _ :: _ :: _, _ => rfl
theorem copy_not {ds : List PyData} (h : ds.length ≠ 3) : copyD ds = false := by
  match ds, h with
  | [], _ => rfl
  | [_], _ => rfl
  | [_, _], _ => rfl
  | [_, _, _], h => exact absurd rfl h
  | _ :: _ :: _ :: _ :: _, _ => rfl
section
variable {P : Program} {w : World} {K : PySem.W.Frag} {mg : Str → Option Value} {base : Heap}
theorem ok_sg (F : FunN K mg "is_sign" s_is_sign P_is_sign) (T : Bu mg) (c_is_one_letter : Cal P w K mg base 2 "is_one_letter" P_is_one_letter spOne) : Cal P w K mg base 3 "is_sign" P_is_sign spSg := by
  refine cal_of F sc_is_sign (fun vs H Q E h => ?_) (fun f cdv A outer s H vs Q E hr h => ?_)
  · obtain ⟨rs, a, us, ds, rfl, _⟩ := h
    rfl
  · obtain ⟨rs, a, us, ds, rfl, ha, dx, ok, k⟩ := h
    have hS : sizeLine = 16777216 := szl
    have hlen := dx.len
    refine ⟨_, (@pss_one _ _ _ (@ps_ret _ _ _ _ (@pe_and _ _ _ _ _ _ _ (@pe_cmpR _ _ _ _ _ _ _ _ op_eq (@pe_callB _ _ _ _ _ _ _ _ _ call_len_seq (by rfl) T.n_len (by decide +kernel) (@pa_cons _ _ _ _ _ (@pv _ 0 _ _ (by rfl) (by first | exact Or.inl rfl | exact Or.inr (Or.inl rfl) | exact Or.inr (Or.inr rfl)) (by decide) (by decide)) pa_nil (by rfl)) (by decide) (by decide) (by rfl) (by rfl)) pe_int (nomark _)) (@pe_and _ _ _ _ _ _ _ (@pe_cmpR _ _ _ _ _ _ _ _ (op_eqD hr.units) (@pe_ix _ _ _ _ _ _ _ ix_tup (@pv _ 0 _ _ (by rfl) (by first | exact Or.inl rfl | exact Or.inr (Or.inl rfl) | exact Or.inr (Or.inr rfl)) (by decide) (by decide)) pe_int (fun _ _ => rfl)) pe_str (nomark _)) (@pe_one _ _ _ _ _ (@pe_cal _ _ _ _ _ _ _ _ _ _ c_is_one_letter (hr.mono (by decide)) (by rfl) (@pa_cons _ _ _ _ _ (@pe_ix _ _ _ _ _ _ _ ix_tup (@pv _ 0 _ _ (by rfl) (by first | exact Or.inl rfl | exact Or.inr (Or.inl rfl) | exact Or.inr (Or.inr rfl)) (by decide) (by decide)) pe_int (fun _ _ => rfl)) pa_nil (by rfl)) (by decide) (by rfl) (by rfl))))))), ?_⟩
    refine ⟨_, rfl, a, _, rfl, .inr (SqT.of ha), rfl, _, rfl, ?_⟩
    refine ite2 (fun h => ?_) (fun h => ?_)
    rotate_left
    · have h1 : ds.length ≠ 2 := fun z => h (decide_eq_true (by rw [hlen, z]; rfl))
      rw [sign_not h1] at k
      have h0 : decide (V.int (us.length : Int) = V.int 2) = false := by cases q : decide (V.int (us.length : Int) = V.int 2) with | false => rfl | true => exact absurd q h
      first | exact k | (rw [h0]; exact k)
    have h1 : ds.length = 2 := by have := V.int.inj (of_decide_eq_true h); omega
    match us, ds, dx, h1, ok with
    | [v0, v1], [d0, d1], .cons x0 (.cons x1 .nil), _, ok =>
      refine ⟨_, rfl, a, _, 0, v0, rfl, rfl, SqT.of ha, rfl, d0, .str (Str.ofString "sign"), x0.dp, .str _, (ok d0 (by simp)).2, shp_sign, _, rfl, ?_⟩
      have k : Q (.bl (eqS (Str.ofString "sign") d0 && letD d1)) H := k
      refine ite2 (fun h => ?_) (fun h => ?_)
      · have h : eqS (Str.ofString "sign") d0 = true := h
        rw [h, Bool.true_and] at k
        exact ⟨_, rfl, a, _, 1, v1, rfl, rfl, SqT.of ha, rfl, rs, v1, d1, rfl, x1, sh_of (ok d1 (by simp)).1, k⟩
      · have h : eqS (Str.ofString "sign") d0 = false := by cases q : eqS (Str.ofString "sign") d0 with | false => rfl | true => exact absurd q h
        rw [h, Bool.false_and] at k
        exact k
theorem ok_cy (F : FunN K mg "is_copy" s_is_copy P_is_copy) (T : Bu mg) (c_is_whole : Cal P w K mg base 1 "is_whole" P_is_whole spWh) : Cal P w K mg base 3 "is_copy" P_is_copy spCy := by
  refine cal_of F sc_is_copy (fun vs H Q E h => ?_) (fun f cdv A outer s H vs Q E hr h => ?_)
  · obtain ⟨rs, a, us, ds, rfl, _⟩ := h
    rfl
  · obtain ⟨rs, a, us, ds, rfl, ha, dx, ok, k⟩ := h
    have hS : sizeLine = 16777216 := szl
    have hlen := dx.len
    refine ⟨_, (@pss_cons _ _ _ _ _ (@ps_if _ _ _ _ _ _ _ _ (@PW.pt _ _ _ (@pw_or _ _ _ _ _ _ _ (@pt_cmpR _ _ _ _ _ _ _ _ op_ne (@pe_callB _ _ _ _ _ _ _ _ _ call_len_seq (by rfl) T.n_len (by decide +kernel) (@pa_cons _ _ _ _ _ (@pv _ 0 _ _ (by rfl) (by first | exact Or.inl rfl | exact Or.inr (Or.inl rfl) | exact Or.inr (Or.inr rfl)) (by decide) (by decide)) pa_nil (by rfl)) (by decide) (by decide) (by rfl) (by rfl)) pe_int (nomark _)) (@pw_or1 _ _ _ _ (@pt_cmpR _ _ _ _ _ _ _ _ (op_neD hr.units) (@pe_ix _ _ _ _ _ _ _ ix_tup (@pv _ 0 _ _ (by rfl) (by first | exact Or.inl rfl | exact Or.inr (Or.inl rfl) | exact Or.inr (Or.inr rfl)) (by decide) (by decide)) pe_int (fun _ _ => rfl)) pe_str (nomark _))))) (@pss_one _ _ _ (@ps_ret _ _ _ _ pe_bl)) pss_nil) (@pss_one _ _ _ (@ps_ret _ _ _ _ (@pe_and _ _ _ _ _ _ _ (@pe_cal _ _ _ _ _ _ _ _ _ _ c_is_whole (hr.mono (by decide)) (by rfl) (@pa_cons _ _ _ _ _ (@pe_ix _ _ _ _ _ _ _ ix_tup (@pv _ 0 _ _ (by rfl) (by first | exact Or.inl rfl | exact Or.inr (Or.inl rfl) | exact Or.inr (Or.inr rfl)) (by decide) (by decide)) pe_int (fun _ _ => rfl)) pa_nil (by rfl)) (by decide) (by rfl) (by rfl)) (@pe_and _ _ _ _ _ _ _ (@pe_cal _ _ _ _ _ _ _ _ _ _ c_is_whole (hr.mono (by decide)) (by rfl) (@pa_cons _ _ _ _ _ (@pe_ix _ _ _ _ _ _ _ ix_tup (@pv _ 0 _ _ (by rfl) (by first | exact Or.inl rfl | exact Or.inr (Or.inl rfl) | exact Or.inr (Or.inr rfl)) (by decide) (by decide)) pe_int (fun _ _ => rfl)) pa_nil (by rfl)) (by decide) (by rfl) (by rfl)) (@pe_and _ _ _ _ _ _ _ (@pe_cmpR _ _ _ _ _ _ _ _ op_ge (@pe_ix _ _ _ _ _ _ _ ix_tup (@pv _ 0 _ _ (by rfl) (by first | exact Or.inl rfl | exact Or.inr (Or.inl rfl) | exact Or.inr (Or.inr rfl)) (by decide) (by decide)) pe_int (fun _ _ => rfl)) pe_int (nomark _)) (@pe_one _ _ _ _ _ (@pe_cmpR _ _ _ _ _ _ _ _ op_ge (@pe_ix _ _ _ _ _ _ _ ix_tup (@pv _ 0 _ _ (by rfl) (by first | exact Or.inl rfl | exact Or.inr (Or.inl rfl) | exact Or.inr (Or.inr rfl)) (by decide) (by decide)) pe_int (fun _ _ => rfl)) pe_int (nomark _))))))))), ?_⟩
    refine ⟨_, rfl, a, _, rfl, .inr (SqT.of ha), rfl, _, rfl, ?_⟩
    refine ite2 (fun h => ?_) (fun h => ?_)
    · have h1 : ds.length ≠ 3 := fun z => by rw [hlen, z] at h; exact absurd h (by decide)
      rw [copy_not h1] at k
      exact k
    have h1 : ds.length = 3 := by
      by_cases q : ds.length = 3
      · exact q
      · refine absurd ?_ h
        have h0 : decide (V.int (us.length : Int) = V.int 3) = false := decide_eq_false fun z => q (by have := V.int.inj z; omega)
        rw [h0]; rfl
    match us, ds, dx, h1, ok with
    | [v0, v1, v2], [d0, d1, d2], .cons x0 (.cons x1 (.cons x2 .nil)), _, ok =>
      refine ⟨_, rfl, a, _, 0, v0, rfl, rfl, SqT.of ha, rfl, d0, .str (Str.ofString "copy"), x0.dp, .str _, (ok d0 (by simp)).2, shp_copy, _, rfl, ?_⟩
      have k : Q (.bl (eqS (Str.ofString "copy") d0 && (whD d1 && (whD d2 && (intGe 0 d1 && intGe 1 d2))))) H := k
      refine ite2 (fun h => ?_) (fun h => ?_)
      · have h : (!eqS (Str.ofString "copy") d0) = true := h
        have h : eqS (Str.ofString "copy") d0 = false := by simpa using h
        rw [h, Bool.false_and] at k
        exact k
      have h : ¬ (!eqS (Str.ofString "copy") d0) = true := h
      have h : eqS (Str.ofString "copy") d0 = true := by simpa using h
      rw [h, Bool.true_and] at k
      try unfold tNext
      dsimp only
      refine ⟨_, rfl, a, _, 1, v1, rfl, rfl, SqT.of ha, rfl, rs, v1, d1, rfl, x1, _, rfl, ?_⟩
      refine ite2 (fun h => ?_) (fun h => ?_)
      rotate_left
      · have h : whD d1 = false := by cases q : whD d1 with | false => rfl | true => exact absurd q h
        rw [h, Bool.false_and] at k
        first | exact k | (rw [h]; exact k)
      rw [h, Bool.true_and] at k
      refine ⟨_, rfl, a, _, 2, v2, rfl, rfl, SqT.of ha, rfl, rs, v2, d2, rfl, x2, _, rfl, ?_⟩
      refine ite2 (fun h => ?_) (fun h => ?_)
      rotate_left
      · have h : whD d2 = false := by cases q : whD d2 with | false => rfl | true => exact absurd q h
        rw [h, Bool.false_and] at k
        first | exact k | (rw [h]; exact k)
      rw [h, Bool.true_and] at k
      cases x1 with
      | int z =>
        cases x2 with
        | int y =>
          have k : Q (.bl (decide (0 ≤ z) && decide (1 ≤ y))) H := k
          refine ⟨_, rfl, a, _, 1, V.int z, rfl, rfl, SqT.of ha, rfl, _, _, rfl, rfl, _, rfl, ?_⟩
          refine ite2 (fun h => ?_) (fun h => ?_)
          rotate_left
          · have h : decide (0 ≤ z) = false := by cases q : decide (0 ≤ z) with | false => rfl | true => exact absurd q h
            rw [h, Bool.false_and] at k
            first | exact k | (rw [h]; exact k)
          have h : decide (0 ≤ z) = true := h
          rw [h, Bool.true_and] at k
          exact ⟨_, rfl, a, _, 2, V.int y, rfl, rfl, SqT.of ha, rfl, _, _, rfl, rfl, k⟩
        | _ => cases h
      | _ => first | (cases h; done) | (rename_i hh; cases hh)
theorem ok_pt (F : FunN K mg "is_part" s_is_part P_is_part) (T : Bu mg) (c_is_sign : Cal P w K mg base 3 "is_sign" P_is_sign spSg) (c_is_copy : Cal P w K mg base 3 "is_copy" P_is_copy spCy) : Cal P w K mg base 4 "is_part" P_is_part spPt := by
  refine cal_of F sc_is_part (fun vs H Q E h => ?_) (fun f cdv A outer s H vs Q E hr h => ?_)
  · obtain ⟨rs, v, d, rfl, _⟩ := h
    rfl
  · obtain ⟨rs, v, d, rfl, dx, ok, k⟩ := h
    refine ⟨_, (@pss_one _ _ _ (@ps_ret _ _ _ _ (@pe_and _ _ _ _ _ _ _ (@pe_callB _ _ _ _ _ _ _ _ _ call_isi (by rfl) T.n_isinstance (by decide +kernel) (@pa_cons _ _ _ _ _ (@pv _ 0 _ _ (by rfl) (by first | exact Or.inl rfl | exact Or.inr (Or.inl rfl) | exact Or.inr (Or.inr rfl)) (by decide) (by decide)) (@pa_cons _ _ _ _ _ (@pe_bltn _ _ (V.ty "tuple") _ _ (by rfl) T.n_tuple (by decide +kernel) rfl (by decide) (by decide)) pa_nil (by rfl)) (by rfl)) (by decide) (by decide) (by rfl) (by rfl)) (@pe_one _ _ _ _ _ (@pe_or _ _ _ _ _ _ _ (@pe_cal _ _ _ _ _ _ _ _ _ _ c_is_sign (hr.mono (by decide)) (by rfl) (@pa_cons _ _ _ _ _ (@pv _ 0 _ _ (by rfl) (by first | exact Or.inl rfl | exact Or.inr (Or.inl rfl) | exact Or.inr (Or.inr rfl)) (by decide) (by decide)) pa_nil (by rfl)) (by decide) (by rfl) (by rfl)) (@pe_one _ _ _ _ _ (@pe_cal _ _ _ _ _ _ _ _ _ _ c_is_copy (hr.mono (by decide)) (by rfl) (@pa_cons _ _ _ _ _ (@pv _ 0 _ _ (by rfl) (by first | exact Or.inl rfl | exact Or.inr (Or.inl rfl) | exact Or.inr (Or.inr rfl)) (by decide) (by decide)) pa_nil (by rfl)) (by decide) (by rfl) (by rfl)))))))), ?_⟩
    cases dx with
    | int z => exact ⟨_, rfl, _, _, _, _, rfl, .int z, kit_int_tuple, _, rfl, k⟩
    | bl b => exact ⟨_, rfl, _, _, _, _, rfl, .bl b, kit_bool_tuple, _, rfl, k⟩
    | non => exact ⟨_, rfl, _, _, _, _, rfl, .non, kit_none_tuple, _, rfl, k⟩
    | str x => exact ⟨_, rfl, _, _, _, _, rfl, .str x, kit_str_tuple, _, rfl, k⟩
    | lst e n h => exact ⟨_, rfl, _, _, _, _, rfl, .lst e, kit_list_tuple, _, rfl, k⟩
    | @tup a us ds e nn h =>
      have ok := (ok ds rfl).2
      have k : Q (.bl (signD ds || copyD ds)) H := k
      refine ⟨_, rfl, _, _, _, _, rfl, .tup e, kit_tuple_tuple, _, rfl, ?_⟩
      refine ite2 (fun _ => ?_) (fun h => absurd rfl h)
      refine ⟨_, rfl, rs, a, us, ds, rfl, e, h, ok, _, rfl, ?_⟩
      refine ite2 (fun h1 => ?_) (fun h1 => ?_)
      · rw [h1, Bool.true_or] at k
        first | exact k | (rw [h1]; exact k)
      · have h1 : signD ds = false := by cases q : signD ds with | false => rfl | true => exact absurd q h1
        rw [h1, Bool.false_or] at k
        exact ⟨_, rfl, rs, a, us, ds, rfl, e, h, ok, k⟩
theorem ok_lenD (F : FunN K mg "length_of" s_length_of P_length_of) (T : Bu mg) : Cal P w K mg base 1 "length_of" P_length_of spLenD := by
  refine cal_of F sc_length_of (fun vs H Q E h => ?_) (fun f cdv A outer s H vs Q E hr h => ?_)
  · obtain ⟨rs, v, d, rfl, _⟩ := h
    rfl
  · obtain ⟨rs, v, d, rfl, dx, hp, k⟩ := h
    refine ⟨_, (@pss_one _ _ _ (@ps_ret _ _ _ _ (@pe_ifExp _ _ _ _ _ _ _ _ (@pt_cmpR _ _ _ _ _ _ _ _ op_eq (@pe_ix _ _ _ _ _ _ _ ix_tup (@pv _ 0 _ _ (by rfl) (by first | exact Or.inl rfl | exact Or.inr (Or.inl rfl) | exact Or.inr (Or.inr rfl)) (by decide) (by decide)) pe_int (fun _ _ => rfl)) pe_str (nomark _)) pe_int (@pe_ix _ _ _ _ _ _ _ ix_tup (@pv _ 0 _ _ (by rfl) (by first | exact Or.inl rfl | exact Or.inr (Or.inl rfl) | exact Or.inr (Or.inr rfl)) (by decide) (by decide)) pe_int (fun _ _ => rfl))))), ?_⟩
    rcases part_cases hp with ⟨c, _, rfl⟩ | ⟨x, y, _, _, rfl⟩
    · cases dx with
      | @tup a us ds e nn h =>
        match us, h with
        | [_, _], .cons (.str _) (.cons (.str _) .nil) =>
          refine ⟨_, rfl, a, _, 0, _, rfl, rfl, SqT.of e, rfl, rfl, _, rfl, ?_⟩
          exact ite2 (fun _ => k) (fun h => absurd (decide_eq_true rfl) h)
    · cases dx with
      | @tup a us ds e nn h =>
        match us, h with
        | [_, _, _], .cons (.str _) (.cons (.int _) (.cons (.int _) .nil)) =>
          refine ⟨_, rfl, a, _, 0, _, rfl, rfl, SqT.of e, rfl, rfl, _, rfl, ?_⟩
          refine ite2 (fun h => absurd h (by decide +kernel)) (fun _ => ?_)
          exact ⟨_, rfl, a, _, 2, _, rfl, rfl, SqT.of e, rfl, k⟩
theorem ok_llenD (F : FunN K mg "_law_length" s_law_length P_law_length) (T : Bu mg) : Cal P w K mg base 1 "_law_length" P_law_length spLenD := by
  refine cal_of F sc_law_length (fun vs H Q E h => ?_) (fun f cdv A outer s H vs Q E hr h => ?_)
  · obtain ⟨rs, v, d, rfl, _⟩ := h
    rfl
  · obtain ⟨rs, v, d, rfl, dx, hp, k⟩ := h
    refine ⟨_, (@pss_cons _ _ _ _ _ (@ps_if _ _ _ _ _ _ _ _ (@pt_cmpR _ _ _ _ _ _ _ _ op_eq (@pe_ix _ _ _ _ _ _ _ ix_tup (@pv _ 0 _ _ (by rfl) (by first | exact Or.inl rfl | exact Or.inr (Or.inl rfl) | exact Or.inr (Or.inr rfl)) (by decide) (by decide)) pe_int (fun _ _ => rfl)) pe_str (nomark _)) (@pss_one _ _ _ (@ps_ret _ _ _ _ pe_int)) pss_nil) (@pss_one _ _ _ (@ps_ret _ _ _ _ (@pe_ix _ _ _ _ _ _ _ ix_tup (@pv _ 0 _ _ (by rfl) (by first | exact Or.inl rfl | exact Or.inr (Or.inl rfl) | exact Or.inr (Or.inr rfl)) (by decide) (by decide)) pe_int (fun _ _ => rfl))))), ?_⟩
    rcases part_cases hp with ⟨c, _, rfl⟩ | ⟨x, y, _, _, rfl⟩
    · cases dx with
      | @tup a us ds e nn h =>
        match us, h with
        | [_, _], .cons (.str _) (.cons (.str _) .nil) =>
          refine ⟨_, rfl, a, _, 0, _, rfl, rfl, SqT.of e, rfl, rfl, _, rfl, ?_⟩
          exact ite2 (fun _ => k) (fun h => absurd (decide_eq_true rfl) h)
    · cases dx with
      | @tup a us ds e nn h =>
        match us, h with
        | [_, _, _], .cons (.str _) (.cons (.int _) (.cons (.int _) .nil)) =>
          refine ⟨_, rfl, a, _, 0, _, rfl, rfl, SqT.of e, rfl, rfl, _, rfl, ?_⟩
          refine ite2 (fun h => absurd h (by decide +kernel)) (fun _ => ?_)
          exact ⟨_, rfl, a, _, 2, _, rfl, rfl, SqT.of e, rfl, k⟩
theorem ok_rchD (F : FunN K mg "reach_of" s_reach_of P_reach_of) (T : Bu mg) : Cal P w K mg base 1 "reach_of" P_reach_of spRchD := by
  refine cal_of F sc_reach_of (fun vs H Q E h => ?_) (fun f cdv A outer s H vs Q E hr h => ?_)
  · obtain ⟨rs, v, d, rfl, _⟩ := h
    rfl
  · obtain ⟨rs, v, d, rfl, dx, hp, k⟩ := h
    refine ⟨_, (@pss_one _ _ _ (@ps_ret _ _ _ _ (@pe_ifExp _ _ _ _ _ _ _ _ (@pt_cmpR _ _ _ _ _ _ _ _ op_eq (@pe_ix _ _ _ _ _ _ _ ix_tup (@pv _ 0 _ _ (by rfl) (by first | exact Or.inl rfl | exact Or.inr (Or.inl rfl) | exact Or.inr (Or.inr rfl)) (by decide) (by decide)) pe_int (fun _ _ => rfl)) pe_str (nomark _)) pe_int (@pe_op _ _ _ _ _ _ _ _ op_add (@pe_ix _ _ _ _ _ _ _ ix_tup (@pv _ 0 _ _ (by rfl) (by first | exact Or.inl rfl | exact Or.inr (Or.inl rfl) | exact Or.inr (Or.inr rfl)) (by decide) (by decide)) pe_int (fun _ _ => rfl)) (@pe_ix _ _ _ _ _ _ _ ix_tup (@pv _ 0 _ _ (by rfl) (by first | exact Or.inl rfl | exact Or.inr (Or.inl rfl) | exact Or.inr (Or.inr rfl)) (by decide) (by decide)) pe_int (fun _ _ => rfl)))))), ?_⟩
    rcases part_cases hp with ⟨c, _, rfl⟩ | ⟨x, y, _, _, rfl⟩
    · cases dx with
      | @tup a us ds e nn h =>
        match us, h with
        | [_, _], .cons (.str _) (.cons (.str _) .nil) =>
          refine ⟨_, rfl, a, _, 0, _, rfl, rfl, SqT.of e, rfl, rfl, _, rfl, ?_⟩
          exact ite2 (fun _ => k) (fun h => absurd (decide_eq_true rfl) h)
    · cases dx with
      | @tup a us ds e nn h =>
        match us, h with
        | [_, _, _], .cons (.str _) (.cons (.int _) (.cons (.int _) .nil)) =>
          refine ⟨_, rfl, a, _, 0, _, rfl, rfl, SqT.of e, rfl, rfl, _, rfl, ?_⟩
          refine ite2 (fun h => absurd h (by decide +kernel)) (fun _ => ?_)
          exact ⟨_, rfl, a, _, 1, _, rfl, rfl, SqT.of e, rfl, _, rfl, a, _, 2, _, rfl, rfl, SqT.of e, rfl, _, _, rfl, rfl, k⟩
end
def okF (d : PyData) : Prop := ∀ ds, d = .tuple ds → ds.length ≤ 1000 ∧ ∀ e ∈ ds, okP e
def spIscD : Sp := fun vs H Q _ => ∃ (rs : List Addr) (v : V) (d : PyData), vs = [v] ∧ Dx rs H v d ∧ okF d ∧ ∀ H', Same H H' → Q (.bl (formD d)) H'
theorem all_at {α : Type} {f : α → Bool} {l : List α} (h : l.all f = true) {i : Nat} {x : α} (e : l[i]? = some x) : f x = true := List.all_eq_true.mp h x (List.mem_of_getElem? e)
section
variable {P : Program} {w : World} {K : PySem.W.Frag} {mg : Str → Option Value} {base : Heap}
theorem ok_iscD (F : FunN K mg "is_copies" s_is_copies P_is_copies) (T : Bu mg) (c_is_part : Cal P w K mg base 4 "is_part" P_is_part spPt) (c_length_of : Cal P w K mg base 1 "length_of" P_length_of spLenD) (c_reach_of : Cal P w K mg base 1 "reach_of" P_reach_of spRchD) : Cal P w K mg base 5 "is_copies" P_is_copies spIscD := by
  refine cal_of F sc_is_copies (fun vs H Q E h => ?_) (fun f cdv A outer s H vs Q E hr h => ?_)
  · obtain ⟨rs, v, d, rfl, _⟩ := h
    rfl
  · obtain ⟨rs, v, d, rfl, dx, ok, k⟩ := h
    have hS : sizeLine = 16777216 := szl
    obtain ⟨tk, h_MOST_SIGNS⟩ := T.c_MOST_SIGNS
    refine ⟨_, (@pss_cons _ _ _ _ _ (@ps_if _ _ _ _ _ _ _ _ (@PW.pt _ _ _ (@pw_or _ _ _ _ _ _ _ (@pt_not _ _ _ _ (@pt_val _ _ _ (@pe_callB _ _ _ _ _ _ _ _ _ call_isi (by rfl) T.n_isinstance (by decide +kernel) (@pa_cons _ _ _ _ _ (@pv _ 0 _ _ (by rfl) (by first | exact Or.inl rfl | exact Or.inr (Or.inl rfl) | exact Or.inr (Or.inr rfl)) (by decide) (by decide)) (@pa_cons _ _ _ _ _ (@pe_bltn _ _ (V.ty "tuple") _ _ (by rfl) T.n_tuple (by decide +kernel) rfl (by decide) (by decide)) pa_nil (by rfl)) (by rfl)) (by decide) (by decide) (by rfl) (by rfl)) (by intro _; rfl))) (@pw_or1 _ _ _ _ (@pt_not _ _ _ _ (@pt_val _ _ _ (@pe_callB _ _ _ _ _ _ _ _ _ (cr_all rfl) (by rfl) T.n_all (by decide +kernel) (@pa_cons _ _ _ _ _ (@pe_lc _ _ _ _ _ _ ([("part", 1)]) _ _ (gName 1) _ _ (by rfl) sc_is_copies.nd (@pi_tup _ _ _ _ (@pv _ 0 _ _ (by rfl) (by first | exact Or.inl rfl | exact Or.inr (Or.inl rfl) | exact Or.inr (Or.inr rfl)) (by decide) (by decide))) (@blkOk_by (N_is_copies) (defScope s_is_copies) _ ([("part", 1)]) (by decide +kernel)) (fun _ _ _ _ _ => pg_name (i := 1) sc_is_copies.nd rfl (Or.inl rfl)) (fun _ _ _ _ _ => pts_nil) (fun _ _ _ _ _ => (@pe_cal _ _ _ _ _ _ _ _ _ _ c_is_part (hr.mono (by decide)) (by rfl) (@pa_cons _ _ _ _ _ (@pv _ 1 _ _ (by rfl) (by first | exact Or.inl rfl | exact Or.inr (Or.inl rfl) | exact Or.inr (Or.inr rfl)) (by decide) (by decide)) pa_nil (by rfl)) (by decide) (by rfl) (by rfl))) (by intro _; rfl)) pa_nil (by rfl)) (by decide) (by decide) (by rfl) (by rfl)) (by intro _; rfl)))))) (@pss_one _ _ _ (@ps_ret _ _ _ _ pe_bl)) pss_nil) (@pss_cons _ _ _ _ _ (@ps_set _ _ (2) _ _ _ _ sc_is_copies.nd rfl (Or.inr rfl) (@pe_callB _ _ _ _ _ _ _ _ _ (cr_sum rfl) (by rfl) T.n_sum (by decide +kernel) (@pa_cons _ _ _ _ _ (@pe_lc _ _ _ _ _ _ ([("part", 1)]) _ _ (gName 1) _ _ (by rfl) sc_is_copies.nd (@pi_tup _ _ _ _ (@pv _ 0 _ _ (by rfl) (by first | exact Or.inl rfl | exact Or.inr (Or.inl rfl) | exact Or.inr (Or.inr rfl)) (by decide) (by decide))) (@blkOk_by (N_is_copies) (defScope s_is_copies) _ ([("part", 1)]) (by decide +kernel)) (fun _ _ _ _ _ => pg_name (i := 1) sc_is_copies.nd rfl (Or.inl rfl)) (fun _ _ _ _ _ => pts_nil) (fun _ _ _ _ _ => (@pe_cal _ _ _ _ _ _ _ _ _ _ c_length_of (hr.mono (by decide)) (by rfl) (@pa_cons _ _ _ _ _ (@pv _ 1 _ _ (by rfl) (by first | exact Or.inl rfl | exact Or.inr (Or.inl rfl) | exact Or.inr (Or.inr rfl)) (by decide) (by decide)) pa_nil (by rfl)) (by decide) (by rfl) (by rfl))) (by intro _; rfl)) pa_nil (by rfl)) (by decide) (by decide) (by rfl) (by rfl)) (by rfl) (by first | exact .inl rfl | exact .inr rfl)) (@pss_one _ _ _ (@ps_ret _ _ _ _ (@pe_and _ _ _ _ _ _ _ (@pe_cmpR _ _ _ _ _ _ _ _ op_le (@pv _ 2 _ _ (by rfl) (by first | exact Or.inl rfl | exact Or.inr (Or.inl rfl) | exact Or.inr (Or.inr rfl)) (by decide) (by decide)) (@pe_glob _ _ (V.int 300) _ _ (by rfl) h_MOST_SIGNS ⟨_, rfl⟩ (by decide)) (nomark _)) (@pe_one _ _ _ _ _ (@pe_callB _ _ _ _ _ _ _ _ _ (cr_all rfl) (by rfl) T.n_all (by decide +kernel) (@pa_cons _ _ _ _ _ (@pe_lc _ _ _ _ _ _ ([("part", 1)]) _ _ (gName 1) _ _ (by rfl) sc_is_copies.nd (@pi_tup _ _ _ _ (@pv _ 0 _ _ (by rfl) (by first | exact Or.inl rfl | exact Or.inr (Or.inl rfl) | exact Or.inr (Or.inr rfl)) (by decide) (by decide))) (@blkOk_by (N_is_copies) (defScope s_is_copies) _ ([("part", 1)]) (by decide +kernel)) (fun _ _ _ _ _ => pg_name (i := 1) sc_is_copies.nd rfl (Or.inl rfl)) (fun _ _ _ _ _ => pts_nil) (fun _ _ _ _ _ => (@pe_cmpR _ _ _ _ _ _ _ _ op_le (@pe_cal _ _ _ _ _ _ _ _ _ _ c_reach_of (hr.mono (by decide)) (by rfl) (@pa_cons _ _ _ _ _ (@pv _ 1 _ _ (by rfl) (by first | exact Or.inl rfl | exact Or.inr (Or.inl rfl) | exact Or.inr (Or.inr rfl)) (by decide) (by decide)) pa_nil (by rfl)) (by decide) (by rfl) (by rfl)) (@pv _ 2 _ _ (by rfl) (by first | exact Or.inl rfl | exact Or.inr (Or.inl rfl) | exact Or.inr (Or.inr rfl)) (by decide) (by decide)) (nomark _))) (by intro _; rfl)) pa_nil (by rfl)) (by decide) (by decide) (by rfl) (by rfl)))))))), ?_⟩
    cases dx with
    | int z => exact ⟨_, rfl, _, _, _, _, rfl, .int z, kit_int_tuple, _, rfl, k H (.refl _)⟩
    | bl b => exact ⟨_, rfl, _, _, _, _, rfl, .bl b, kit_bool_tuple, _, rfl, k H (.refl _)⟩
    | non => exact ⟨_, rfl, _, _, _, _, rfl, .non, kit_none_tuple, _, rfl, k H (.refl _)⟩
    | str x => exact ⟨_, rfl, _, _, _, _, rfl, .str x, kit_str_tuple, _, rfl, k H (.refl _)⟩
    | lst e n h => exact ⟨_, rfl, _, _, _, _, rfl, .lst e, kit_list_tuple, _, rfl, k H (.refl _)⟩
    | @tup a us ds e nn h =>
      obtain ⟨hl, ok⟩ := ok ds rfl
      have hlen := h.len
      have k : ∀ H', Same H H' → Q (.bl (ds.all partD && (decide (sumD ds ≤ 300) && ds.all fun d => decide (rchD d ≤ sumD ds)))) H' := k
      refine ⟨_, rfl, _, _, _, _, rfl, .tup e, kit_tuple_tuple, _, rfl, ?_⟩
      refine ite2 (fun h => by cases h) (fun _ => ?_)
      refine ⟨_, rfl, a, rfl, ⟨_, SqT.of e⟩, fun D hD => ?_⟩
      refine lc_tup (K := K) (a := a) (xs := us) (fun i H' => Same H H' ∧ H' D = some (.lst (((ds.take i).map partD).map V.bl))) ⟨Same.upd_new hD, upd_same⟩ (fun i H' _ ⟨sm, _⟩ => SqT.of (sm _ _ e)) ?_ ?_
      · rintro i v H1 hi ⟨s1, hD1⟩
        obtain ⟨d, hd, it⟩ := h.at' hi
        refine ⟨rfl, _, rfl, rs, v, d, rfl, it.off (Same.offL s1), ok d (List.mem_of_getElem? hd), ?_⟩
        refine ⟨_, hD1, by rw [List.length_map, List.length_map, List.length_take]; omega, fun c oc hc => ?_, ?_⟩
        · rw [upd_ne (ne_of_none hc hD)]
          exact s1 _ _ hc
        · rw [upd_same, List.take_succ, hd, List.map_append, List.map_append]
          rfl
      rintro H1 ⟨s1, hD1⟩
      rw [hlen, List.take_of_length_le (Nat.le_refl _)] at hD1
      refine ⟨D, _, rfl, SqL.of hD1, _, rfl, ?_⟩
      have eall : (ds.map partD).all id = ds.all partD := by rw [List.all_map]; rfl
      rw [eall]
      refine ite2 (fun g => ?_) (fun g => ?_)
      · have g : ds.all partD = false := by simpa using g
        have k0 := k H1 s1
        rw [g, Bool.false_and] at k0
        exact k0
      have g : ds.all partD = true := by simpa using g
      rw [g] at k
      simp only [Bool.true_and] at k
      try unfold tNext
      try dsimp only
      have e1 := s1 _ _ e
      have h1 := h.off (Same.offL (rs := rs) s1)
      refine ⟨_, rfl, a, rfl, ⟨_, SqT.of e1⟩, fun D2 hD2 => ?_⟩
      refine lc_tup (K := K) (a := a) (xs := us) (fun i H' => Same H1 H' ∧ H' D2 = some (.lst (((ds.take i).map lenD).map V.int))) ⟨Same.upd_new hD2, upd_same⟩ (fun i H' _ ⟨sm, _⟩ => SqT.of (sm _ _ e1)) ?_ ?_
      · rintro i v H2 hi ⟨s2, hD22⟩
        obtain ⟨d, hd, it⟩ := h1.at' hi
        refine ⟨rfl, _, rfl, rs, v, d, rfl, it.off (Same.offL s2), all_at g hd, ?_⟩
        refine ⟨_, hD22, by rw [List.length_map, List.length_map, List.length_take]; omega, fun c oc hc => ?_, ?_⟩
        · rw [upd_ne (ne_of_none hc hD2)]
          exact s2 _ _ hc
        · rw [upd_same, List.take_succ, hd, List.map_append, List.map_append]
          rfl
      rintro H2 ⟨s2, hD22⟩
      rw [hlen, List.take_of_length_le (Nat.le_refl _)] at hD22
      refine ⟨D2, _, rfl, SqL.of hD22, ?_⟩
      have es : (ds.map lenD).sum = sumD ds := rfl
      rw [es]
      refine ⟨_, rfl, _, _, rfl, rfl, _, rfl, ?_⟩
      refine ite2 (fun g2 => ?_) (fun g2 => ?_)
      rotate_left
      · have g2 : decide (sumD ds ≤ 300) = false := by cases q : decide (sumD ds ≤ 300) with | false => rfl | true => exact absurd q g2
        have k0 := k H2 (s1.trans s2)
        rw [g2, Bool.false_and] at k0
        first | exact k0 | (rw [g2]; exact k0)
      have g2 : decide (sumD ds ≤ 300) = true := g2
      rw [g2] at k
      simp only [Bool.true_and] at k
      have e2 := s2 _ _ e1
      have h2 := h1.off (Same.offL (rs := rs) s2)
      refine ⟨_, rfl, a, rfl, ⟨_, SqT.of e2⟩, fun D3 hD3 => ?_⟩
      refine lc_tup (K := K) (a := a) (xs := us) (fun i H' => Same H2 H' ∧ H' D3 = some (.lst (((ds.take i).map fun d => decide (rchD d ≤ sumD ds)).map V.bl))) ⟨Same.upd_new hD3, upd_same⟩ (fun i H' _ ⟨sm, _⟩ => SqT.of (sm _ _ e2)) ?_ ?_
      · rintro i v H3 hi ⟨s3, hD33⟩
        obtain ⟨d, hd, it⟩ := h2.at' hi
        refine ⟨rfl, _, rfl, rs, v, d, rfl, it.off (Same.offL s3), all_at g hd, _, rfl, _, _, rfl, rfl, ?_⟩
        refine ⟨_, hD33, by rw [List.length_map, List.length_map, List.length_take]; omega, fun c oc hc => ?_, ?_⟩
        · rw [upd_ne (ne_of_none hc hD3)]
          exact s3 _ _ hc
        · rw [upd_same, List.take_succ, hd, List.map_append, List.map_append]
          rfl
      · rintro H3 ⟨s3, hD33⟩
        rw [hlen, List.take_of_length_le (Nat.le_refl _)] at hD33
        refine ⟨D3, _, rfl, SqL.of hD33, ?_⟩
        rw [List.all_map]
        exact k _ (s1.trans (s2.trans s3))
end
end K20

set_option Elab.async false
set_option linter.all false
set_option maxRecDepth 100000
set_option maxHeartbeats 1000000
namespace K20
open PySem L2
theorem sign_s {s : Str} {ds : List PyData} : partD (.tuple (.str s :: ds)) = ((decide (s = Str.ofString "sign") && signD (.str (Str.ofString "sign") :: ds)) || (decide (s = Str.ofString "copy") && copyD (.str (Str.ofString "copy") :: ds))) := by
  show (signD _ || copyD _) = _
  congr 1
  · by_cases h : s = Str.ofString "sign"
    · subst h; rw [decide_eq_true rfl, Bool.true_and]
    · rw [decide_eq_false h, Bool.false_and]
      match ds with
      | [] => rfl
      | [b] =>
        show (eqS _ (.str s) && _) = false
        rw [eqS_str, decide_eq_false h, Bool.false_and]
      | _ :: _ :: _ => rfl
  · by_cases h : s = Str.ofString "copy"
    · subst h; rw [decide_eq_true rfl, Bool.true_and]
    · rw [decide_eq_false h, Bool.false_and]
      match ds with
      | [] => rfl
      | [b] => rfl
      | [b, c] =>
        show (eqS _ (.str s) && _) = false
        rw [eqS_str, decide_eq_false h, Bool.false_and]
      | _ :: _ :: _ :: _ => rfl
theorem part_no {d : PyData} {ds : List PyData} (h : ∀ s, d ≠ .str s) : partD (.tuple (d :: ds)) = false := by
  show (signD _ || copyD _) = _
  have h1 : signD (d :: ds) = false := by
    match ds with
    | [] => rfl
    | [b] =>
      show (eqS _ d && _) = false
      rw [eqS_not h, Bool.false_and]
    | _ :: _ :: _ => rfl
  have h2 : copyD (d :: ds) = false := by
    match ds with
    | [] => rfl
    | [b] => rfl
    | [b, c] =>
      show (eqS _ d && _) = false
      rw [eqS_not h, Bool.false_and]
    | _ :: _ :: _ :: _ => rfl
  rw [h1, h2]
  rfl
theorem sgn_ne : ¬ Str.ofString "sign" = Str.ofString "copy" := by decide +kernel
theorem bfalse {b : Bool} (h : ¬ b = true) : b = false := by cases b; rfl; exact absurd rfl h
theorem eqv_str (x y : Str) : PyData.eqv (.str y) (.str x) = decide (y = x) := eqS_str x y
section
variable {P : Program} {w : World} {K : PySem.W.Frag} {mg : Str → Option Value} {base : Heap}
theorem ok_lwh (F : FunN K mg "_law_whole" s_law_whole P_law_whole) (T : Bu mg) : Cal P w K mg base 1 "_law_whole" P_law_whole spWh := by
  refine cal_of F sc_law_whole (fun vs H Q E h => ?_) (fun f cdv A outer s H vs Q E hr h => ?_)
  · obtain ⟨rs, v, d, rfl, _⟩ := h
    rfl
  · obtain ⟨rs, v, d, rfl, dx, k⟩ := h
    refine ⟨_, (@pss_one _ _ _ (@ps_ret _ _ _ _ (@pe_and _ _ _ _ _ _ _ (@pe_callB _ _ _ _ _ _ _ _ _ call_isi (by rfl) T.n_isinstance (by decide +kernel) (@pa_cons _ _ _ _ _ (@pv _ 0 _ _ (by rfl) (by first | exact Or.inl rfl | exact Or.inr (Or.inl rfl) | exact Or.inr (Or.inr rfl)) (by decide) (by decide)) (@pa_cons _ _ _ _ _ (@pe_bltn _ _ (V.ty "int") _ _ (by rfl) T.n_int (by decide +kernel) rfl (by decide) (by decide)) pa_nil (by rfl)) (by rfl)) (by decide) (by decide) (by rfl) (by rfl)) (@pe_one _ _ _ _ _ (@pe_not _ _ _ _ (@pe_callB _ _ _ _ _ _ _ _ _ call_isi (by rfl) T.n_isinstance (by decide +kernel) (@pa_cons _ _ _ _ _ (@pv _ 0 _ _ (by rfl) (by first | exact Or.inl rfl | exact Or.inr (Or.inl rfl) | exact Or.inr (Or.inr rfl)) (by decide) (by decide)) (@pa_cons _ _ _ _ _ (@pe_bltn _ _ (V.ty "bool") _ _ (by rfl) T.n_bool (by decide +kernel) rfl (by decide) (by decide)) pa_nil (by rfl)) (by rfl)) (by decide) (by decide) (by rfl) (by rfl))))))), ?_⟩
    cases dx with
    | int z => exact ⟨_, rfl, _, _, _, _, rfl, .int z, kit_int_int, _, rfl, ⟨_, rfl, _, _, _, _, rfl, .int z, kit_int_bool, _, rfl, k⟩⟩
    | bl b => exact ⟨_, rfl, _, _, _, _, rfl, .bl b, kit_bool_int, _, rfl, ⟨_, rfl, _, _, _, _, rfl, .bl b, kit_bool_bool, _, rfl, k⟩⟩
    | non => exact ⟨_, rfl, _, _, _, _, rfl, .non, kit_none_int, _, rfl, k⟩
    | str x => exact ⟨_, rfl, _, _, _, _, rfl, .str _, kit_str_int, _, rfl, k⟩
    | tup e n h => exact ⟨_, rfl, _, _, _, _, rfl, .tup e, kit_tuple_int, _, rfl, k⟩
    | lst e n h => exact ⟨_, rfl, _, _, _, _, rfl, .lst e, kit_list_int, _, rfl, k⟩
theorem ok_lpt (F : FunN K mg "_law_is_part" s_law_is_part P_law_is_part) (T : Bu mg) (c__law_whole : Cal P w K mg base 1 "_law_whole" P_law_whole spWh) : Cal P w K mg base 2 "_law_is_part" P_law_is_part spPt := by
  refine cal_of F sc_law_is_part (fun vs H Q E h => ?_) (fun f cdv A outer s H vs Q E hr h => ?_)
  · obtain ⟨rs, v, d, rfl, _⟩ := h
    rfl
  · obtain ⟨rs, v, d, rfl, dx, ok, k⟩ := h
    have hS : sizeLine = 16777216 := szl
    refine ⟨_, (@pss_cons _ _ _ _ _ (@ps_if _ _ _ _ _ _ _ _ (@PW.pt _ _ _ (@pw_or _ _ _ _ _ _ _ (@pt_not _ _ _ _ (@pt_val _ _ _ (@pe_callB _ _ _ _ _ _ _ _ _ call_isi (by rfl) T.n_isinstance (by decide +kernel) (@pa_cons _ _ _ _ _ (@pv _ 0 _ _ (by rfl) (by first | exact Or.inl rfl | exact Or.inr (Or.inl rfl) | exact Or.inr (Or.inr rfl)) (by decide) (by decide)) (@pa_cons _ _ _ _ _ (@pe_bltn _ _ (V.ty "tuple") _ _ (by rfl) T.n_tuple (by decide +kernel) rfl (by decide) (by decide)) pa_nil (by rfl)) (by rfl)) (by decide) (by decide) (by rfl) (by rfl)) (by intro _; rfl))) (@pw_or _ _ _ _ _ _ _ (@pt_cmpR _ _ _ _ _ _ _ _ op_eq (@pe_callB _ _ _ _ _ _ _ _ _ call_len_seq (by rfl) T.n_len (by decide +kernel) (@pa_cons _ _ _ _ _ (@pv _ 0 _ _ (by rfl) (by first | exact Or.inl rfl | exact Or.inr (Or.inl rfl) | exact Or.inr (Or.inr rfl)) (by decide) (by decide)) pa_nil (by rfl)) (by decide) (by decide) (by rfl) (by rfl)) pe_int (nomark _)) (@pw_or1 _ _ _ _ (@pt_not _ _ _ _ (@pt_val _ _ _ (@pe_callB _ _ _ _ _ _ _ _ _ call_isi (by rfl) T.n_isinstance (by decide +kernel) (@pa_cons _ _ _ _ _ (@pe_ix _ _ _ _ _ _ _ ix_tup (@pv _ 0 _ _ (by rfl) (by first | exact Or.inl rfl | exact Or.inr (Or.inl rfl) | exact Or.inr (Or.inr rfl)) (by decide) (by decide)) pe_int (fun _ _ => rfl)) (@pa_cons _ _ _ _ _ (@pe_bltn _ _ (V.ty "str") _ _ (by rfl) T.n_str (by decide +kernel) rfl (by decide) (by decide)) pa_nil (by rfl)) (by rfl)) (by decide) (by decide) (by rfl) (by rfl)) (by intro _; rfl))))))) (@pss_one _ _ _ (@ps_ret _ _ _ _ pe_bl)) pss_nil) (@pss_cons _ _ _ _ _ (@ps_if _ _ _ _ _ _ _ _ (@pt_cmpR _ _ _ _ _ _ _ _ (op_eqD hr.units) (@pe_ix _ _ _ _ _ _ _ ix_tup (@pv _ 0 _ _ (by rfl) (by first | exact Or.inl rfl | exact Or.inr (Or.inl rfl) | exact Or.inr (Or.inr rfl)) (by decide) (by decide)) pe_int (fun _ _ => rfl)) pe_str (nomark _)) (@pss_one _ _ _ (@ps_ret _ _ _ _ (@pe_and _ _ _ _ _ _ _ (@pe_cmpR _ _ _ _ _ _ _ _ op_eq (@pe_callB _ _ _ _ _ _ _ _ _ call_len_seq (by rfl) T.n_len (by decide +kernel) (@pa_cons _ _ _ _ _ (@pv _ 0 _ _ (by rfl) (by first | exact Or.inl rfl | exact Or.inr (Or.inl rfl) | exact Or.inr (Or.inr rfl)) (by decide) (by decide)) pa_nil (by rfl)) (by decide) (by decide) (by rfl) (by rfl)) pe_int (nomark _)) (@pe_and _ _ _ _ _ _ _ (@pe_callB _ _ _ _ _ _ _ _ _ call_isi (by rfl) T.n_isinstance (by decide +kernel) (@pa_cons _ _ _ _ _ (@pe_ix _ _ _ _ _ _ _ ix_tup (@pv _ 0 _ _ (by rfl) (by first | exact Or.inl rfl | exact Or.inr (Or.inl rfl) | exact Or.inr (Or.inr rfl)) (by decide) (by decide)) pe_int (fun _ _ => rfl)) (@pa_cons _ _ _ _ _ (@pe_bltn _ _ (V.ty "str") _ _ (by rfl) T.n_str (by decide +kernel) rfl (by decide) (by decide)) pa_nil (by rfl)) (by rfl)) (by decide) (by decide) (by rfl) (by rfl)) (@pe_and _ _ _ _ _ _ _ (@pe_cmpR _ _ _ _ _ _ _ _ op_eq (@pe_callB _ _ _ _ _ _ _ _ _ call_len_str (by rfl) T.n_len (by decide +kernel) (@pa_cons _ _ _ _ _ (@pe_ix _ _ _ _ _ _ _ ix_tup (@pv _ 0 _ _ (by rfl) (by first | exact Or.inl rfl | exact Or.inr (Or.inl rfl) | exact Or.inr (Or.inr rfl)) (by decide) (by decide)) pe_int (fun _ _ => rfl)) pa_nil (by rfl)) (by decide) (by decide) (by rfl) (by rfl)) pe_int (nomark _)) (@pe_one _ _ _ _ _ (@pe_chain _ _ _ _ _ _ _ _ _ _ _ _ op_le_str op_le_str pe_str (@pe_ix _ _ _ _ _ _ _ ix_tup (@pv _ 0 _ _ (by rfl) (by first | exact Or.inl rfl | exact Or.inr (Or.inl rfl) | exact Or.inr (Or.inr rfl)) (by decide) (by decide)) pe_int (fun _ _ => rfl)) pe_str (by with_unfolding_all rfl)))))))) pss_nil) (@pss_cons _ _ _ _ _ (@ps_if _ _ _ _ _ _ _ _ (@PW.pt _ _ _ (@pw_or _ _ _ _ _ _ _ (@pt_cmpR _ _ _ _ _ _ _ _ (op_neD hr.units) (@pe_ix _ _ _ _ _ _ _ ix_tup (@pv _ 0 _ _ (by rfl) (by first | exact Or.inl rfl | exact Or.inr (Or.inl rfl) | exact Or.inr (Or.inr rfl)) (by decide) (by decide)) pe_int (fun _ _ => rfl)) pe_str (nomark _)) (@pw_or _ _ _ _ _ _ _ (@pt_cmpR _ _ _ _ _ _ _ _ op_ne (@pe_callB _ _ _ _ _ _ _ _ _ call_len_seq (by rfl) T.n_len (by decide +kernel) (@pa_cons _ _ _ _ _ (@pv _ 0 _ _ (by rfl) (by first | exact Or.inl rfl | exact Or.inr (Or.inl rfl) | exact Or.inr (Or.inr rfl)) (by decide) (by decide)) pa_nil (by rfl)) (by decide) (by decide) (by rfl) (by rfl)) pe_int (nomark _)) (@pw_or _ _ _ _ _ _ _ (@pt_not _ _ _ _ (@pt_val _ _ _ (@pe_cal _ _ _ _ _ _ _ _ _ _ c__law_whole (hr.mono (by decide)) (by rfl) (@pa_cons _ _ _ _ _ (@pe_ix _ _ _ _ _ _ _ ix_tup (@pv _ 0 _ _ (by rfl) (by first | exact Or.inl rfl | exact Or.inr (Or.inl rfl) | exact Or.inr (Or.inr rfl)) (by decide) (by decide)) pe_int (fun _ _ => rfl)) pa_nil (by rfl)) (by decide) (by rfl) (by rfl)) (by intro _; rfl))) (@pw_or1 _ _ _ _ (@pt_not _ _ _ _ (@pt_val _ _ _ (@pe_cal _ _ _ _ _ _ _ _ _ _ c__law_whole (hr.mono (by decide)) (by rfl) (@pa_cons _ _ _ _ _ (@pe_ix _ _ _ _ _ _ _ ix_tup (@pv _ 0 _ _ (by rfl) (by first | exact Or.inl rfl | exact Or.inr (Or.inl rfl) | exact Or.inr (Or.inr rfl)) (by decide) (by decide)) pe_int (fun _ _ => rfl)) pa_nil (by rfl)) (by decide) (by rfl) (by rfl)) (by intro _; rfl)))))))) (@pss_one _ _ _ (@ps_ret _ _ _ _ pe_bl)) pss_nil) (@pss_one _ _ _ (@ps_ret _ _ _ _ (@pe_and _ _ _ _ _ _ _ (@pe_cmpR _ _ _ _ _ _ _ _ op_ge (@pe_ix _ _ _ _ _ _ _ ix_tup (@pv _ 0 _ _ (by rfl) (by first | exact Or.inl rfl | exact Or.inr (Or.inl rfl) | exact Or.inr (Or.inr rfl)) (by decide) (by decide)) pe_int (fun _ _ => rfl)) pe_int (nomark _)) (@pe_one _ _ _ _ _ (@pe_cmpR _ _ _ _ _ _ _ _ op_gt (@pe_ix _ _ _ _ _ _ _ ix_tup (@pv _ 0 _ _ (by rfl) (by first | exact Or.inl rfl | exact Or.inr (Or.inl rfl) | exact Or.inr (Or.inr rfl)) (by decide) (by decide)) pe_int (fun _ _ => rfl)) pe_int (nomark _))))))))), ?_⟩
    cases dx with
    | int z => exact ⟨_, rfl, _, _, _, _, rfl, .int z, kit_int_tuple, _, rfl, k⟩
    | bl b => exact ⟨_, rfl, _, _, _, _, rfl, .bl b, kit_bool_tuple, _, rfl, k⟩
    | non => exact ⟨_, rfl, _, _, _, _, rfl, .non, kit_none_tuple, _, rfl, k⟩
    | str x => exact ⟨_, rfl, _, _, _, _, rfl, .str x, kit_str_tuple, _, rfl, k⟩
    | lst e n h => exact ⟨_, rfl, _, _, _, _, rfl, .lst e, kit_list_tuple, _, rfl, k⟩
    | @tup a us ds e nn h =>
      have ok := (ok ds rfl).2
      have hlen := h.len
      refine ⟨_, rfl, _, _, _, _, rfl, .tup e, kit_tuple_tuple, _, rfl, ?_⟩
      refine ite2 (fun h => by cases h) (fun _ => ?_)
      refine ⟨_, rfl, a, _, rfl, .inr (SqT.of e), rfl, _, rfl, ?_⟩
      cases h with
      | nil =>
        refine ite2 (fun _ => ?_) (fun h => absurd (decide_eq_true rfl) h)
        exact k
      | @cons v0 us d0 ds x0 h =>
        have hlen : us.length = ds.length := h.len
        refine ite2 (fun h => ?_) (fun _ => ?_)
        · have := V.int.inj (of_decide_eq_true h)
          rw [List.length_cons] at this
          omega
        have at0 : atI (v0 :: us) 0 = some v0 := atI_nat (j := 0) rfl
        cases x0 with
        | int z =>
          rw [part_no fun s e => by cases e] at k
          exact ⟨_, rfl, a, _, 0, _, rfl, rfl, SqT.of e, at0, _, _, _, _, rfl, .int z, kit_int_str, _, rfl, k⟩
        | bl b =>
          rw [part_no fun s e => by cases e] at k
          exact ⟨_, rfl, a, _, 0, _, rfl, rfl, SqT.of e, at0, _, _, _, _, rfl, .bl b, kit_bool_str, _, rfl, k⟩
        | non =>
          rw [part_no fun s e => by cases e] at k
          exact ⟨_, rfl, a, _, 0, _, rfl, rfl, SqT.of e, at0, _, _, _, _, rfl, .non, kit_none_str, _, rfl, k⟩
        | tup e' n' h' =>
          rw [part_no fun s e => by cases e] at k
          exact ⟨_, rfl, a, _, 0, _, rfl, rfl, SqT.of e, at0, _, _, _, _, rfl, .tup e', kit_tuple_str, _, rfl, k⟩
        | lst e' n' h' =>
          rw [part_no fun s e => by cases e] at k
          exact ⟨_, rfl, a, _, 0, _, rfl, rfl, SqT.of e, at0, _, _, _, _, rfl, .lst e', kit_list_str, _, rfl, k⟩
        | str s =>
          refine ⟨_, rfl, a, _, 0, _, rfl, rfl, SqT.of e, at0, _, _, _, _, rfl, .str s, kit_str_str, _, rfl, ?_⟩
          refine ite2 (fun h => by cases h) (fun _ => ?_)
          rw [sign_s] at k
          try unfold tNext
          dsimp only
          have sh0 := (ok (.str s) List.mem_cons_self).2
          refine ⟨_, rfl, a, _, 0, _, rfl, rfl, SqT.of e, at0, .str s, .str (Str.ofString "sign"), .str _, .str _, sh0, shp_sign, _, rfl, ?_⟩
          rw [eqv_str]
          refine ite2 (fun hs => ?_) (fun hs => ?_)
          · have hs : s = Str.ofString "sign" := of_decide_eq_true hs
            subst hs
            rw [decide_eq_true rfl, decide_eq_false sgn_ne, Bool.true_and, Bool.false_and, Bool.or_false] at k
            refine ⟨_, rfl, a, _, rfl, .inr (SqT.of e), rfl, _, rfl, ?_⟩
            refine ite2 (fun h2 => ?_) (fun h2 => ?_)
            rotate_left
            · have h3 : (PyData.str (Str.ofString "sign") :: ds).length ≠ 2 := fun z => h2 (decide_eq_true (by rw [List.length_cons] at z ⊢; rw [show us.length = 1 by omega]; rfl))
              rw [sign_not h3] at k
              have h2 := bfalse h2
              first | exact k | (rw [h2]; exact k)
            have h3 : ds.length = 1 := by have := V.int.inj (of_decide_eq_true h2); rw [List.length_cons] at this; omega
            match us, ds, h, h3, ok, e with
            | [v1], [d1], .cons x1 .nil, _, ok, e =>
              have k : Q (.bl (eqS (Str.ofString "sign") (.str (Str.ofString "sign")) && letD d1)) H := k
              rw [eqS_str, decide_eq_true rfl, Bool.true_and] at k
              cases x1 with
              | int z => exact ⟨_, rfl, a, _, 1, _, rfl, rfl, SqT.of e, rfl, _, _, _, _, rfl, .int z, kit_int_str, _, rfl, k⟩
              | bl z => exact ⟨_, rfl, a, _, 1, _, rfl, rfl, SqT.of e, rfl, _, _, _, _, rfl, .bl z, kit_bool_str, _, rfl, k⟩
              | non => exact ⟨_, rfl, a, _, 1, _, rfl, rfl, SqT.of e, rfl, _, _, _, _, rfl, .non, kit_none_str, _, rfl, k⟩
              | tup e' n' h' => exact ⟨_, rfl, a, _, 1, _, rfl, rfl, SqT.of e, rfl, _, _, _, _, rfl, .tup e', kit_tuple_str, _, rfl, k⟩
              | lst e' n' h' => exact ⟨_, rfl, a, _, 1, _, rfl, rfl, SqT.of e, rfl, _, _, _, _, rfl, .lst e', kit_list_str, _, rfl, k⟩
              | str x =>
                have hx : x.length ≤ 1000 := (ok (.str x) (by simp)).1
                refine ⟨_, rfl, a, _, 1, _, rfl, rfl, SqT.of e, rfl, _, _, _, _, rfl, .str x, kit_str_str, _, rfl, ?_⟩
                refine ite2 (fun _ => ?_) (fun h => absurd rfl h)
                refine ⟨_, rfl, a, _, 1, _, rfl, rfl, SqT.of e, rfl, x, rfl, by omega, rfl, _, rfl, ?_⟩
                refine ite2 (fun h => ?_) (fun h => ?_)
                rotate_left
                · have h1 : x.length ≠ 1 := fun z => h (decide_eq_true (by rw [z]; rfl))
                  rw [letD_len h1] at k
                  have h := bfalse h
                  first | exact k | (rw [h]; exact k)
                have h1 : x.length = 1 := by have := V.int.inj (of_decide_eq_true h); omega
                obtain ⟨c, rfl⟩ := one_of h1
                have k : Q (.bl (isl c)) H := k
                have ea := az c
                refine ⟨_, rfl, a, _, 1, _, rfl, rfl, SqT.of e, rfl, _, _, rfl, rfl, _, rfl, ?_⟩
                refine ite2 (fun h1 => ?_) (fun h1 => ?_)
                · rw [if_pos h1] at ea
                  refine ⟨_, _, rfl, rfl, ?_⟩
                  show Q (.bl _) H
                  rw [ea]
                  exact k
                · rw [if_neg h1] at ea
                  show Q (.bl false) H
                  rw [ea]
                  exact k
          have hs : ¬ s = Str.ofString "sign" := fun z => hs (decide_eq_true z)
          rw [decide_eq_false hs, Bool.false_and, Bool.false_or] at k
          try unfold tNext
          try dsimp only
          refine ⟨_, rfl, a, _, 0, _, rfl, rfl, SqT.of e, at0, .str s, .str (Str.ofString "copy"), .str _, .str _, sh0, shp_copy, _, rfl, ?_⟩
          rw [eqv_str]
          refine ite2 (fun hc => ?_) (fun hc => ?_)
          · have hc : ¬ s = Str.ofString "copy" := by simpa using hc
            rw [decide_eq_false hc, Bool.false_and] at k
            exact k
          have hc : s = Str.ofString "copy" := by simpa using hc
          subst hc
          rw [decide_eq_true rfl, Bool.true_and] at k
          refine ⟨_, rfl, a, _, rfl, .inr (SqT.of e), rfl, _, rfl, ?_⟩
          refine ite2 (fun h2 => ?_) (fun h2 => ?_)
          · have h3 : (PyData.str (Str.ofString "copy") :: ds).length ≠ 3 := fun z => by
              rw [List.length_cons] at z
              rw [List.length_cons, show us.length = 2 by omega] at h2
              exact absurd h2 (by decide)
            rw [copy_not h3] at k
            exact k
          have h3 : ds.length = 2 := by
            by_cases q : ds.length = 2
            · exact q
            · refine absurd ?_ h2
              have h0 : decide (V.int ((V.str (Str.ofString "copy") :: us).length : Int) = V.int 3) = false := decide_eq_false fun z => q (by have := V.int.inj z; rw [List.length_cons] at this; omega)
              rw [h0]; rfl
          match us, ds, h, h3, ok, e with
          | [v1, v2], [d1, d2], .cons x1 (.cons x2 .nil), _, ok, e =>
            have k : Q (.bl (eqS (Str.ofString "copy") (.str (Str.ofString "copy")) && (whD d1 && (whD d2 && (intGe 0 d1 && intGe 1 d2))))) H := k
            rw [eqS_str, decide_eq_true rfl, Bool.true_and] at k
            refine ⟨_, rfl, a, _, 1, v1, rfl, rfl, SqT.of e, rfl, rs, v1, d1, rfl, x1, _, rfl, ?_⟩
            refine ite2 (fun h => ?_) (fun h => ?_)
            · have h : whD d1 = false := by simpa using h
              rw [h, Bool.false_and] at k
              exact k
            have h : whD d1 = true := by simpa using h
            rw [h, Bool.true_and] at k
            refine ⟨_, rfl, a, _, 2, v2, rfl, rfl, SqT.of e, rfl, rs, v2, d2, rfl, x2, _, rfl, ?_⟩
            refine ite2 (fun h2 => ?_) (fun h2 => ?_)
            · have h2 : whD d2 = false := by simpa using h2
              rw [h2, Bool.false_and] at k
              exact k
            have h2 : whD d2 = true := by simpa using h2
            rw [h2, Bool.true_and] at k
            try unfold tNext
            try dsimp only
            cases x1 with
            | int z =>
              cases x2 with
              | int y =>
                have k : Q (.bl (decide (0 ≤ z) && decide (1 ≤ y))) H := k
                refine ⟨_, rfl, a, _, 1, V.int z, rfl, rfl, SqT.of e, rfl, _, _, rfl, rfl, _, rfl, ?_⟩
                refine ite2 (fun h => ?_) (fun h => ?_)
                rotate_left
                · have h : decide (0 ≤ z) = false := bfalse h
                  rw [h, Bool.false_and] at k
                  first | exact k | (rw [h]; exact k)
                have h : decide (0 ≤ z) = true := h
                rw [h, Bool.true_and] at k
                exact ⟨_, rfl, a, _, 2, V.int y, rfl, rfl, SqT.of e, rfl, _, _, rfl, rfl, k⟩
              | _ => cases h2
            | _ => first | (cases h; done) | (rename_i hh; cases hh)
end
end K20

set_option Elab.async false
set_option linter.all false
set_option maxRecDepth 100000
set_option maxHeartbeats 1000000
namespace K20
open PySem L2
theorem len_pos {d : PyData} (h : partD d = true) : 1 ≤ lenD d := by
  rcases part_cases h with ⟨c, _, rfl⟩ | ⟨x, y, _, h1, rfl⟩
  · exact Int.le_refl _
  · exact h1
theorem sum_pos : ∀ {ds : List PyData}, ds.all partD = true → (ds.length : Int) ≤ sumD ds
  | [], _ => Int.le_refl _
  | d :: ds, h => by
    rw [List.all_cons, Bool.and_eq_true] at h
    have h1 := len_pos h.1
    have h2 := sum_pos h.2
    have e : sumD (d :: ds) = lenD d + sumD ds := by
      unfold sumD
      rw [List.map_cons, List.sum_cons]
    rw [e, List.length_cons]
    omega
section
variable {P : Program} {w : World} {K : PySem.W.Frag} {mg : Str → Option Value} {base : Heap}
theorem ok_lfm (F : FunN K mg "_law_is_form" s_law_is_form P_law_is_form) (T : Bu mg) (c__law_is_part : Cal P w K mg base 2 "_law_is_part" P_law_is_part spPt) (c__law_length : Cal P w K mg base 1 "_law_length" P_law_length spLenD) : Cal P w K mg base 3 "_law_is_form" P_law_is_form spIscD := by
  refine cal_of F sc_law_is_form (fun vs H Q E h => ?_) (fun f cdv A outer s H vs Q E hr h => ?_)
  · obtain ⟨rs, v, d, rfl, _⟩ := h
    rfl
  · obtain ⟨rs, v, d, rfl, dx, ok, k⟩ := h
    have hS : sizeLine = 16777216 := szl
    refine ⟨_, (@pss_cons _ _ _ _ _ (@ps_if _ _ _ _ _ _ _ _ (@PW.pt _ _ _ (@pw_or _ _ _ _ _ _ _ (@pt_not _ _ _ _ (@pt_val _ _ _ (@pe_callB _ _ _ _ _ _ _ _ _ call_isi (by rfl) T.n_isinstance (by decide +kernel) (@pa_cons _ _ _ _ _ (@pv _ 0 _ _ (by rfl) (by first | exact Or.inl rfl | exact Or.inr (Or.inl rfl) | exact Or.inr (Or.inr rfl)) (by decide) (by decide)) (@pa_cons _ _ _ _ _ (@pe_bltn _ _ (V.ty "tuple") _ _ (by rfl) T.n_tuple (by decide +kernel) rfl (by decide) (by decide)) pa_nil (by rfl)) (by rfl)) (by decide) (by decide) (by rfl) (by rfl)) (by intro _; rfl))) (@pw_or _ _ _ _ _ _ _ (@pt_cmpR _ _ _ _ _ _ _ _ op_gt (@pe_callB _ _ _ _ _ _ _ _ _ call_len_seq (by rfl) T.n_len (by decide +kernel) (@pa_cons _ _ _ _ _ (@pv _ 0 _ _ (by rfl) (by first | exact Or.inl rfl | exact Or.inr (Or.inl rfl) | exact Or.inr (Or.inr rfl)) (by decide) (by decide)) pa_nil (by rfl)) (by decide) (by decide) (by rfl) (by rfl)) pe_int (nomark _)) (@pw_or1 _ _ _ _ (@pt_not _ _ _ _ (@pt_val _ _ _ (@pe_callB _ _ _ _ _ _ _ _ _ (cr_all rfl) (by rfl) T.n_all (by decide +kernel) (@pa_cons _ _ _ _ _ (@pe_lc _ _ _ _ _ _ ([("part", 1)]) _ _ (gName 1) _ _ (by rfl) sc_law_is_form.nd (@pi_tup _ _ _ _ (@pv _ 0 _ _ (by rfl) (by first | exact Or.inl rfl | exact Or.inr (Or.inl rfl) | exact Or.inr (Or.inr rfl)) (by decide) (by decide))) (@blkOk_by (N_law_is_form) (defScope s_law_is_form) _ ([("part", 1)]) (by decide +kernel)) (fun _ _ _ _ _ => pg_name (i := 1) sc_law_is_form.nd rfl (Or.inl rfl)) (fun _ _ _ _ _ => pts_nil) (fun _ _ _ _ _ => (@pe_cal _ _ _ _ _ _ _ _ _ _ c__law_is_part (hr.mono (by decide)) (by rfl) (@pa_cons _ _ _ _ _ (@pv _ 1 _ _ (by rfl) (by first | exact Or.inl rfl | exact Or.inr (Or.inl rfl) | exact Or.inr (Or.inr rfl)) (by decide) (by decide)) pa_nil (by rfl)) (by decide) (by rfl) (by rfl))) (by intro _; rfl)) pa_nil (by rfl)) (by decide) (by decide) (by rfl) (by rfl)) (by intro _; rfl))))))) (@pss_one _ _ _ (@ps_ret _ _ _ _ pe_bl)) pss_nil) (@pss_cons _ _ _ _ _ (@ps_set _ _ (2) _ _ _ _ sc_law_is_form.nd rfl (Or.inr rfl) (@pe_callB _ _ _ _ _ _ _ _ _ (cr_sum rfl) (by rfl) T.n_sum (by decide +kernel) (@pa_cons _ _ _ _ _ (@pe_lc _ _ _ _ _ _ ([("part", 1)]) _ _ (gName 1) _ _ (by rfl) sc_law_is_form.nd (@pi_tup _ _ _ _ (@pv _ 0 _ _ (by rfl) (by first | exact Or.inl rfl | exact Or.inr (Or.inl rfl) | exact Or.inr (Or.inr rfl)) (by decide) (by decide))) (@blkOk_by (N_law_is_form) (defScope s_law_is_form) _ ([("part", 1)]) (by decide +kernel)) (fun _ _ _ _ _ => pg_name (i := 1) sc_law_is_form.nd rfl (Or.inl rfl)) (fun _ _ _ _ _ => pts_nil) (fun _ _ _ _ _ => (@pe_cal _ _ _ _ _ _ _ _ _ _ c__law_length (hr.mono (by decide)) (by rfl) (@pa_cons _ _ _ _ _ (@pv _ 1 _ _ (by rfl) (by first | exact Or.inl rfl | exact Or.inr (Or.inl rfl) | exact Or.inr (Or.inr rfl)) (by decide) (by decide)) pa_nil (by rfl)) (by decide) (by rfl) (by rfl))) (by intro _; rfl)) pa_nil (by rfl)) (by decide) (by decide) (by rfl) (by rfl)) (by rfl) (by first | exact .inl rfl | exact .inr rfl)) (@pss_one _ _ _ (@ps_ret _ _ _ _ (@pe_and _ _ _ _ _ _ _ (@pe_cmpR _ _ _ _ _ _ _ _ op_le (@pv _ 2 _ _ (by rfl) (by first | exact Or.inl rfl | exact Or.inr (Or.inl rfl) | exact Or.inr (Or.inr rfl)) (by decide) (by decide)) pe_int (nomark _)) (@pe_one _ _ _ _ _ (@pe_callB _ _ _ _ _ _ _ _ _ (cr_all rfl) (by rfl) T.n_all (by decide +kernel) (@pa_cons _ _ _ _ _ (@pe_lc _ _ _ _ _ _ ([("part", 1)]) _ _ (gName 1) _ _ (by rfl) sc_law_is_form.nd (@pi_tup _ _ _ _ (@pv _ 0 _ _ (by rfl) (by first | exact Or.inl rfl | exact Or.inr (Or.inl rfl) | exact Or.inr (Or.inr rfl)) (by decide) (by decide))) (@blkOk_by (N_law_is_form) (defScope s_law_is_form) _ ([("part", 1)]) (by decide +kernel)) (fun _ _ _ _ _ => pg_name (i := 1) sc_law_is_form.nd rfl (Or.inl rfl)) (fun _ _ _ _ _ => (@pts_one _ _ _ (@pt_cmpR _ _ _ _ _ _ _ _ op_eq (@pe_ix _ _ _ _ _ _ _ (show IxR _ (rIxT K) from ix_tup) (@pv _ 1 _ _ (by rfl) (by first | exact Or.inl rfl | exact Or.inr (Or.inl rfl) | exact Or.inr (Or.inr rfl)) (by decide) (by decide)) pe_int (fun _ _ => rfl)) pe_str (nomark _)))) (fun _ _ _ _ _ => (@pe_cmpR _ _ _ _ _ _ _ _ op_le (@pe_op _ _ _ _ _ _ _ _ op_add (@pe_ix _ _ _ _ _ _ _ (show IxR _ (rIxT K) from ix_tup) (@pv _ 1 _ _ (by rfl) (by first | exact Or.inl rfl | exact Or.inr (Or.inl rfl) | exact Or.inr (Or.inr rfl)) (by decide) (by decide)) pe_int (fun _ _ => rfl)) (@pe_ix _ _ _ _ _ _ _ (show IxR _ (rIxT K) from ix_tup) (@pv _ 1 _ _ (by rfl) (by first | exact Or.inl rfl | exact Or.inr (Or.inl rfl) | exact Or.inr (Or.inr rfl)) (by decide) (by decide)) pe_int (fun _ _ => rfl))) (@pv _ 2 _ _ (by rfl) (by first | exact Or.inl rfl | exact Or.inr (Or.inl rfl) | exact Or.inr (Or.inr rfl)) (by decide) (by decide)) (nomark _))) (by intro _; rfl)) pa_nil (by rfl)) (by decide) (by decide) (by rfl) (by rfl)))))))), ?_⟩
    cases dx with
    | int z => exact ⟨_, rfl, _, _, _, _, rfl, .int z, kit_int_tuple, _, rfl, k H (.refl _)⟩
    | bl b => exact ⟨_, rfl, _, _, _, _, rfl, .bl b, kit_bool_tuple, _, rfl, k H (.refl _)⟩
    | non => exact ⟨_, rfl, _, _, _, _, rfl, .non, kit_none_tuple, _, rfl, k H (.refl _)⟩
    | str x => exact ⟨_, rfl, _, _, _, _, rfl, .str x, kit_str_tuple, _, rfl, k H (.refl _)⟩
    | lst e n h => exact ⟨_, rfl, _, _, _, _, rfl, .lst e, kit_list_tuple, _, rfl, k H (.refl _)⟩
    | @tup a us ds e nn h =>
      obtain ⟨hl, ok⟩ := ok ds rfl
      have hlen := h.len
      have k : ∀ H', Same H H' → Q (.bl (ds.all partD && (decide (sumD ds ≤ 300) && ds.all fun d => decide (rchD d ≤ sumD ds)))) H' := k
      refine ⟨_, rfl, _, _, _, _, rfl, .tup e, kit_tuple_tuple, _, rfl, ?_⟩
      refine ite2 (fun h => by cases h) (fun _ => ?_)
      refine ⟨_, rfl, a, _, rfl, .inr (SqT.of e), _, _, rfl, rfl, _, rfl, ?_⟩
      refine ite2 (fun h1 => ?_) (fun h1 => ?_)
      · have h1 := of_decide_eq_true h1
        have k0 := k H (.refl _)
        by_cases g : ds.all partD = true
        · have := sum_pos g
          rw [decide_eq_false (show ¬ sumD ds ≤ 300 by omega), Bool.false_and, Bool.and_false] at k0
          exact k0
        · rw [bfalse g, Bool.false_and] at k0
          exact k0
      refine ⟨_, rfl, a, rfl, ⟨_, SqT.of e⟩, fun D hD => ?_⟩
      refine lc_tup (K := K) (a := a) (xs := us) (fun i H' => Same H H' ∧ H' D = some (.lst (((ds.take i).map partD).map V.bl))) ⟨Same.upd_new hD, upd_same⟩ (fun i H' _ ⟨sm, _⟩ => SqT.of (sm _ _ e)) ?_ ?_
      · rintro i v H1 hi ⟨s1, hD1⟩
        obtain ⟨d, hd, it⟩ := h.at' hi
        refine ⟨rfl, _, rfl, rs, v, d, rfl, it.off (Same.offL s1), ok d (List.mem_of_getElem? hd), ?_⟩
        refine ⟨_, hD1, by rw [List.length_map, List.length_map, List.length_take]; omega, fun c oc hc => ?_, ?_⟩
        · rw [upd_ne (ne_of_none hc hD)]
          exact s1 _ _ hc
        · rw [upd_same, List.take_succ, hd, List.map_append, List.map_append]
          rfl
      rintro H1 ⟨s1, hD1⟩
      rw [hlen, List.take_of_length_le (Nat.le_refl _)] at hD1
      refine ⟨D, _, rfl, SqL.of hD1, _, rfl, ?_⟩
      have eall : (ds.map partD).all id = ds.all partD := by rw [List.all_map]; rfl
      rw [eall]
      refine ite2 (fun g => ?_) (fun g => ?_)
      · have g : ds.all partD = false := by simpa using g
        have k0 := k H1 s1
        rw [g, Bool.false_and] at k0
        exact k0
      have g : ds.all partD = true := by simpa using g
      rw [g] at k
      simp only [Bool.true_and] at k
      try unfold tNext
      try dsimp only
      have e1 := s1 _ _ e
      have h1 := h.off (Same.offL (rs := rs) s1)
      refine ⟨_, rfl, a, rfl, ⟨_, SqT.of e1⟩, fun D2 hD2 => ?_⟩
      refine lc_tup (K := K) (a := a) (xs := us) (fun i H' => Same H1 H' ∧ H' D2 = some (.lst (((ds.take i).map lenD).map V.int))) ⟨Same.upd_new hD2, upd_same⟩ (fun i H' _ ⟨sm, _⟩ => SqT.of (sm _ _ e1)) ?_ ?_
      · rintro i v H2 hi ⟨s2, hD22⟩
        obtain ⟨d, hd, it⟩ := h1.at' hi
        refine ⟨rfl, _, rfl, rs, v, d, rfl, it.off (Same.offL s2), all_at g hd, ?_⟩
        refine ⟨_, hD22, by rw [List.length_map, List.length_map, List.length_take]; omega, fun c oc hc => ?_, ?_⟩
        · rw [upd_ne (ne_of_none hc hD2)]
          exact s2 _ _ hc
        · rw [upd_same, List.take_succ, hd, List.map_append, List.map_append]
          rfl
      rintro H2 ⟨s2, hD22⟩
      rw [hlen, List.take_of_length_le (Nat.le_refl _)] at hD22
      refine ⟨D2, _, rfl, SqL.of hD22, ?_⟩
      have es : (ds.map lenD).sum = sumD ds := rfl
      rw [es]
      try dsimp only
      refine ⟨_, rfl, _, _, rfl, rfl, _, rfl, ?_⟩
      refine ite2 (fun g2 => ?_) (fun g2 => ?_)
      rotate_left
      · have g2 : decide (sumD ds ≤ 300) = false := bfalse g2
        have k0 := k H2 (s1.trans s2)
        rw [g2, Bool.false_and] at k0
        first | exact k0 | (rw [g2]; exact k0)
      have g2 : decide (sumD ds ≤ 300) = true := g2
      rw [g2] at k
      simp only [Bool.true_and] at k
      have e2 := s2 _ _ e1
      have h2 := h1.off (Same.offL (rs := rs) s2)
      have hpos := sum_pos g
      refine ⟨_, rfl, a, rfl, ⟨_, SqT.of e2⟩, fun D3 hD3 => ?_⟩
      refine lc_tup (K := K) (a := a) (xs := us) (fun i H' => Same H2 H' ∧ ∃ bs : List Bool, H' D3 = some (.lst (bs.map V.bl)) ∧ bs.length ≤ i ∧ bs.all id = (ds.take i).all fun d => decide (rchD d ≤ sumD ds)) ⟨Same.upd_new hD3, [], upd_same, Nat.le_refl _, rfl⟩ (fun i H' _ ⟨sm, _⟩ => SqT.of (sm _ _ e2)) ?_ ?_
      · rintro i v H3 hi ⟨s3, bs, hD33, hbl, hba⟩
        obtain ⟨d, hd, it⟩ := h2.at' hi
        have hil := (List.getElem?_eq_some_iff.mp hi).1
        have it := it.off (Same.offL s3)
        have hp := all_at g hd
        have nxt : decide (rchD d ≤ sumD ds) = true → bs.all id = (ds.take (i + 1)).all fun d => decide (rchD d ≤ sumD ds) := fun z => by
          rw [List.take_succ, hd, List.all_append, hba]
          show _ = (_ && (decide (rchD d ≤ sumD ds) && true))
          rw [z, Bool.and_true, Bool.and_true]
        rcases part_cases hp with ⟨c, _, rfl⟩ | ⟨x, y, _, _, rfl⟩
        · cases it with
          | @tup b ws es eb nb hb =>
            match ws, hb with
            | [_, _], .cons (.str _) (.cons (.str _) .nil) =>
              refine ⟨rfl, _, rfl, b, _, 0, _, rfl, rfl, SqT.of eb, rfl, rfl, _, rfl, ?_⟩
              refine ite2 (fun h => absurd h (by decide +kernel)) (fun _ => ?_)
              exact ⟨s3, bs, hD33, by omega, nxt (decide_eq_true (by show (0 : Int) ≤ _; omega))⟩
        · cases it with
          | @tup b ws es eb nb hb =>
            match ws, hb with
            | [_, _, _], .cons (.str _) (.cons (.int _) (.cons (.int _) .nil)) =>
              refine ⟨rfl, _, rfl, b, _, 0, _, rfl, rfl, SqT.of eb, rfl, rfl, _, rfl, ?_⟩
              refine ite2 (fun _ => ?_) (fun h => absurd (by decide +kernel) h)
              refine ⟨_, rfl, b, _, 1, _, rfl, rfl, SqT.of eb, rfl, _, rfl, b, _, 2, _, rfl, rfl, SqT.of eb, rfl, _, _, rfl, rfl, _, rfl, _, _, rfl, rfl, ?_⟩
              refine ⟨_, hD33, by rw [List.length_map]; omega, fun c oc hc => ?_, bs ++ [decide (x + y ≤ sumD ds)], ?_, by rw [List.length_append]; show _ + 1 ≤ _; omega, ?_⟩
              · rw [upd_ne (ne_of_none hc hD3)]
                exact s3 _ _ hc
              · rw [upd_same, List.map_append]
                rfl
              · rw [List.take_succ, hd, List.all_append, List.all_append, hba]
                rfl
      · rintro H3 ⟨s3, bs, hD33, hbl, hba⟩
        rw [hlen, List.take_of_length_le (Nat.le_refl _)] at hba
        refine ⟨D3, _, rfl, SqL.of hD33, ?_⟩
        rw [hba]
        exact k _ (s1.trans (s2.trans s3))
end
end K20

set_option Elab.async false
set_option linter.all false
set_option maxRecDepth 100000
set_option maxHeartbeats 1000000
namespace K20
open PySem L2
def spLen : Sp := fun vs H Q _ => ∃ (a : Addr) (p : Prt), vs = [.ref a] ∧ H a = some (.tup (pV p)) ∧ Q (.int (pLen p)) H
def Few (ps : List Prt) : Prop := ∀ o m, (Sum.inr (o, m) : Prt) ∈ ps → o ≤ 1000 ∧ m ≤ 1000
theorem Prts.at' {H : Hp} {vs : List V} {ps : List Prt} (h : Prts H vs ps) : ∀ {i : Nat} {v : V}, vs[i]? = some v → ∃ r p, v = .ref r ∧ ps[i]? = some p ∧ H r = some (.tup (pV p)) := by
  induction h with
  | nil => intro i v hv; simp at hv
  | @cons r p vs ps hr _ ih =>
    intro i v hv
    cases i with
    | zero =>
      simp at hv
      exact ⟨r, p, hv.symm, rfl, hr⟩
    | succ i =>
      simp at hv
      obtain ⟨r', p', a, b, c⟩ := ih hv
      exact ⟨r', p', a, by simpa using b, c⟩
theorem sumL_app (ps qs : List Prt) : sumL (ps ++ qs) = sumL ps + sumL qs := by simp [sumL]
theorem sumL_take {ps : List Prt} {i : Nat} {p : Prt} (h : ps[i]? = some p) : sumL (ps.take i) + pLen p ≤ sumL ps := by
  have e : ps.take (i + 1) = ps.take i ++ [p] := by rw [List.take_succ, h]; rfl
  have := sumL_snoc (ps.take i) p
  rw [← e] at this
  have h2 := sumL_app (ps.take (i + 1)) (ps.drop (i + 1))
  rw [List.take_append_drop] at h2
  omega
def spFromL : Sp := fun vs H Q _ => ∃ (f : Addr) (us : List V) (ps : List Prt), vs = [.ref f] ∧ H f = some (.lst us) ∧ Prts H us ps ∧ Few ps ∧ sumL ps ≤ 1000 ∧ ∀ (l : Addr) (H' : Hp), H l = none → H' l = some (.lst ((org ps).map oV)) → Same H H' → Q (.ref l) H'
section
variable {P : Program} {w : World} {K : PySem.W.Frag} {mg : Str → Option Value} {base : Heap}
theorem ok_llen (F : FunN K mg "_law_length" s_law_length P_law_length) (T : Bu mg) : Cal P w K mg base 1 "_law_length" P_law_length spLen := by
  refine cal_of F sc_law_length (fun vs H Q E h => ?_) (fun f cdv A outer s H vs Q E hr h => ?_)
  · obtain ⟨a, p, rfl, _⟩ := h
    rfl
  · obtain ⟨a, p, rfl, ha, k⟩ := h
    refine ⟨_, (@pss_cons _ _ _ _ _ (@ps_if _ _ _ _ _ _ _ _ (@pt_cmpR _ _ _ _ _ _ _ _ op_eq (@pe_ix _ _ _ _ _ _ _ ix_tup (@pv _ 0 _ _ (by rfl) (by first | exact Or.inl rfl | exact Or.inr (Or.inl rfl) | exact Or.inr (Or.inr rfl)) (by decide) (by decide)) pe_int (fun _ _ => rfl)) pe_str (nomark _)) (@pss_one _ _ _ (@ps_ret _ _ _ _ pe_int)) pss_nil) (@pss_one _ _ _ (@ps_ret _ _ _ _ (@pe_ix _ _ _ _ _ _ _ ix_tup (@pv _ 0 _ _ (by rfl) (by first | exact Or.inl rfl | exact Or.inr (Or.inl rfl) | exact Or.inr (Or.inr rfl)) (by decide) (by decide)) pe_int (fun _ _ => rfl))))), ?_⟩
    match p, ha, k with
    | .inl c, ha, k =>
      refine ⟨_, rfl, a, _, 0, _, rfl, rfl, SqT.of ha, rfl, rfl, _, rfl, ?_⟩
      exact ite2 (fun _ => k) (fun h => absurd (decide_eq_true rfl) h)
    | .inr (o, m), ha, k =>
      refine ⟨_, rfl, a, _, 0, _, rfl, rfl, SqT.of ha, rfl, rfl, _, rfl, ?_⟩
      refine ite2 (fun h => absurd h (by decide +kernel)) (fun _ => ?_)
      exact ⟨_, rfl, a, _, 2, _, rfl, rfl, SqT.of ha, rfl, k⟩
theorem ok_fromL (F : FunN K mg "_law_from" s_law_from P_law_from) (T : Bu mg) (c__law_length : Cal P w K mg base 1 "_law_length" P_law_length spLen) : Cal P w K mg base 2 "_law_from" P_law_from spFromL := by
  refine cal_of F sc_law_from (fun vs H Q E h => ?_) (fun f cdv A outer s H vs Q E hr h => ?_)
  · obtain ⟨l, os, t, rfl, _⟩ := h
    rfl
  · obtain ⟨f, us, ps, rfl, hf, pr, few, hsm, k⟩ := h
    have hS : sizeLine = 16777216 := szl
    refine ⟨_, (@pss_cons _ _ _ _ _ (@ps_set _ _ (1) _ _ _ _ sc_law_from.nd rfl (Or.inl rfl) (@pe_lst _ _ _ _ pa_nil) (by rfl) (by first | exact .inl rfl | exact .inr rfl)) (@pss_cons _ _ _ _ _ (@ps_for _ _ _ _ _ _ _ _ PassesOwn.never rfl (@pi_list _ _ _ _ (@pv _ 0 _ _ (by rfl) (by first | exact Or.inl rfl | exact Or.inr (Or.inl rfl) | exact Or.inr (Or.inr rfl)) (by decide) (by decide))) (@pg_name _ _ (2) _ sc_law_from.nd rfl (Or.inl rfl) (by first | exact .inl rfl | exact .inr rfl)) (@pss_one _ _ _ (@ps_for _ _ _ _ _ _ _ _ PassesOwn.never rfl (@pi_range1 _ _ _ _ _ _ rfl T.n_range (@pa_cons _ _ _ _ _ (@pe_cal _ _ _ _ _ _ _ _ _ _ c__law_length (hr.mono (by decide)) (by rfl) (@pa_cons _ _ _ _ _ (@pv _ 2 _ _ (by rfl) (by first | exact Or.inl rfl | exact Or.inr (Or.inl rfl) | exact Or.inr (Or.inr rfl)) (by decide) (by decide)) pa_nil (by rfl)) (by decide) (by rfl) (by rfl)) pa_nil (by rfl)) (by rfl)) (@pg_name _ _ (3) _ sc_law_from.nd rfl (Or.inl rfl) (by first | exact .inl rfl | exact .inr rfl)) (@pss_one _ _ _ (@ps_expr _ _ _ _ (@pe_bm _ _ _ _ _ _ _ _ _ _ _ _ PySem.F.plainAttrs_list PySem.F.slot_list_append PySem.F.type_list_append mt_append (@pv _ 1 _ _ (by rfl) (by first | exact Or.inl rfl | exact Or.inr (Or.inl rfl) | exact Or.inr (Or.inr rfl)) (by decide) (by decide)) (@pa_cons _ _ _ _ _ (@pe_ifExp _ _ _ _ _ _ _ _ (@pt_cmpR _ _ _ _ _ _ _ _ op_eq (@pe_ix _ _ _ _ _ _ _ ix_tup (@pv _ 2 _ _ (by rfl) (by first | exact Or.inl rfl | exact Or.inr (Or.inl rfl) | exact Or.inr (Or.inr rfl)) (by decide) (by decide)) pe_int (fun _ _ => rfl)) pe_str (nomark _)) (@pe_ix _ _ _ _ _ _ _ ix_tup (@pv _ 2 _ _ (by rfl) (by first | exact Or.inl rfl | exact Or.inr (Or.inl rfl) | exact Or.inr (Or.inr rfl)) (by decide) (by decide)) pe_int (fun _ _ => rfl)) (@pe_op _ _ _ _ _ _ _ _ op_add (@pe_ix _ _ _ _ _ _ _ ix_tup (@pv _ 2 _ _ (by rfl) (by first | exact Or.inl rfl | exact Or.inr (Or.inl rfl) | exact Or.inr (Or.inr rfl)) (by decide) (by decide)) pe_int (fun _ _ => rfl)) (@pv _ 3 _ _ (by rfl) (by first | exact Or.inl rfl | exact Or.inr (Or.inl rfl) | exact Or.inr (Or.inr rfl)) (by decide) (by decide)))) pa_nil (by rfl)) (by rfl) (by rfl) (by rfl) (by rfl) (by rfl)) (by rfl))) (by intro _; rfl))) (by intro _; rfl)) (@pss_one _ _ _ (@ps_ret _ _ _ _ (@pv _ 1 _ _ (by rfl) (by first | exact Or.inl rfl | exact Or.inr (Or.inl rfl) | exact Or.inr (Or.inr rfl)) (by decide) (by decide)))))), ?_⟩
    refine ⟨by rw [hS]; show 0 ≤ 16777216; decide, fun l hl => ?_⟩
    try dsimp only
    refine ⟨_, rfl, f, rfl, ⟨_, SqL.of (Same.upd_new hl _ _ hf)⟩, ?_⟩
    refine for_list (K := K) (a := f) (xs := us) (fun i σ H' => ∃ v2 v3 : Option V, σ = [some (.ref f), some (.ref l), v2, v3] ∧ Same H H' ∧ H' l = some (.lst ((org (ps.take i)).map oV))) ⟨_, _, rfl, Same.upd_new hl, upd_same⟩ (fun i σ H' _ h => by obtain ⟨_, _, _, h, _⟩ := h; exact SqL.of (h _ _ hf)) ?_ ?_
    · rintro i v _ H1 hi ⟨v2, v3, rfl, s1, hl1⟩
      obtain ⟨r, p, rfl, hp, hr⟩ := Prts.at' pr hi
      have hr1 := s1 _ _ hr
      have hsl := sumL_take hp
      have et : ps.take (i + 1) = ps.take i ++ [p] := by rw [List.take_succ, hp]; rfl
      have hol : (org (ps.take i)).length = sumL (ps.take i) := org_len _
      refine ⟨_, rfl, r, p, rfl, hr1, ?_⟩
      refine ⟨_, rfl, by omega, by omega, for_range (lo := 0) (n := pLen p) (fun d σ H' => ∃ v3 : Option V, σ = [some (.ref f), some (.ref l), some (.ref r), v3] ∧ Same H H' ∧ H' l = some (.lst ((org (ps.take i) ++ (orgP p).take d).map oV))) ⟨_, rfl, s1, by rw [List.take_zero, List.append_nil]; exact hl1⟩ ?_ ?_⟩
      · rintro d _ H2 hd ⟨v3, rfl, s2, hl2⟩
        have hr2 := s2 _ _ hr
        rw [Int.zero_add]
        obtain ⟨o, ho⟩ : ∃ o, (orgP p)[d]? = some o := ⟨_, List.getElem?_eq_getElem (by rw [orgP_len]; exact hd)⟩
        have fin : ∀ H3, H3 = upd H2 l (.lst ((org (ps.take i) ++ (orgP p).take d).map oV ++ [oV o])) → ∃ v3 : Option V, [some (V.ref f), some (.ref l), some (.ref r), some (.int (d : Int))] = [some (.ref f), some (.ref l), some (.ref r), v3] ∧ Same H H3 ∧ H3 l = some (.lst ((org (ps.take i) ++ (orgP p).take (d + 1)).map oV)) := by
          rintro _ rfl
          refine ⟨_, rfl, fun b ob hb => ?_, ?_⟩
          · rw [upd_ne (ne_of_none hb hl)]
            exact s2 _ _ hb
          · rw [upd_same, List.take_succ, ho, ← List.append_assoc, List.map_append (l₁ := org (ps.take i) ++ (orgP p).take d)]
            rfl
        have hlen : ((org (ps.take i) ++ (orgP p).take d).map oV).length < sizeLine := by
          rw [List.length_map, List.length_append, List.length_take, orgP_len, hS]
          omega
        match p, hp, hr2, ho, hd, fin, hlen, hl2 with
        | .inl c, hp, hr2, ho, hd, fin, hlen, hl2 =>
          have hd : d < 1 := hd
          have e0 : d = 0 := by omega
          subst e0
          have : o = .inl c := (Option.some.inj ho).symm
          subst this
          refine ⟨_, rfl, .inl ⟨rfl, _, SqL.of hl2⟩, ?_⟩
          refine ⟨_, rfl, r, _, 0, _, rfl, rfl, SqT.of hr2, rfl, rfl, _, rfl, ?_⟩
          refine ite2 (fun _ => ?_) (fun h => absurd (decide_eq_true rfl) h)
          refine ⟨_, rfl, r, _, 1, _, rfl, rfl, SqT.of hr2, rfl, l, _, _, rfl, rfl, hl2, hlen, ?_⟩
          exact fin _ rfl
        | .inr (o', m), hp, hr2, ho, hd, fin, hlen, hl2 =>
          have hd : d < m := hd
          have : o = .inr (o' + d) := by
            have e : (orgP (.inr (o', m)))[d]? = some (Sum.inr (o' + d)) := by
              show ((List.range m).map fun k => (Sum.inr (o' + k) : Ori))[d]? = _
              rw [List.getElem?_map, List.getElem?_range hd]
              rfl
            rw [e] at ho
            exact (Option.some.inj ho).symm
          subst this
          refine ⟨_, rfl, .inl ⟨rfl, _, SqL.of hl2⟩, ?_⟩
          refine ⟨_, rfl, r, _, 0, _, rfl, rfl, SqT.of hr2, rfl, rfl, _, rfl, ?_⟩
          refine ite2 (fun h => absurd h (by decide +kernel)) (fun _ => ?_)
          refine ⟨_, rfl, r, _, 1, _, rfl, rfl, SqT.of hr2, rfl, _, rfl, _, _, rfl, rfl, l, _, _, rfl, rfl, hl2, hlen, ?_⟩
          exact fin _ rfl
      · rintro _ H2 ⟨v3, rfl, s2, hl2⟩
        rw [show (orgP p).take (pLen p) = orgP p from List.take_of_length_le (by rw [orgP_len]; exact Nat.le_refl _), ← org_snoc, ← et] at hl2
        exact ⟨_, _, rfl, s2, hl2⟩
    · rintro _ H1 ⟨v2, v3, rfl, s1, hl1⟩
      rw [pr.len, List.take_of_length_le (Nat.le_refl _)] at hl1
      exact ⟨_, rfl, k l H1 hl hl1 s1⟩
end
/-- all that a form copies lies within -/
def Inw (os : List Ori) : Prop := ∀ i j : Nat, os[i]? = some (Sum.inr j : Ori) → j < os.length
/-- what _law_followed tells: none, or how many with the letter -/
def spLfo : Sp := fun vs H Q _ => ∃ (l : Addr) (os : List Ori) (i : Nat), vs = [.ref l, .int (i : Int)] ∧ H l = some (.lst (os.map oV)) ∧ Inw os ∧ os.length ≤ 1000 ∧ i < os.length ∧ ∀ (t : Addr) (H' : Hp) (x y : V), H t = none → H' t = some (.tup [x, y]) → ((x = .non ∧ y = .non ∧ ¬ ∃ m c, Fol os i m c) ∨ ∃ m c : Nat, x = .int (m : Int) ∧ y = .str ⟨#[c]⟩ ∧ Fol os i m c) → Same H H' → Q (.ref t) H'
/-- so many copies from one place to another -/
inductive Pth (os : List Ori) (i : Nat) : Nat → Nat → Prop where
  | here : Pth os i 0 i
  | on {k a b : Nat} : Pth os i k a → os[a]? = some (Sum.inr b) → Pth os i (k + 1) b
theorem Pth.fol {os : List Ori} {i k a : Nat} (h : Pth os i k a) : ∀ {m c : Nat}, Fol os a m c → Fol os i (m + k) c := by
  induction h with
  | here => intro m c h; exact h
  | on h e ih =>
    intro m c hf
    have := ih (.copy e hf)
    rw [Nat.add_assoc, Nat.add_comm 1] at this
    exact this
theorem Pth.back {os : List Ori} {i k a : Nat} (h : Pth os i k a) {m c : Nat} (hf : Fol os i m c) : ∃ m', m = m' + k ∧ Fol os a m' c := by
  induction h with
  | here => exact ⟨m, rfl, hf⟩
  | on h e ih =>
    obtain ⟨m', e1, g⟩ := ih
    cases g with
    | sign e' => rw [e] at e'; cases e'
    | @copy _ j m2 _ e' g =>
      rw [e] at e'
      cases e'
      exact ⟨m2, by omega, g⟩
section
variable {P : Program} {w : World} {K : PySem.W.Frag} {mg : Str → Option Value} {base : Heap}
theorem ok_lfo (F : FunN K mg "_law_followed" s_law_followed P_law_followed) (T : Bu mg) : Cal P w K mg base 1 "_law_followed" P_law_followed spLfo := by
  refine cal_of F sc_law_followed (fun vs H Q E h => ?_) (fun f cdv A outer s H vs Q E hr h => ?_)
  · obtain ⟨l, os, i, rfl, _⟩ := h
    rfl
  · obtain ⟨l, os, i, rfl, hl, inw, hos, hi, k⟩ := h
    have hS : sizeLine = 16777216 := szl
    refine ⟨_, (@pss_cons _ _ _ _ _ (@ps_set _ _ (2) _ _ _ _ sc_law_followed.nd rfl (Or.inl rfl) pe_dnewK (by rfl) (by first | exact .inl rfl | exact .inr rfl)) (@pss_cons _ _ _ _ _ (@ps_while _ _ _ _ _ _ PassesOwn.never (@pt_not _ _ _ _ (@pt_val _ _ _ (@pe_callB _ _ _ _ _ _ _ _ _ call_isi (by rfl) T.n_isinstance (by decide +kernel) (@pa_cons _ _ _ _ _ (@pe_ix _ _ _ _ _ _ _ ix_list (@pv _ 0 _ _ (by rfl) (by first | exact Or.inl rfl | exact Or.inr (Or.inl rfl) | exact Or.inr (Or.inr rfl)) (by decide) (by decide)) (@pv _ 1 _ _ (by rfl) (by first | exact Or.inl rfl | exact Or.inr (Or.inl rfl) | exact Or.inr (Or.inr rfl)) (by decide) (by decide)) (fun _ _ => rfl)) (@pa_cons _ _ _ _ _ (@pe_bltn _ _ (V.ty "str") _ _ (by rfl) T.n_str (by decide +kernel) rfl (by decide) (by decide)) pa_nil (by rfl)) (by rfl)) (by decide) (by decide) (by rfl) (by rfl)) (by intro _; rfl))) (@pss_cons _ _ _ _ _ (@ps_if _ _ _ _ _ _ _ _ (@pt_cmp _ _ _ _ _ _ (@pc_din _ _ _ _ _ (hu_of hr) (@pv _ 1 _ _ (by rfl) (by first | exact Or.inl rfl | exact Or.inr (Or.inl rfl) | exact Or.inr (Or.inr rfl)) (by decide) (by decide)) (@pv _ 2 _ _ (by rfl) (by first | exact Or.inl rfl | exact Or.inr (Or.inl rfl) | exact Or.inr (Or.inr rfl)) (by decide) (by decide))) (by rfl)) (@pss_one _ _ _ (@ps_ret _ _ _ _ (@pe_tup _ _ _ _ _ (@pa_cons _ _ _ _ _ pe_non (@pa_cons _ _ _ _ _ pe_non pa_nil (by rfl)) (by rfl))))) pss_nil) (@pss_cons _ _ _ _ _ (@ps_dput _ _ _ _ _ _ _ _ _ (hu_of hr) (@pv _ 2 _ _ (by rfl) (by first | exact Or.inl rfl | exact Or.inr (Or.inl rfl) | exact Or.inr (Or.inr rfl)) (by decide) (by decide)) (@pv _ 1 _ _ (by rfl) (by first | exact Or.inl rfl | exact Or.inr (Or.inl rfl) | exact Or.inr (Or.inr rfl)) (by decide) (by decide)) pe_bl (by rfl)) (@pss_one _ _ _ (@ps_set _ _ (1) _ _ _ _ sc_law_followed.nd rfl (Or.inl rfl) (@pe_ix _ _ _ _ _ _ _ ix_list (@pv _ 0 _ _ (by rfl) (by first | exact Or.inl rfl | exact Or.inr (Or.inl rfl) | exact Or.inr (Or.inr rfl)) (by decide) (by decide)) (@pv _ 1 _ _ (by rfl) (by first | exact Or.inl rfl | exact Or.inr (Or.inl rfl) | exact Or.inr (Or.inr rfl)) (by decide) (by decide)) (fun _ _ => rfl)) (by rfl) (by first | exact .inl rfl | exact .inr rfl)))))) (@pss_one _ _ _ (@ps_ret _ _ _ _ (@pe_tup _ _ _ _ _ (@pa_cons _ _ _ _ _ (@pe_callB _ _ _ _ _ _ _ _ _ call_lenD (by rfl) T.n_len (by decide +kernel) (@pa_cons _ _ _ _ _ (@pv _ 2 _ _ (by rfl) (by first | exact Or.inl rfl | exact Or.inr (Or.inl rfl) | exact Or.inr (Or.inr rfl)) (by decide) (by decide)) pa_nil (by rfl)) (by decide) (by decide) (by rfl) (by rfl)) (@pa_cons _ _ _ _ _ (@pe_ix _ _ _ _ _ _ _ ix_list (@pv _ 0 _ _ (by rfl) (by first | exact Or.inl rfl | exact Or.inr (Or.inl rfl) | exact Or.inr (Or.inr rfl)) (by decide) (by decide)) (@pv _ 1 _ _ (by rfl) (by first | exact Or.inl rfl | exact Or.inr (Or.inl rfl) | exact Or.inr (Or.inr rfl)) (by decide) (by decide)) (fun _ _ => rfl)) pa_nil (by rfl)) (by rfl))))))), ?_⟩
    refine fun d hd => ?_
    have hdl : d ≠ l := fun e => by rw [e, hl] at hd; cases hd
    try dsimp only
    refine ⟨fun m σ' H' => ∃ (a k : Nat) (vis : List Nat) (kvs : List (Key × V)), m = os.length - k ∧ σ' = [some (.ref l), some (.int (a : Int)), some (.ref d)] ∧ Same H H' ∧ H' d = some (.dK kvs) ∧ kvs.length = k ∧ vis.length = k ∧ vis.Nodup ∧ (∀ p ∈ vis, p < os.length ∧ ∃ k0, k0 < k ∧ Pth os i k0 p) ∧ (∀ p : Nat, (valV kvs (Sum.inl (p : Int) : Key)).isSome = true ↔ p ∈ vis) ∧ Pth os i k a ∧ a < os.length,
      ⟨_, i, 0, [], [], rfl, rfl, Same.upd_new hd, upd_same, rfl, rfl, List.nodup_nil, (fun p hp => by cases hp), (fun p => by simp [valV_nil]), .here, hi⟩, ?_⟩
    rintro _ _ H1 ⟨a, n, vis, kvs, rfl, rfl, s1, hd1, hkl, hvl, hvn, hvs, hval, hp, ha⟩
    have hl1 := s1 _ _ hl
    have hnl : n ≤ os.length := by
      have := nodup_sub vis (List.range os.length) hvn fun x hx => List.mem_range.mpr (hvs x hx).1
      rw [hvl, List.length_range] at this
      exact this
    obtain ⟨o, ho⟩ : ∃ o, os[a]? = some o := ⟨_, List.getElem?_eq_getElem ha⟩
    have hov : atI (os.map oV) (a : Int) = some (oV o) := atI_nat (by rw [List.getElem?_map, ho]; rfl)
    match o, ho, hov with
    | .inl c, ho, hov =>
      refine ⟨_, rfl, _, rfl, l, _, _, oV (.inl c), rfl, rfl, SqL.of hl1, hov, _, _, _, _, rfl, .str _, kit_str_str, _, rfl, ?_⟩
      refine ite2 (fun h => by cases h) (fun _ => ?_)
      refine ⟨_, rfl, d, kvs, rfl, hd1, _, rfl, _, rfl, l, _, _, oV (.inl c), rfl, rfl, SqL.of hl1, hov, by rw [hS]; show 2 ≤ 16777216; decide, fun t ht => ?_⟩
      refine k t _ _ _ (s1.free ht) upd_same (.inr ⟨n, c, by rw [hkl], rfl, ?_⟩) (s1.trans (Same.upd_new ht))
      have := hp.fol (.sign ho)
      rw [Nat.zero_add] at this
      exact this
    | .inr j, ho, hov =>
      have hj := inw a j ho
      refine ⟨_, rfl, _, rfl, l, _, _, oV (.inr j), rfl, rfl, SqL.of hl1, hov, _, _, _, _, rfl, .int _, kit_int_str, _, rfl, ?_⟩
      refine ite2 (fun _ => ?_) (fun h => absurd rfl h)
      refine ⟨fun σ' H' => ∃ kvs' : List (Key × V), σ' = [some (.ref l), some (.int (j : Int)), some (.ref d)] ∧ Same H H' ∧ H' d = some (.dK kvs') ∧ kvs'.length = n + 1 ∧ a ∉ vis ∧ (∀ p : Nat, (valV kvs' (Sum.inl (p : Int) : Key)).isSome = true ↔ p ∈ a :: vis), ?_, ?_⟩
      · rintro _ H2 ⟨kvs', rfl, s2, hd2, hkl', hav, hval'⟩
        have hn1 : n + 1 ≤ os.length := by
          have := nodup_sub (a :: vis) (List.range os.length) (List.nodup_cons.mpr ⟨hav, hvn⟩) fun x hx => List.mem_range.mpr (by
            rcases List.mem_cons.mp hx with q | q
            · rw [q]; exact ha
            · exact (hvs x q).1)
          rw [List.length_cons, hvl, List.length_range] at this
          exact this
        refine ⟨_, (by omega : os.length - (n + 1) < os.length - n), j, n + 1, a :: vis, kvs', rfl, rfl, s2, hd2, hkl', by rw [List.length_cons, hvl], List.nodup_cons.mpr ⟨hav, hvn⟩, fun p hp' => ?_, hval', .on hp ho, hj⟩
        rcases List.mem_cons.mp hp' with q | q
        · rw [q]
          exact ⟨ha, n, by omega, hp⟩
        · obtain ⟨x1, k0, x2, x3⟩ := hvs p q
          exact ⟨x1, k0, by omega, x3⟩
      refine ⟨_, rfl, _, rfl, d, _, rfl, DGet.k (k := Sum.inl (a : Int)) hd1, _, rfl, ?_⟩
      refine ite2 (fun h => ?_) (fun h => ?_)
      · refine ⟨by rw [hS]; show 2 ≤ 16777216; decide, fun t ht => ?_⟩
        refine k t _ _ _ (s1.free ht) upd_same (.inl ⟨rfl, rfl, ?_⟩) (s1.trans (Same.upd_new ht))
        rintro ⟨m, c, hf⟩
        obtain ⟨_, k0, x2, x3⟩ := hvs a ((hval a).mp h)
        obtain ⟨m1, e1, f1⟩ := x3.back hf
        obtain ⟨m2, e2, f2⟩ := hp.back hf
        have := (f1.uniq f2).1
        omega
      · have hav : a ∉ vis := fun z => h ((hval a).mpr z)
        have hvn0 : valV kvs (Sum.inl (a : Int) : Key) = none := by
          cases e : valV kvs (Sum.inl (a : Int) : Key) with
          | none => rfl
          | some x => exact absurd ((hval a).mp (by rw [e]; rfl)) hav
        refine ⟨_, rfl, _, rfl, d, _, rfl, DPut.k (k := Sum.inl (a : Int)) hd1 (by omega), ?_⟩
        have hl2 : (upd H1 d (.dK (putK kvs (Sum.inl (a : Int)) (.bl true)))) l = some (.lst (os.map oV)) := by rw [upd_ne (Ne.symm hdl)]; exact hl1
        refine ⟨_, rfl, _, rfl, l, _, _, oV (.inr j), rfl, rfl, SqL.of hl2, hov, ?_⟩
        refine ⟨_, rfl, fun b ob hb => ?_, upd_same, ?_, hav, fun p => ?_⟩
        · rw [upd_ne (ne_of_none hb hd)]
          exact s1 _ _ hb
        · rw [putK_new _ hvn0, List.length_append, hkl]
          rfl
        · rw [valV_put, List.mem_cons]
          by_cases e : p = a
          · subst e
            simp
          · rw [if_neg (fun z => e (by have := Sum.inl.inj z; omega)), hval]
            exact ⟨.inr, fun z => z.resolve_left e⟩
end
def pGood (n : Nat) : Prt → Prop
  | .inl c => 97 ≤ c ∧ c ≤ 122
  | .inr (o, m) => 1 ≤ m ∧ o + m ≤ n
/-- parts told so far: like signs -/
structure Tld (c : List Nat) (ps : List Prt) : Prop where
  sg : ∀ i d : Nat, (org ps)[i]? = some (Sum.inl d : Ori) → c[i]? = some d
  cp : ∀ i j : Nat, (org ps)[i]? = some (Sum.inr j : Ori) → j < c.length ∧ c[j]? = c[i]?
  good : ∀ p ∈ ps, pGood c.length p
theorem Tld.nil {c : List Nat} : Tld c [] := ⟨fun i d h => by simp [org] at h, fun i j h => by simp [org] at h, fun p h => by cases h⟩
theorem Tld.sign {c : List Nat} {ps : List Prt} (h : Tld c ps) {d : Nat} (hd : c[sumL ps]? = some d) (hl : 97 ≤ d ∧ d ≤ 122) : Tld c (ps ++ [.inl d]) := by
  have hol : (org ps).length = sumL ps := org_len _
  have at' : ∀ i o, (org (ps ++ [.inl d]))[i]? = some o → (org ps)[i]? = some o ∨ (i = sumL ps ∧ o = .inl d) := fun i o e => by
    rw [org_snoc] at e
    rcases Nat.lt_or_ge i (sumL ps) with q | q
    · rw [List.getElem?_append_left (by omega)] at e
      exact .inl e
    · rw [List.getElem?_append_right (by omega), hol] at e
      have h1 := (List.getElem?_eq_some_iff.mp e).1
      have h1 : i - sumL ps < 1 := h1
      have e0 : i - sumL ps = 0 := by omega
      rw [e0] at e
      exact .inr ⟨by omega, (Option.some.inj e).symm⟩
  refine ⟨fun i d' e => ?_, fun i j e => ?_, fun p hp => ?_⟩
  · rcases at' i _ e with q | ⟨rfl, q⟩
    · exact h.sg i d' q
    · cases q
      exact hd
  · rcases at' i _ e with q | ⟨rfl, q⟩
    · exact h.cp i j q
    · cases q
  · rcases List.mem_append.mp hp with q | q
    · exact h.good p q
    · rw [List.mem_singleton.mp q]
      exact hl
theorem Tld.copy {c : List Nat} {ps : List Prt} (h : Tld c ps) {o m : Nat} (hm : 1 ≤ m) (ho : o + m ≤ c.length) (hs : sub c o m = sub c (sumL ps) m) : Tld c (ps ++ [.inr (o, m)]) := by
  have hol : (org ps).length = sumL ps := org_len _
  have at' : ∀ i e, (org (ps ++ [.inr (o, m)]))[i]? = some e → (org ps)[i]? = some e ∨ ∃ d, d < m ∧ i = sumL ps + d ∧ e = .inr (o + d) := fun i e he => by
    rw [org_snoc] at he
    rcases Nat.lt_or_ge i (sumL ps) with q | q
    · rw [List.getElem?_append_left (by omega)] at he
      exact .inl he
    · rw [List.getElem?_append_right (by omega), hol] at he
      have h1 := (List.getElem?_eq_some_iff.mp he).1
      rw [orgP_len] at h1
      have h1 : i - sumL ps < m := h1
      refine .inr ⟨i - sumL ps, h1, by omega, ?_⟩
      have e2 : (orgP (.inr (o, m)))[i - sumL ps]? = some (Sum.inr (o + (i - sumL ps))) := by
        show ((List.range m).map fun k => (Sum.inr (o + k) : Ori))[i - sumL ps]? = _
        rw [List.getElem?_map, List.getElem?_range h1]
        rfl
      rw [e2] at he
      exact (Option.some.inj he).symm
  refine ⟨fun i d' e => ?_, fun i j e => ?_, fun p hp => ?_⟩
  · rcases at' i _ e with q | ⟨d, _, _, q⟩
    · exact h.sg i d' q
    · cases q
  · rcases at' i _ e with q | ⟨d, h1, rfl, q⟩
    · exact h.cp i j q
    · cases q
      refine ⟨by omega, ?_⟩
      have := congrArg (fun l : List Nat => l[d]?) hs
      unfold sub at this
      simp only [List.getElem?_take_of_lt h1, List.getElem?_drop] at this
      exact this
  · rcases List.mem_append.mp hp with q | q
    · exact h.good p q
    · rw [List.mem_singleton.mp q]
      exact ⟨hm, ho⟩
theorem cs_mid' {z : Str} {a b : Nat} (h : a ≤ z.length) : cs (cutS z (some (a : Int)) (some (b : Int))) = sub (cs z) a (b - a) := by
  rw [cs_cut]
  have e1 : HT.sIx z.length 0 (some (a : Int)) = a := by
    show (if (a : Int) < 0 then ((a : Int) + (z.length : Int)).toNat else min (a : Int).toNat z.length) = a
    rw [if_neg (by omega), Int.toNat_natCast, Nat.min_eq_left h]
  have e2 : HT.sIx z.length z.length (some (b : Int)) = min b z.length := by
    show (if (b : Int) < 0 then ((b : Int) + (z.length : Int)).toNat else min (b : Int).toNat z.length) = _
    rw [if_neg (by omega), Int.toNat_natCast]
  rw [e1, e2]
  unfold sub
  have hl : ((cs z).drop a).length = z.length - a := by rw [List.length_drop, cs_len]
  rcases Nat.le_total b z.length with q | q
  · rw [Nat.min_eq_left q]
  · rw [Nat.min_eq_right q, List.take_of_length_le (by omega), List.take_of_length_le (by omega)]
def spLpa : Sp := fun vs H Q _ => ∃ (r : Addr) (x : Str), vs = [.ref r, .str x] ∧ x.length ≤ 100 ∧ Lets x ∧ Rl H r ∧ ∀ (l : Addr) (H' : Hp) (us : List V) (ps : List Prt), H l = none → H' l = some (.lst us) → Prts H' us ps → Tld (cs x) ps → sumL ps = x.length → Rl H' r → Off r H H' → Q (.ref l) H'
section
variable {P : Program} {w : World} {K : PySem.W.Frag} {mg : Str → Option Value} {base : Heap}
theorem ok_lpa (F : FunN K mg "_law_parts" s_law_parts P_law_parts) (T : Bu mg) (c__law_pick : Cal P w K mg base 1 "_law_pick" P_law_pick spPick) : Cal P w K mg base 2 "_law_parts" P_law_parts spLpa := by
  refine cal_of F sc_law_parts (fun vs H Q E h => ?_) (fun f cdv A outer s H vs Q E hr h => ?_)
  · obtain ⟨r, x, rfl, _⟩ := h
    rfl
  · obtain ⟨r, x, rfl, hx, hlet, rl, k⟩ := h
    have hS : sizeLine = 16777216 := szl
    have hxl : (cs x).length = x.length := cs_len x
    refine ⟨_, (@pss_cons _ _ _ _ _ (@ps_set _ _ (2) _ _ _ _ sc_law_parts.nd rfl (Or.inl rfl) (@pe_lst _ _ _ _ pa_nil) (by rfl) (by first | exact .inl rfl | exact .inr rfl)) (@pss_cons _ _ _ _ _ (@ps_set _ _ (3) _ _ _ _ sc_law_parts.nd rfl (Or.inr rfl) pe_int (by rfl) (by first | exact .inl rfl | exact .inr rfl)) (@pss_cons _ _ _ _ _ (@ps_while _ _ _ _ _ _ PassesOwn.never (@pt_cmpR _ _ _ _ _ _ _ _ op_lt (@pv _ 3 _ _ (by rfl) (by first | exact Or.inl rfl | exact Or.inr (Or.inl rfl) | exact Or.inr (Or.inr rfl)) (by decide) (by decide)) (@pe_callB _ _ _ _ _ _ _ _ _ call_len_str (by rfl) T.n_len (by decide +kernel) (@pa_cons _ _ _ _ _ (@pv _ 1 _ _ (by rfl) (by first | exact Or.inl rfl | exact Or.inr (Or.inl rfl) | exact Or.inr (Or.inr rfl)) (by decide) (by decide)) pa_nil (by rfl)) (by decide) (by decide) (by rfl) (by rfl)) (nomark _)) (@pss_cons _ _ _ _ _ (@ps_set _ _ (4) _ _ _ _ sc_law_parts.nd rfl (Or.inr rfl) (@pe_callB _ _ _ _ _ _ _ _ _ (call_min2 rfl) (by rfl) T.n_min (by decide +kernel) (@pa_cons _ _ _ _ _ (@pe_op _ _ _ _ _ _ _ _ op_sub (@pe_callB _ _ _ _ _ _ _ _ _ call_len_str (by rfl) T.n_len (by decide +kernel) (@pa_cons _ _ _ _ _ (@pv _ 1 _ _ (by rfl) (by first | exact Or.inl rfl | exact Or.inr (Or.inl rfl) | exact Or.inr (Or.inr rfl)) (by decide) (by decide)) pa_nil (by rfl)) (by decide) (by decide) (by rfl) (by rfl)) (@pv _ 3 _ _ (by rfl) (by first | exact Or.inl rfl | exact Or.inr (Or.inl rfl) | exact Or.inr (Or.inr rfl)) (by decide) (by decide))) (@pa_cons _ _ _ _ _ (@pe_op _ _ _ _ _ _ _ _ op_add pe_int (@pe_cal _ _ _ _ _ _ _ _ _ _ c__law_pick (hr.mono (by decide)) (by rfl) (@pa_cons _ _ _ _ _ (@pv _ 0 _ _ (by rfl) (by first | exact Or.inl rfl | exact Or.inr (Or.inl rfl) | exact Or.inr (Or.inr rfl)) (by decide) (by decide)) (@pa_cons _ _ _ _ _ (@pe_ix _ _ _ _ _ _ _ ix_list (@pe_lst _ _ _ _ (@pa_cons _ _ _ _ _ pe_int (@pa_cons _ _ _ _ _ pe_int (@pa_cons _ _ _ _ _ pe_int pa_nil (by rfl)) (by rfl)) (by rfl))) (@pe_cal _ _ _ _ _ _ _ _ _ _ c__law_pick (hr.mono (by decide)) (by rfl) (@pa_cons _ _ _ _ _ (@pv _ 0 _ _ (by rfl) (by first | exact Or.inl rfl | exact Or.inr (Or.inl rfl) | exact Or.inr (Or.inr rfl)) (by decide) (by decide)) (@pa_cons _ _ _ _ _ pe_int pa_nil (by rfl)) (by rfl)) (by decide) (by rfl) (by rfl)) (fun _ _ => rfl)) pa_nil (by rfl)) (by rfl)) (by decide) (by rfl) (by rfl))) pa_nil (by rfl)) (by rfl)) (by decide) (by decide) (by rfl) (by rfl)) (by rfl) (by first | exact .inl rfl | exact .inr rfl)) (@pss_cons _ _ _ _ _ (@ps_set _ _ (5) _ _ _ _ sc_law_parts.nd rfl (Or.inr rfl) (@pe_slice _ _ _ _ _ _ _ _ _ _ sl_str (@pv _ 1 _ _ (by rfl) (by first | exact Or.inl rfl | exact Or.inr (Or.inl rfl) | exact Or.inr (Or.inr rfl)) (by decide) (by decide)) (@po_some _ _ _ (@pv _ 3 _ _ (by rfl) (by first | exact Or.inl rfl | exact Or.inr (Or.inl rfl) | exact Or.inr (Or.inr rfl)) (by decide) (by decide))) (@po_some _ _ _ (@pe_op _ _ _ _ _ _ _ _ op_add (@pv _ 3 _ _ (by rfl) (by first | exact Or.inl rfl | exact Or.inr (Or.inl rfl) | exact Or.inr (Or.inr rfl)) (by decide) (by decide)) (@pv _ 4 _ _ (by rfl) (by first | exact Or.inl rfl | exact Or.inr (Or.inl rfl) | exact Or.inr (Or.inr rfl)) (by decide) (by decide))))) (by rfl) (by first | exact .inl rfl | exact .inr rfl)) (@pss_cons _ _ _ _ _ (@ps_setLc _ (6) _ _ _ _ _ _ _ ([("start", 7)]) _ _ _ (gName 7) _ _ (by rfl) sc_law_parts.nd rfl rfl (@sw_true _ _ _ _ _ _ _ _ rfl rfl rfl (by decide +kernel)) (@pi_range1 _ _ _ _ _ _ rfl T.n_range (@pa_cons _ _ _ _ _ (@pe_callB _ _ _ _ _ _ _ _ _ call_len_str (by rfl) T.n_len (by decide +kernel) (@pa_cons _ _ _ _ _ (@pv _ 1 _ _ (by rfl) (by first | exact Or.inl rfl | exact Or.inr (Or.inl rfl) | exact Or.inr (Or.inr rfl)) (by decide) (by decide)) pa_nil (by rfl)) (by decide) (by decide) (by rfl) (by rfl)) pa_nil (by rfl)) (by rfl)) (@blkOk_by (N_law_parts) (defScope s_law_parts) _ ([("start", 7)]) (by decide +kernel)) (fun _ _ _ _ _ => pg_name (i := 7) sc_law_parts.nd rfl (Or.inl rfl)) (fun _ _ _ _ _ => (@pts_one _ _ _ (@PW.pt _ _ _ (@pw_and _ _ _ _ _ _ _ (@pt_cmpR _ _ _ _ _ _ _ _ op_ne (@pv _ 7 _ _ (by rfl) (by first | exact Or.inl rfl | exact Or.inr (Or.inl rfl) | exact Or.inr (Or.inr rfl)) (by decide) (by decide)) (@pv _ 3 _ _ (by rfl) (by first | exact Or.inl rfl | exact Or.inr (Or.inl rfl) | exact Or.inr (Or.inr rfl)) (by decide) (by decide)) (nomark _)) (@pw_and1 _ _ _ _ (@pt_cmpR _ _ _ _ _ _ _ _ op_eq (@pe_slice _ _ _ _ _ _ _ _ _ _ sl_str (@pv _ 1 _ _ (by rfl) (by first | exact Or.inl rfl | exact Or.inr (Or.inl rfl) | exact Or.inr (Or.inr rfl)) (by decide) (by decide)) (@po_some _ _ _ (@pv _ 7 _ _ (by rfl) (by first | exact Or.inl rfl | exact Or.inr (Or.inl rfl) | exact Or.inr (Or.inr rfl)) (by decide) (by decide))) (@po_some _ _ _ (@pe_op _ _ _ _ _ _ _ _ op_add (@pv _ 7 _ _ (by rfl) (by first | exact Or.inl rfl | exact Or.inr (Or.inl rfl) | exact Or.inr (Or.inr rfl)) (by decide) (by decide)) (@pv _ 4 _ _ (by rfl) (by first | exact Or.inl rfl | exact Or.inr (Or.inl rfl) | exact Or.inr (Or.inr rfl)) (by decide) (by decide))))) (@pv _ 5 _ _ (by rfl) (by first | exact Or.inl rfl | exact Or.inr (Or.inl rfl) | exact Or.inr (Or.inr rfl)) (by decide) (by decide)) (nomark _))))))) (fun _ _ _ _ _ => (@pv _ 7 _ _ (by rfl) (by first | exact Or.inl rfl | exact Or.inr (Or.inl rfl) | exact Or.inr (Or.inr rfl)) (by decide) (by decide))) (by intro _; rfl)) (@pss_cons _ _ _ _ _ (@ps_if _ _ _ _ _ _ _ _ (@PW.pt _ _ _ (@pw_or _ _ _ _ _ _ _ (@pt_cmpR _ _ _ _ _ _ _ _ (op_eqD hr.units) (@pv _ 6 _ _ (by rfl) (by first | exact Or.inl rfl | exact Or.inr (Or.inl rfl) | exact Or.inr (Or.inr rfl)) (by decide) (by decide)) (@pe_lst _ _ _ _ pa_nil) (nomark _)) (@pw_or1 _ _ _ _ (@pt_cmpR _ _ _ _ _ _ _ _ op_eq (@pe_cal _ _ _ _ _ _ _ _ _ _ c__law_pick (hr.mono (by decide)) (by rfl) (@pa_cons _ _ _ _ _ (@pv _ 0 _ _ (by rfl) (by first | exact Or.inl rfl | exact Or.inr (Or.inl rfl) | exact Or.inr (Or.inr rfl)) (by decide) (by decide)) (@pa_cons _ _ _ _ _ pe_int pa_nil (by rfl)) (by rfl)) (by decide) (by rfl) (by rfl)) pe_int (nomark _))))) (@pss_cons _ _ _ _ _ (@ps_expr _ _ _ _ (@pe_bm _ _ _ _ _ _ _ _ _ _ _ _ PySem.F.plainAttrs_list PySem.F.slot_list_append PySem.F.type_list_append mt_append (@pv _ 2 _ _ (by rfl) (by first | exact Or.inl rfl | exact Or.inr (Or.inl rfl) | exact Or.inr (Or.inr rfl)) (by decide) (by decide)) (@pa_cons _ _ _ _ _ (@pe_tup _ _ _ _ _ (@pa_cons _ _ _ _ _ pe_str (@pa_cons _ _ _ _ _ (@pe_ix _ _ _ _ _ _ _ ix_str (@pv _ 1 _ _ (by rfl) (by first | exact Or.inl rfl | exact Or.inr (Or.inl rfl) | exact Or.inr (Or.inr rfl)) (by decide) (by decide)) (@pv _ 3 _ _ (by rfl) (by first | exact Or.inl rfl | exact Or.inr (Or.inl rfl) | exact Or.inr (Or.inr rfl)) (by decide) (by decide)) (fun _ _ => rfl)) pa_nil (by rfl)) (by rfl))) pa_nil (by rfl)) (by rfl) (by rfl) (by rfl) (by rfl) (by rfl)) (by rfl)) (@pss_one _ _ _ (@ps_set _ _ (4) _ _ _ _ sc_law_parts.nd rfl (Or.inr rfl) pe_int (by rfl) (by first | exact .inl rfl | exact .inr rfl)))) (@pss_one _ _ _ (@ps_expr _ _ _ _ (@pe_bm _ _ _ _ _ _ _ _ _ _ _ _ PySem.F.plainAttrs_list PySem.F.slot_list_append PySem.F.type_list_append mt_append (@pv _ 2 _ _ (by rfl) (by first | exact Or.inl rfl | exact Or.inr (Or.inl rfl) | exact Or.inr (Or.inr rfl)) (by decide) (by decide)) (@pa_cons _ _ _ _ _ (@pe_tup _ _ _ _ _ (@pa_cons _ _ _ _ _ pe_str (@pa_cons _ _ _ _ _ (@pe_ix _ _ _ _ _ _ _ ix_list (@pv _ 6 _ _ (by rfl) (by first | exact Or.inl rfl | exact Or.inr (Or.inl rfl) | exact Or.inr (Or.inr rfl)) (by decide) (by decide)) (@pe_cal _ _ _ _ _ _ _ _ _ _ c__law_pick (hr.mono (by decide)) (by rfl) (@pa_cons _ _ _ _ _ (@pv _ 0 _ _ (by rfl) (by first | exact Or.inl rfl | exact Or.inr (Or.inl rfl) | exact Or.inr (Or.inr rfl)) (by decide) (by decide)) (@pa_cons _ _ _ _ _ (@pe_callB _ _ _ _ _ _ _ _ _ call_len_seq (by rfl) T.n_len (by decide +kernel) (@pa_cons _ _ _ _ _ (@pv _ 6 _ _ (by rfl) (by first | exact Or.inl rfl | exact Or.inr (Or.inl rfl) | exact Or.inr (Or.inr rfl)) (by decide) (by decide)) pa_nil (by rfl)) (by decide) (by decide) (by rfl) (by rfl)) pa_nil (by rfl)) (by rfl)) (by decide) (by rfl) (by rfl)) (fun _ _ => rfl)) (@pa_cons _ _ _ _ _ (@pv _ 4 _ _ (by rfl) (by first | exact Or.inl rfl | exact Or.inr (Or.inl rfl) | exact Or.inr (Or.inr rfl)) (by decide) (by decide)) pa_nil (by rfl)) (by rfl)) (by rfl))) pa_nil (by rfl)) (by rfl) (by rfl) (by rfl) (by rfl) (by rfl)) (by rfl)))) (@pss_one _ _ _ (@ps_set _ _ (3) _ _ _ _ sc_law_parts.nd rfl (Or.inr rfl) (@pe_op _ _ _ _ _ _ _ _ op_add (@pv _ 3 _ _ (by rfl) (by first | exact Or.inl rfl | exact Or.inr (Or.inl rfl) | exact Or.inr (Or.inr rfl)) (by decide) (by decide)) (@pv _ 4 _ _ (by rfl) (by first | exact Or.inl rfl | exact Or.inr (Or.inl rfl) | exact Or.inr (Or.inr rfl)) (by decide) (by decide))) (by rfl) (by first | exact .inl rfl | exact .inr rfl)))))))) (@pss_one _ _ _ (@ps_ret _ _ _ _ (@pv _ 2 _ _ (by rfl) (by first | exact Or.inl rfl | exact Or.inr (Or.inl rfl) | exact Or.inr (Or.inr rfl)) (by decide) (by decide))))))), ?_⟩
    refine ⟨by rw [hS]; show 0 ≤ 16777216; decide, fun l hl => ?_⟩
    try dsimp only
    have hrl : r ≠ l := fun e => by obtain ⟨n, _, hn⟩ := rl; rw [e, hl] at hn; cases hn
    refine ⟨fun m σ' H' => ∃ (ps : List Prt) (us : List V) (v4 v5 v6 v7 : Option V), m = x.length - sumL ps ∧ σ' = [some (.ref r), some (.str x), some (.ref l), some (.int ((sumL ps : Nat) : Int)), v4, v5, v6, v7] ∧ sumL ps ≤ x.length ∧ ps.length ≤ sumL ps ∧ H' l = some (.lst us) ∧ Prts H' us ps ∧ Tld (cs x) ps ∧ Rl H' r ∧ Off r H H', ⟨_, [], [], _, _, _, _, rfl, rfl, Nat.zero_le _, Nat.le_refl _, upd_same, .nil, Tld.nil, rl.upd_new hl, (Same.upd_new hl).off⟩, ?_⟩
    rintro _ _ H1 ⟨ps, us, v4, v5, v6, v7, rfl, rfl, hsl, hpl, hl1, pr, tld, rl1, off1⟩
    refine ⟨_, rfl, _, rfl, x, rfl, by omega, _, _, rfl, rfl, _, rfl, ?_⟩
    refine ite2 (fun h => ?_) (fun h => ?_)
    rotate_left
    · have hge : ¬ ((sumL ps : Nat) : Int) < (x.length : Int) := fun z => h (decide_eq_true z)
      exact ⟨_, rfl, k l H1 us ps hl hl1 pr tld (by omega) rl1 off1⟩
    have hlt : sumL ps < x.length := by have := of_decide_eq_true h; omega
    refine ⟨fun σ' H' => ∃ (p : Prt) (us' : List V) (v4 v5 v6 v7 : Option V), σ' = [some (.ref r), some (.str x), some (.ref l), some (.int ((sumL ps + pLen p : Nat) : Int)), v4, v5, v6, v7] ∧ 1 ≤ pLen p ∧ sumL ps + pLen p ≤ x.length ∧ H' l = some (.lst us') ∧ Prts H' us' (ps ++ [p]) ∧ Tld (cs x) (ps ++ [p]) ∧ Rl H' r ∧ Off r H H', ?_, ?_⟩
    · rintro _ H2 ⟨p, us', w4, w5, w6, w7, rfl, p1, p2, hl2, pr2, tld2, rl2, off2⟩
      have es := sumL_snoc ps p
      refine ⟨_, (by omega : x.length - sumL (ps ++ [p]) < x.length - sumL ps), ps ++ [p], us', w4, w5, w6, w7, rfl, by rw [es], by omega, by rw [List.length_append, es]; show _ + 1 ≤ _; omega, hl2, pr2, tld2, rl2, off2⟩
    refine ⟨_, rfl, x, rfl, by omega, _, rfl, _, _, rfl, rfl, ?_⟩
    refine ⟨_, rfl, by rw [hS]; show 3 ≤ 16777216; decide, fun e he => ⟨_, rfl, r, 3, rfl, by decide, by decide, rl1.upd_new he, fun d H2 d0 d1 rl2 off2 => ?_⟩⟩
    have her : e ≠ r := fun z => by obtain ⟨n, _, hn⟩ := rl1; rw [← z, he] at hn; cases hn
    have he2 := off2 _ _ upd_same her
    have off12 : Off r H1 H2 := (Same.upd_new he).off.trans off2
    obtain ⟨mm, hat, m0, m1⟩ : ∃ mm : Int, atI [V.int 1, V.int 4, V.int 9] d = some (V.int mm) ∧ 1 ≤ mm ∧ mm ≤ 9 := by
      rcases (show d = 0 ∨ d = 1 ∨ d = 2 by omega) with z | z | z <;> subst z
      · exact ⟨1, rfl, by decide, by decide⟩
      · exact ⟨4, rfl, by decide, by decide⟩
      · exact ⟨9, rfl, by decide, by decide⟩
    refine ⟨e, _, _, _, rfl, rfl, SqL.of he2, hat, r, mm, rfl, by omega, by omega, rl2, fun d2 H3 d20 d21 rl3 off3 => ⟨_, _, rfl, rfl, _, _, rfl, ?_⟩⟩
    have off13 := off12.trans off3
    have hl3 := off13 _ _ hl1 (Ne.symm hrl)
    have pr3 : Prts H3 us ps := pr.kept fun a o ea ⟨xs, ex⟩ => off13 _ _ ea (fun z => by
      obtain ⟨n, _, hn⟩ := rl1
      rw [z, hn] at ea
      cases ea
      cases ex)
    obtain ⟨M, hM, M1, M2⟩ : ∃ M : Nat, (if (1 : Int) + d2 < (x.length : Int) - ((sumL ps : Nat) : Int) then (1 : Int) + d2 else (x.length : Int) - ((sumL ps : Nat) : Int)) = (M : Int) ∧ 1 ≤ M ∧ sumL ps + M ≤ x.length := by
      split
      · exact ⟨(1 + d2).toNat, by omega, by omega, by omega⟩
      · exact ⟨x.length - sumL ps, by omega, by omega, by omega⟩
    rw [hM]
    try dsimp only
    refine ⟨_, rfl, _, rfl, _, rfl, _, rfl, _, rfl, _, _, rfl, rfl, _, rfl, x, rfl, by omega, ?_⟩
    have hpc : cs (cutS x (some ((sumL ps : Nat) : Int)) (some (((sumL ps : Nat) : Int) + (M : Int)))) = sub (cs x) (sumL ps) M := by
      rw [← Int.natCast_add, cs_mid' (by omega), Nat.add_sub_cancel_left]
    generalize cutS x (some ((sumL ps : Nat) : Int)) (some (((sumL ps : Nat) : Int) + (M : Int))) = y at hpc
    try dsimp only
    refine ⟨_, rfl, x, rfl, by omega, _, rfl, by omega, by omega, fun D hD => ?_⟩
    refine lc_range (lo := 0) (n := x.length) (fun i H' => ∃ ss : List Int, Same H3 H' ∧ H' D = some (.lst (ss.map V.int)) ∧ ss.length ≤ i ∧ ∀ z ∈ ss, ∃ s : Nat, z = (s : Int) ∧ s + M ≤ x.length ∧ sub (cs x) s M = sub (cs x) (sumL ps) M) ⟨[], Same.upd_new hD, upd_same, Nat.le_refl _, fun z hz => by cases hz⟩ ?_ ?_
    · rintro i H4 hi ⟨ss, sm, hD4, hsl4, hss⟩
      rw [Int.zero_add]
      have nxt : ∃ ss : List Int, Same H3 H4 ∧ H4 D = some (.lst (ss.map V.int)) ∧ ss.length ≤ i + 1 ∧ ∀ z ∈ ss, ∃ s : Nat, z = (s : Int) ∧ s + M ≤ x.length ∧ sub (cs x) s M = sub (cs x) (sumL ps) M := ⟨ss, sm, hD4, by omega, hss⟩
      refine ⟨rfl, ?_⟩
      refine ⟨_, rfl, _, rfl, rfl, _, rfl, ?_⟩
      refine ite2 (fun _ => ?_) (fun _ => ?_)
      · refine ⟨_, rfl, _, rfl, _, rfl, _, rfl, _, rfl, _, _, rfl, rfl, _, rfl, x, rfl, by omega, _, rfl, rfl, _, rfl, ?_⟩
        refine ite2 (fun h2 => ?_) (fun _ => nxt)
        have e := of_decide_eq_true h2
        have e := V.str.inj e
        have e := congrArg cs e
        rw [← Int.natCast_add, cs_mid' (by omega), Nat.add_sub_cancel_left, hpc] at e
        have hlen := congrArg List.length e
        rw [sub_len (c := cs x) (i := sumL ps) (L := M) (by omega)] at hlen
        unfold sub at hlen
        rw [List.length_take, List.length_drop] at hlen
        refine ⟨_, rfl, _, hD4, by rw [List.length_map]; omega, ss ++ [(i : Int)], fun b o hb => ?_, ?_, ?_, fun z hz => ?_⟩
        · rw [upd_ne (ne_of_none hb hD)]
          exact sm _ _ hb
        · rw [upd_same, List.map_append]
          rfl
        · rw [List.length_append]
          show _ + 1 ≤ _
          omega
        · rcases List.mem_append.mp hz with q | q
          · exact hss z q
          · rw [List.mem_singleton.mp q]
            exact ⟨i, rfl, by omega, e⟩
      · refine ite2 (fun h => by cases h) (fun _ => nxt)
    · rintro H4 ⟨ss, sm, hD4, hsl4, hss⟩
      have hl4 := sm _ _ hl3
      have pr4 : Prts H4 us ps := pr3.kept fun a o ea _ => sm _ _ ea
      have rl4 := rl3.same sm
      have off4 : Off r H H4 := (off1.trans off13).trans sm.off
      have hlr4 : D ≠ r := fun z => by obtain ⟨n, _, hn⟩ := rl3; rw [← z, hD] at hn; cases hn
      have hDl : D ≠ l := fun z => by rw [z, hl3] at hD; cases hD
      try dsimp only
      refine seq_after (fun σ' H' => ∃ (p : Prt) (us' : List V) (v5 v6 v7 : Option V), σ' = [some (.ref r), some (.str x), some (.ref l), some (.int ((sumL ps : Nat) : Int)), some (.int ((pLen p : Nat) : Int)), v5, v6, v7] ∧ 1 ≤ pLen p ∧ sumL ps + pLen p ≤ x.length ∧ H' l = some (.lst us') ∧ Prts H' us' (ps ++ [p]) ∧ Tld (cs x) (ps ++ [p]) ∧ Rl H' r ∧ Off r H H') ?_ (fun cont => ?_)
      · rintro _ H5 ⟨p, us', w5, w6, w7, rfl, p1, p2, hl5, pr5, tld5, rl5, off5⟩
        exact ⟨_, rfl, _, rfl, _, _, rfl, rfl, p, us', _, w5, w6, w7, by rw [Int.natCast_add]; rfl, p1, p2, hl5, pr5, tld5, rl5, off5⟩
      refine ⟨_, rfl, by rw [hS]; show 0 ≤ 16777216; decide, fun e2 he2 => ?_⟩
      have s5 := Same.upd_new (o := .lst []) he2
      have hl5 := s5 _ _ hl4
      have pr5 : Prts _ us ps := pr4.kept fun a o ea _ => s5 _ _ ea
      have rl5 := rl4.same s5
      have off5 : Off r H _ := off4.trans s5.off
      have hD5 := s5 _ _ hD4
      have he5 : (upd H4 e2 (.lst [])) e2 = some (.lst []) := upd_same
      generalize upd H4 e2 (.lst []) = H5 at s5 hl5 pr5 rl5 off5 hD5 he5
      clear rl4 pr4 hl4 off4 hD4
      refine ⟨.list (ss.map PyData.int), .list (([] : List Int).map PyData.int), .lst (SqL.of hD5) (dpAll_ints _), .lst (SqL.of he5) .nil, shapedL_ints _, shapedL_ints [], _, rfl, ?_⟩
      rw [eqv_ints]
      refine ite2 (fun _ => ?_) (fun hne => ?_)
      · skip
        refine ⟨_, rfl, .inl ⟨rfl, _, SqL.of hl5⟩, ?_⟩
        obtain ⟨c, hc⟩ : ∃ c, (cs x)[sumL ps]? = some c := ⟨_, List.getElem?_eq_getElem (by omega)⟩
        refine ⟨_, rfl, _, rfl, x, _, c, rfl, rfl, by omega, atI_nat hc, by rw [hS]; show 2 ≤ 16777216; decide, fun tp htp => ?_⟩
        have htl : l ≠ tp := fun z => by rw [← z, hl5] at htp; cases htp
        have stp := Same.upd_new (o := .tup [V.str (Str.ofString "sign"), V.str ⟨#[c]⟩]) htp
        refine ⟨l, _, _, rfl, rfl, stp _ _ hl5, by rw [pr5.len]; omega, ?_⟩
        have sap : Off l (upd H5 tp (.tup [V.str (Str.ofString "sign"), V.str ⟨#[c]⟩])) (upd (upd H5 tp (.tup [V.str (Str.ofString "sign"), V.str ⟨#[c]⟩])) l (.lst (us ++ [.ref tp]))) := Off.upd
        have htp6 := sap _ _ (upd_same (a := tp) (H := H5)) (Ne.symm htl)
        refine cont _ _ ⟨.inl c, us ++ [.ref tp], _, _, _, rfl, Nat.le_refl _, by show sumL ps + 1 ≤ x.length; omega, upd_same, ?_, tld.sign hc (hlet c (List.mem_of_getElem? hc)), (rl5.upd_new htp).upd_ne (Ne.symm hrl), fun b o hb nb => ?_⟩
        · refine Prts.snoc (pr5.kept fun a o ea ⟨xs, ex⟩ => ?_) htp6
          refine sap _ _ (stp _ _ ea) (fun z => ?_)
          rw [z, hl5, ex] at ea
          cases ea
        · rw [upd_ne (ne_of_none hb hl)]
          exact stp _ _ (off5 b o hb nb)
      have hssne : ss ≠ [] := fun z => hne (decide_eq_true z)
      refine ⟨_, rfl, r, 6, rfl, by decide, by decide, rl5, fun d3 H6 d30 d31 rl6 off6 => ⟨rfl, _, rfl, ?_⟩⟩
      have hl6 := off6 _ _ hl5 (Ne.symm hrl)
      have hD6 := off6 _ _ hD5 hlr4
      have pr6 : Prts H6 us ps := pr5.kept fun a o ea ⟨xs, ex⟩ => off6 _ _ ea (fun z => by
        obtain ⟨n, _, hn⟩ := rl5
        rw [z, hn] at ea
        cases ea
        cases ex)
      have off06 := off5.trans off6
      clear hl5 hD5 pr5 off5 rl5 he5 s5
      refine ite2 (fun _ => ?_) (fun _ => ?_)
      · skip
        refine ⟨_, rfl, .inl ⟨rfl, _, SqL.of hl6⟩, ?_⟩
        obtain ⟨c, hc⟩ : ∃ c, (cs x)[sumL ps]? = some c := ⟨_, List.getElem?_eq_getElem (by omega)⟩
        refine ⟨_, rfl, _, rfl, x, _, c, rfl, rfl, by omega, atI_nat hc, by rw [hS]; show 2 ≤ 16777216; decide, fun tp htp => ?_⟩
        have htl : l ≠ tp := fun z => by rw [← z, hl6] at htp; cases htp
        have stp := Same.upd_new (o := .tup [V.str (Str.ofString "sign"), V.str ⟨#[c]⟩]) htp
        refine ⟨l, _, _, rfl, rfl, stp _ _ hl6, by rw [pr6.len]; omega, ?_⟩
        have sap : Off l (upd H6 tp (.tup [V.str (Str.ofString "sign"), V.str ⟨#[c]⟩])) (upd (upd H6 tp (.tup [V.str (Str.ofString "sign"), V.str ⟨#[c]⟩])) l (.lst (us ++ [.ref tp]))) := Off.upd
        have htp6 := sap _ _ (upd_same (a := tp) (H := H6)) (Ne.symm htl)
        refine cont _ _ ⟨.inl c, us ++ [.ref tp], _, _, _, rfl, Nat.le_refl _, by show sumL ps + 1 ≤ x.length; omega, upd_same, ?_, tld.sign hc (hlet c (List.mem_of_getElem? hc)), (rl6.upd_new htp).upd_ne (Ne.symm hrl), fun b o hb nb => ?_⟩
        · refine Prts.snoc (pr6.kept fun a o ea ⟨xs, ex⟩ => ?_) htp6
          refine sap _ _ (stp _ _ ea) (fun z => ?_)
          rw [z, hl6, ex] at ea
          cases ea
        · rw [upd_ne (ne_of_none hb hl)]
          exact stp _ _ (off06 b o hb nb)
      have hsl0 : 0 < ss.length := List.length_pos_iff.mpr hssne
      refine ⟨_, rfl, .inl ⟨rfl, _, SqL.of hl6⟩, _, rfl, _, rfl, _, rfl, D, _, rfl, .inl (SqL.of hD6), r, _, rfl, by rw [List.length_map]; omega, by rw [List.length_map]; omega, rl6, fun d4 H7 d40 d41 rl7 off7 => ?_⟩
      rw [List.length_map] at d41
      have hl7 := off7 _ _ hl6 (Ne.symm hrl)
      have hD7 := off7 _ _ hD6 hlr4
      have pr7 : Prts H7 us ps := pr6.kept fun a o ea ⟨xs, ex⟩ => off7 _ _ ea (fun z => by
        obtain ⟨n, _, hn⟩ := rl6
        rw [z, hn] at ea
        cases ea
        cases ex)
      have off07 := off06.trans off7
      obtain ⟨n4, rfl⟩ : ∃ n4 : Nat, d4 = (n4 : Int) := ⟨d4.toNat, by omega⟩
      obtain ⟨z4, hz4⟩ : ∃ z4, ss[n4]? = some z4 := ⟨_, List.getElem?_eq_getElem (by omega)⟩
      obtain ⟨s4, rfl, g1, g2⟩ := hss z4 (List.mem_of_getElem? hz4)
      refine ⟨D, _, _, V.int (s4 : Int), rfl, rfl, SqL.of hD7, atI_nat (by rw [List.getElem?_map, hz4]; rfl), _, rfl, by rw [hS]; show 3 ≤ 16777216; decide, fun tp htp => ?_⟩
      have htl : l ≠ tp := fun z => by rw [← z, hl7] at htp; cases htp
      have stp := Same.upd_new (o := .tup [V.str (Str.ofString "copy"), V.int (s4 : Int), V.int (M : Int)]) htp
      refine ⟨l, _, _, rfl, rfl, stp _ _ hl7, by rw [pr7.len]; omega, ?_⟩
      have sap : Off l (upd H7 tp (.tup [V.str (Str.ofString "copy"), V.int (s4 : Int), V.int (M : Int)])) (upd (upd H7 tp (.tup [V.str (Str.ofString "copy"), V.int (s4 : Int), V.int (M : Int)])) l (.lst (us ++ [.ref tp]))) := Off.upd
      have htp6 := sap _ _ (upd_same (a := tp) (H := H7)) (Ne.symm htl)
      refine cont _ _ ⟨.inr (s4, M), us ++ [.ref tp], _, _, _, rfl, M1, M2, upd_same, ?_, tld.copy M1 (by omega) g2, (rl7.upd_new htp).upd_ne (Ne.symm hrl), fun b o hb nb => ?_⟩
      · refine Prts.snoc (pr7.kept fun a o ea ⟨xs, ex⟩ => ?_) htp6
        refine sap _ _ (stp _ _ ea) (fun z => ?_)
        rw [z, hl7, ex] at ea
        cases ea
      · rw [upd_ne (ne_of_none hb hl)]
        exact stp _ _ (off07 b o hb nb)
end
/-- a part told as signs -/
def asS (c : List Nat) (ps : List Prt) (q : Nat) (p : Prt) : List Prt := ps.take q ++ (sub c ((ps.take q).map pLen).sum (pLen p)).map (fun d => (Sum.inl d : Prt)) ++ ps.drop (q + 1)
theorem org_signs : ∀ S : List Nat, org (S.map fun d => (Sum.inl d : Prt)) = S.map fun d => (Sum.inl d : Ori)
  | [] => rfl
  | a :: r => by
    have := org_signs r
    unfold org at this ⊢
    rw [List.map_cons, List.flatMap_cons, this]
    rfl
theorem org_app (a b : List Prt) : org (a ++ b) = org a ++ org b := by unfold org; rw [List.flatMap_append]
theorem split_at {ps : List Prt} {q : Nat} {p : Prt} (h : ps[q]? = some p) : ps = ps.take q ++ ([p] ++ ps.drop (q + 1)) := by
  obtain ⟨hl, he⟩ := List.getElem?_eq_some_iff.mp h
  have := List.drop_eq_getElem_cons hl
  rw [he] at this
  show ps = ps.take q ++ p :: ps.drop (q + 1)
  rw [← this, List.take_append_drop]
theorem asS_org {c : List Nat} {ps : List Prt} {q : Nat} {p : Prt} (h : ps[q]? = some p) (hs : sumL ps = c.length) (i : Nat) :
    ((i < ((ps.take q).map pLen).sum ∨ ((ps.take q).map pLen).sum + pLen p ≤ i) ∧ (org (asS c ps q p))[i]? = (org ps)[i]?) ∨ (((ps.take q).map pLen).sum ≤ i ∧ i < ((ps.take q).map pLen).sum + pLen p ∧ ∃ d, c[i]? = some d ∧ (org (asS c ps q p))[i]? = some (Sum.inl d)) := by
  have hfit := take_len h
  rw [hs] at hfit
  have hl1 : (org (ps.take q)).length = ((ps.take q).map pLen).sum := org_len _
  have hsl : (sub c ((ps.take q).map pLen).sum (pLen p)).length = pLen p := sub_len hfit
  have e1 : org (asS c ps q p) = org (ps.take q) ++ ((sub c ((ps.take q).map pLen).sum (pLen p)).map (fun d => (Sum.inl d : Ori)) ++ org (ps.drop (q + 1))) := by
    unfold asS
    rw [List.append_assoc, org_app, org_app, org_signs]
  have e2 : org ps = org (ps.take q) ++ (orgP p ++ org (ps.drop (q + 1))) := by
    conv => lhs; rw [split_at h]
    rw [org_app, org_app]
    unfold org
    simp
  rw [e1]
  rcases Nat.lt_or_ge i ((ps.take q).map pLen).sum with z | z
  · refine .inl ⟨.inl z, ?_⟩
    rw [List.getElem?_append_left (by omega), e2, List.getElem?_append_left (by omega)]
  · rcases Nat.lt_or_ge i (((ps.take q).map pLen).sum + pLen p) with z2 | z2
    · obtain ⟨d, hd⟩ : ∃ d, c[i]? = some d := ⟨_, List.getElem?_eq_getElem (by omega)⟩
      refine .inr ⟨z, z2, d, hd, ?_⟩
      rw [List.getElem?_append_right (by omega), hl1, List.getElem?_append_left (by rw [List.length_map, hsl]; omega), List.getElem?_map]
      unfold sub
      rw [List.getElem?_take_of_lt (by omega), List.getElem?_drop, show ((ps.take q).map pLen).sum + (i - ((ps.take q).map pLen).sum) = i by omega, hd]
      rfl
    · refine .inl ⟨.inr z2, ?_⟩
      rw [List.getElem?_append_right (by omega), hl1, List.getElem?_append_right (by rw [List.length_map, hsl]; omega), List.length_map, hsl, e2, List.getElem?_append_right (by omega), hl1, List.getElem?_append_right (by rw [orgP_len]; omega), orgP_len]
theorem asS_sum {c : List Nat} {ps : List Prt} {q : Nat} {p : Prt} (h : ps[q]? = some p) (hs : sumL ps = c.length) : sumL (asS c ps q p) = sumL ps := by
  have hfit := take_len h
  rw [hs] at hfit
  have hsl : (sub c ((ps.take q).map pLen).sum (pLen p)).length = pLen p := sub_len hfit
  have e : ∀ S : List Nat, sumL (S.map fun d => (Sum.inl d : Prt)) = S.length := fun S => by
    induction S with
    | nil => rfl
    | cons a r ih =>
      unfold sumL at ih ⊢
      rw [List.map_cons, List.map_cons, List.sum_cons, ih, List.length_cons]
      show 1 + _ = _
      omega
  conv => rhs; rw [split_at h]
  unfold asS
  rw [sumL_app, sumL_app, sumL_app, sumL_app, e, hsl]
  have : sumL [p] = pLen p := by unfold sumL; simp
  omega
theorem asS_tld {c : List Nat} {ps : List Prt} {q : Nat} {p : Prt} (t : Tld c ps) (h : ps[q]? = some p) (hs : sumL ps = c.length) (hc : ∀ d ∈ c, 97 ≤ d ∧ d ≤ 122) : Tld c (asS c ps q p) := by
  refine ⟨fun i d e => ?_, fun i j e => ?_, fun p' hp' => ?_⟩
  · rcases asS_org h hs i with ⟨_, z⟩ | ⟨_, _, d', z1, z2⟩
    · exact t.sg i d (z.symm.trans e)
    · rw [z2] at e
      cases e
      exact z1
  · rcases asS_org h hs i with ⟨_, z⟩ | ⟨_, _, d', z1, z2⟩
    · exact t.cp i j (z.symm.trans e)
    · rw [z2] at e
      cases e
  · unfold asS at hp'
    rcases List.mem_append.mp hp' with z | z
    · rcases List.mem_append.mp z with z | z
      · exact t.good p' (List.mem_of_mem_take z)
      · obtain ⟨d, hd, rfl⟩ := List.mem_map.mp z
        exact hc d (List.mem_of_mem_drop (List.mem_of_mem_take hd))
    · exact t.good p' (List.mem_of_mem_drop z)
theorem asS_fol {c : List Nat} {ps : List Prt} {q : Nat} {p : Prt} (h : ps[q]? = some p) (hs : sumL ps = c.length) : ∀ i : Nat, (org (asS c ps q p))[i]? = (org ps)[i]? ∨ ∃ d : Nat, (org (asS c ps q p))[i]? = some (Sum.inl d) := fun i => by
  rcases asS_org h hs i with ⟨_, z⟩ | ⟨_, _, d', z1, z2⟩
  · exact .inl z
  · exact .inr ⟨d', z2⟩
theorem off_free {r t : Addr} {H H1 : Hp} (o : Off r H H1) (rl : Rl H r) (rl1 : Rl H1 r) (h : H1 t = none) : H t = none := by
  cases e : H t with
  | none => rfl
  | some ob =>
    by_cases z : t = r
    · subst z
      obtain ⟨n, _, hn⟩ := rl1
      rw [hn] at h
      cases h
    · rw [o t ob e z] at h
      cases h
theorem prts_app {H : Hp} {us ws : List V} {ps qs : List Prt} (h : Prts H us ps) (h2 : Prts H ws qs) : Prts H (us ++ ws) (ps ++ qs) := by
  induction h with
  | nil => exact h2
  | cons a _ ih => exact .cons a ih
theorem prts_drop {H : Hp} {us : List V} {ps : List Prt} (h : Prts H us ps) : ∀ i, Prts H (us.drop i) (ps.drop i) := by
  induction h with
  | nil => intro i; simp; exact .nil
  | cons a b ih =>
    intro i
    cases i with
    | zero => exact .cons a b
    | succ i => exact ih i
def spLform : Sp := fun vs H Q _ => ∃ (r : Addr) (x : Str), vs = [.ref r, .str x] ∧ x.length ≤ 100 ∧ Lets x ∧ Rl H r ∧ ∀ (t : Addr) (H' : Hp) (us : List V) (ps : List Prt), H t = none → H' t = some (.tup us) → Prts H' us ps → Tld (cs x) ps → sumL ps = x.length → (∀ i, i < x.length → ∃ m c, Fol (org ps) i m c) → Rl H' r → Off r H H' → Q (.ref t) H'
section
variable {P : Program} {w : World} {K : PySem.W.Frag} {mg : Str → Option Value} {base : Heap}
theorem ok_lform (F : FunN K mg "_law_form" s_law_form P_law_form) (T : Bu mg) (c__law_parts : Cal P w K mg base 2 "_law_parts" P_law_parts spLpa) (c__law_from : Cal P w K mg base 2 "_law_from" P_law_from spFromL) (c__law_followed : Cal P w K mg base 1 "_law_followed" P_law_followed spLfo) (c__law_length : Cal P w K mg base 1 "_law_length" P_law_length spLen) : Cal P w K mg base 3 "_law_form" P_law_form spLform := by
  refine cal_of F sc_law_form (fun vs H Q E h => ?_) (fun f cdv A outer s H vs Q E hr h => ?_)
  · obtain ⟨r, x, rfl, _⟩ := h
    rfl
  · obtain ⟨r, x, rfl, hx, hlet, rl, k⟩ := h
    have hS : sizeLine = 16777216 := szl
    have hxl : (cs x).length = x.length := cs_len x
    refine ⟨_, (@pss_cons _ _ _ _ _ (@ps_set _ _ (2) _ _ _ _ sc_law_form.nd rfl (Or.inl rfl) (@pe_cal _ _ _ _ _ _ _ _ _ _ c__law_parts (hr.mono (by decide)) (by rfl) (@pa_cons _ _ _ _ _ (@pv _ 0 _ _ (by rfl) (by first | exact Or.inl rfl | exact Or.inr (Or.inl rfl) | exact Or.inr (Or.inr rfl)) (by decide) (by decide)) (@pa_cons _ _ _ _ _ (@pv _ 1 _ _ (by rfl) (by first | exact Or.inl rfl | exact Or.inr (Or.inl rfl) | exact Or.inr (Or.inr rfl)) (by decide) (by decide)) pa_nil (by rfl)) (by rfl)) (by decide) (by rfl) (by rfl)) (by rfl) (by first | exact .inl rfl | exact .inr rfl)) (@pss_cons _ _ _ _ _ (@ps_set _ _ (3) _ _ _ _ sc_law_form.nd rfl (Or.inl rfl) pe_int (by rfl) (by first | exact .inl rfl | exact .inr rfl)) (@pss_cons _ _ _ _ _ (@ps_while _ _ _ _ _ _ PassesOwn.never (@pt_cmpR _ _ _ _ _ _ _ _ op_lt (@pv _ 3 _ _ (by rfl) (by first | exact Or.inl rfl | exact Or.inr (Or.inl rfl) | exact Or.inr (Or.inr rfl)) (by decide) (by decide)) (@pe_callB _ _ _ _ _ _ _ _ _ call_len_str (by rfl) T.n_len (by decide +kernel) (@pa_cons _ _ _ _ _ (@pv _ 1 _ _ (by rfl) (by first | exact Or.inl rfl | exact Or.inr (Or.inl rfl) | exact Or.inr (Or.inr rfl)) (by decide) (by decide)) pa_nil (by rfl)) (by decide) (by decide) (by rfl) (by rfl)) (nomark _)) (@pss_cons _ _ _ _ _ (@ps_set _ _ (4) _ _ _ _ sc_law_form.nd rfl (Or.inl rfl) (@pe_cal _ _ _ _ _ _ _ _ _ _ c__law_from (hr.mono (by decide)) (by rfl) (@pa_cons _ _ _ _ _ (@pv _ 2 _ _ (by rfl) (by first | exact Or.inl rfl | exact Or.inr (Or.inl rfl) | exact Or.inr (Or.inr rfl)) (by decide) (by decide)) pa_nil (by rfl)) (by decide) (by rfl) (by rfl)) (by rfl) (by first | exact .inl rfl | exact .inr rfl)) (@pss_cons _ _ _ _ _ (@ps_if _ _ _ _ _ _ _ _ (@pt_cmpR _ _ _ _ _ _ _ _ op_isN (@pe_ix _ _ _ _ _ _ _ ix_tup (@pe_cal _ _ _ _ _ _ _ _ _ _ c__law_followed (hr.mono (by decide)) (by rfl) (@pa_cons _ _ _ _ _ (@pv _ 4 _ _ (by rfl) (by first | exact Or.inl rfl | exact Or.inr (Or.inl rfl) | exact Or.inr (Or.inr rfl)) (by decide) (by decide)) (@pa_cons _ _ _ _ _ (@pv _ 3 _ _ (by rfl) (by first | exact Or.inl rfl | exact Or.inr (Or.inl rfl) | exact Or.inr (Or.inr rfl)) (by decide) (by decide)) pa_nil (by rfl)) (by rfl)) (by decide) (by rfl) (by rfl)) pe_int (fun _ _ => rfl)) pe_non (nomark _)) (@pss_cons _ _ _ _ _ (@ps_set _ _ (5) _ _ _ _ sc_law_form.nd rfl (Or.inl rfl) pe_int (by rfl) (by first | exact .inl rfl | exact .inr rfl)) (@pss_cons _ _ _ _ _ (@ps_set _ _ (6) _ _ _ _ sc_law_form.nd rfl (Or.inl rfl) pe_int (by rfl) (by first | exact .inl rfl | exact .inr rfl)) (@pss_cons _ _ _ _ _ (@ps_while _ _ _ _ _ _ PassesOwn.never (@pt_cmpR _ _ _ _ _ _ _ _ op_le (@pe_op _ _ _ _ _ _ _ _ op_add (@pv _ 5 _ _ (by rfl) (by first | exact Or.inl rfl | exact Or.inr (Or.inl rfl) | exact Or.inr (Or.inr rfl)) (by decide) (by decide)) (@pe_cal _ _ _ _ _ _ _ _ _ _ c__law_length (hr.mono (by decide)) (by rfl) (@pa_cons _ _ _ _ _ (@pe_ix _ _ _ _ _ _ _ ix_list (@pv _ 2 _ _ (by rfl) (by first | exact Or.inl rfl | exact Or.inr (Or.inl rfl) | exact Or.inr (Or.inr rfl)) (by decide) (by decide)) (@pv _ 6 _ _ (by rfl) (by first | exact Or.inl rfl | exact Or.inr (Or.inl rfl) | exact Or.inr (Or.inr rfl)) (by decide) (by decide)) (fun _ _ => rfl)) pa_nil (by rfl)) (by decide) (by rfl) (by rfl))) (@pv _ 3 _ _ (by rfl) (by first | exact Or.inl rfl | exact Or.inr (Or.inl rfl) | exact Or.inr (Or.inr rfl)) (by decide) (by decide)) (nomark _)) (@pss_cons _ _ _ _ _ (@ps_set _ _ (5) _ _ _ _ sc_law_form.nd rfl (Or.inl rfl) (@pe_op _ _ _ _ _ _ _ _ op_add (@pv _ 5 _ _ (by rfl) (by first | exact Or.inl rfl | exact Or.inr (Or.inl rfl) | exact Or.inr (Or.inr rfl)) (by decide) (by decide)) (@pe_cal _ _ _ _ _ _ _ _ _ _ c__law_length (hr.mono (by decide)) (by rfl) (@pa_cons _ _ _ _ _ (@pe_ix _ _ _ _ _ _ _ ix_list (@pv _ 2 _ _ (by rfl) (by first | exact Or.inl rfl | exact Or.inr (Or.inl rfl) | exact Or.inr (Or.inr rfl)) (by decide) (by decide)) (@pv _ 6 _ _ (by rfl) (by first | exact Or.inl rfl | exact Or.inr (Or.inl rfl) | exact Or.inr (Or.inr rfl)) (by decide) (by decide)) (fun _ _ => rfl)) pa_nil (by rfl)) (by decide) (by rfl) (by rfl))) (by rfl) (by first | exact .inl rfl | exact .inr rfl)) (@pss_one _ _ _ (@ps_set _ _ (6) _ _ _ _ sc_law_form.nd rfl (Or.inl rfl) (@pe_op _ _ _ _ _ _ _ _ op_add (@pv _ 6 _ _ (by rfl) (by first | exact Or.inl rfl | exact Or.inr (Or.inl rfl) | exact Or.inr (Or.inr rfl)) (by decide) (by decide)) pe_int) (by rfl) (by first | exact .inl rfl | exact .inr rfl))))) (@pss_cons _ _ _ _ _ (@ps_set _ _ (7) _ _ _ _ sc_law_form.nd rfl (Or.inl rfl) (@pe_cal _ _ _ _ _ _ _ _ _ _ c__law_length (hr.mono (by decide)) (by rfl) (@pa_cons _ _ _ _ _ (@pe_ix _ _ _ _ _ _ _ ix_list (@pv _ 2 _ _ (by rfl) (by first | exact Or.inl rfl | exact Or.inr (Or.inl rfl) | exact Or.inr (Or.inr rfl)) (by decide) (by decide)) (@pv _ 6 _ _ (by rfl) (by first | exact Or.inl rfl | exact Or.inr (Or.inl rfl) | exact Or.inr (Or.inr rfl)) (by decide) (by decide)) (fun _ _ => rfl)) pa_nil (by rfl)) (by decide) (by rfl) (by rfl)) (by rfl) (by first | exact .inl rfl | exact .inr rfl)) (@pss_one _ _ _ (@ps_asg _ _ _ _ _ _ (@pe_lc _ _ _ _ _ _ ([("sign", 8)]) _ _ (gName 8) _ _ (by rfl) sc_law_form.nd (@pi_str _ _ _ _ (@pe_slice _ _ _ _ _ _ _ _ _ _ sl_str (@pv _ 1 _ _ (by rfl) (by first | exact Or.inl rfl | exact Or.inr (Or.inl rfl) | exact Or.inr (Or.inr rfl)) (by decide) (by decide)) (@po_some _ _ _ (@pv _ 5 _ _ (by rfl) (by first | exact Or.inl rfl | exact Or.inr (Or.inl rfl) | exact Or.inr (Or.inr rfl)) (by decide) (by decide))) (@po_some _ _ _ (@pe_op _ _ _ _ _ _ _ _ op_add (@pv _ 5 _ _ (by rfl) (by first | exact Or.inl rfl | exact Or.inr (Or.inl rfl) | exact Or.inr (Or.inr rfl)) (by decide) (by decide)) (@pv _ 7 _ _ (by rfl) (by first | exact Or.inl rfl | exact Or.inr (Or.inl rfl) | exact Or.inr (Or.inr rfl)) (by decide) (by decide)))))) (@blkOk_by (N_law_form) (defScope s_law_form) _ ([("sign", 8)]) (by decide +kernel)) (fun _ _ _ _ _ => pg_name (i := 8) sc_law_form.nd rfl (Or.inl rfl)) (fun _ _ _ _ _ => pts_nil) (fun _ _ _ _ _ => (@pe_tup _ _ _ _ _ (@pa_cons _ _ _ _ _ pe_str (@pa_cons _ _ _ _ _ (@pv _ 8 _ _ (by rfl) (by first | exact Or.inl rfl | exact Or.inr (Or.inl rfl) | exact Or.inr (Or.inr rfl)) (by decide) (by decide)) pa_nil (by rfl)) (by rfl)))) (by intro _; rfl)) (@pg_slice _ _ _ _ _ _ _ _ _ (@pv _ 2 _ _ (by rfl) (by first | exact Or.inl rfl | exact Or.inr (Or.inl rfl) | exact Or.inr (Or.inr rfl)) (by decide) (by decide)) (@po_some _ _ _ (@pv _ 6 _ _ (by rfl) (by first | exact Or.inl rfl | exact Or.inr (Or.inl rfl) | exact Or.inr (Or.inr rfl)) (by decide) (by decide))) (@po_some _ _ _ (@pe_op _ _ _ _ _ _ _ _ op_add (@pv _ 6 _ _ (by rfl) (by first | exact Or.inl rfl | exact Or.inr (Or.inl rfl) | exact Or.inr (Or.inr rfl)) (by decide) (by decide)) pe_int)) (by intro _; rfl)) (by rfl) (by rfl) (by rfl))))))) pss_nil) (@pss_one _ _ _ (@ps_set _ _ (3) _ _ _ _ sc_law_form.nd rfl (Or.inl rfl) (@pe_op _ _ _ _ _ _ _ _ op_add (@pv _ 3 _ _ (by rfl) (by first | exact Or.inl rfl | exact Or.inr (Or.inl rfl) | exact Or.inr (Or.inr rfl)) (by decide) (by decide)) pe_int) (by rfl) (by first | exact .inl rfl | exact .inr rfl)))))) (@pss_one _ _ _ (@ps_ret _ _ _ _ (@pe_callTy _ _ _ _ _ _ _ _ _ call_tuple_of (by rfl) T.n_tuple (by decide +kernel) (@pa_cons _ _ _ _ _ (@pv _ 2 _ _ (by rfl) (by first | exact Or.inl rfl | exact Or.inr (Or.inl rfl) | exact Or.inr (Or.inr rfl)) (by decide) (by decide)) pa_nil (by rfl)) (by decide) (by decide) (by rfl) (by rfl))))))), ?_⟩
    refine ⟨_, rfl, _, rfl, r, x, rfl, hx, hlet, rl, fun l H1 us ps hl hl1 pr tld hs rl1 off1 => ?_⟩
    try dsimp only
    have hrl : r ≠ l := fun e => by obtain ⟨n, _, hn⟩ := rl; rw [e, hl] at hn; cases hn
    refine ⟨fun m σ' H' => ∃ (pl : Nat) (ps : List Prt) (us : List V) (v4 v5 v6 v7 v8 : Option V), m = x.length - pl ∧ σ' = [some (.ref r), some (.str x), some (.ref l), some (.int (pl : Int)), v4, v5, v6, v7, v8] ∧ pl ≤ x.length ∧ H' l = some (.lst us) ∧ Prts H' us ps ∧ Tld (cs x) ps ∧ sumL ps = x.length ∧ (∀ i, i < pl → ∃ m c, Fol (org ps) i m c) ∧ Rl H' r ∧ Off r H H', ⟨_, 0, ps, us, _, _, _, _, _, rfl, rfl, Nat.zero_le _, hl1, pr, tld, hs, (fun i hi => by omega), rl1, off1⟩, ?_⟩
    clear hl1 pr tld hs rl1 off1 us ps H1
    rintro _ _ H1 ⟨pl, ps, us, v4, v5, v6, v7, v8, rfl, rfl, hpl, hl1, pr, tld, hs, hfo, rl1, off1⟩
    refine ⟨_, rfl, _, rfl, x, rfl, by omega, _, _, rfl, rfl, _, rfl, ?_⟩
    refine ite2 (fun h => ?_) (fun h => ?_)
    rotate_left
    · have hge : ¬ (pl : Int) < (x.length : Int) := fun z => h (decide_eq_true z)
      refine ⟨_, rfl, l, us, rfl, .inl ⟨SqL.of hl1, fun t ht => ?_⟩⟩
      have st := Same.upd_new (o := .tup us) ht
      refine k t _ us ps (off_free off1 rl rl1 ht) upd_same (pr.kept fun a o e _ => st _ _ e) tld hs (fun i hi => hfo i (by omega)) (rl1.same st) (off1.trans st.off)
    have hlt : pl < x.length := by have := of_decide_eq_true h; omega
    have hpos : ∀ p ∈ ps, 1 ≤ pLen p := fun p hp => by
      match p, tld.good p hp with
      | .inl c, _ => exact Nat.le_refl _
      | .inr (o, m), g => exact g.1
    have few : Few ps := fun o m hm => by
      obtain ⟨g1, g2⟩ := tld.good _ hm
      omega
    have hinw : Inw (org ps) := fun i j e => by
      have := (tld.cp i j e).1
      rw [org_len, hs]
      omega
    have hol : (org ps).length = x.length := by rw [org_len, hs]
    refine ⟨fun σ' H' => ∃ (ps : List Prt) (us : List V) (v4 v5 v6 v7 v8 : Option V), σ' = [some (.ref r), some (.str x), some (.ref l), some (.int ((pl + 1 : Nat) : Int)), v4, v5, v6, v7, v8] ∧ H' l = some (.lst us) ∧ Prts H' us ps ∧ Tld (cs x) ps ∧ sumL ps = x.length ∧ (∀ i, i < pl + 1 → ∃ m c, Fol (org ps) i m c) ∧ Rl H' r ∧ Off r H H', ?_, ?_⟩
    · rintro _ H2 ⟨ps, us, w4, w5, w6, w7, w8, rfl, hl2, pr2, tld2, hs2, hf2, rl2, off2⟩
      exact ⟨_, (by omega : x.length - (pl + 1) < x.length - pl), pl + 1, ps, us, _, _, _, _, _, rfl, rfl, by omega, hl2, pr2, tld2, hs2, hf2, rl2, off2⟩
    refine ⟨_, rfl, l, us, ps, rfl, hl1, pr, few, by omega, fun fo H2 hfo' hfo2 s2 => ?_⟩
    have hl2 := s2 _ _ hl1
    have pr2 : Prts H2 us ps := pr.kept fun a o e _ => s2 _ _ e
    have rl2 := rl1.same s2
    have off2 : Off r H H2 := off1.trans s2.off
    try dsimp only
    refine seq_after (fun σ' H' => ∃ (ps : List Prt) (us : List V) (v4 v5 v6 v7 v8 : Option V), σ' = [some (.ref r), some (.str x), some (.ref l), some (.int (pl : Int)), v4, v5, v6, v7, v8] ∧ H' l = some (.lst us) ∧ Prts H' us ps ∧ Tld (cs x) ps ∧ sumL ps = x.length ∧ (∀ i, i < pl + 1 → ∃ m c, Fol (org ps) i m c) ∧ Rl H' r ∧ Off r H H') ?_ (fun cont => ?_)
    · rintro _ H3 ⟨ps, us, w4, w5, w6, w7, w8, rfl, hl3, pr3, tld3, hs3, hf3, rl3, off3⟩
      exact ⟨_, rfl, _, _, rfl, rfl, ps, us, _, _, _, _, _, rfl, hl3, pr3, tld3, hs3, hf3, rl3, off3⟩
    refine ⟨_, rfl, _, rfl, fo, org ps, pl, rfl, hfo2, hinw, by omega, by omega, fun t H3 fx fy ht ht3 hres s3 => ?_⟩
    have hl3 := s3 _ _ hl2
    have pr3 : Prts H3 us ps := pr2.kept fun a o e _ => s3 _ _ e
    have rl3 := rl2.same s3
    have off3 : Off r H H3 := off2.trans s3.off
    refine ⟨t, _, _, _, rfl, rfl, SqT.of ht3, rfl, rfl, _, rfl, ?_⟩
    refine ite2 (fun hx0 => ?_) (fun hx0 => ?_)
    rotate_left
    · refine cont _ _ ⟨ps, us, _, _, _, _, _, rfl, hl3, pr3, tld, hs, fun i hi => ?_, rl3, off3⟩
      rcases Nat.lt_or_ge i pl with q | q
      · exact hfo i q
      · have : i = pl := by omega
        subst this
        rcases hres with ⟨z, _⟩ | ⟨m, c, _, _, hf⟩
        · exact absurd (decide_eq_true z) hx0
        · exact ⟨m, c, hf⟩
    have hul := pr.len
    refine ⟨fun m σ' H' => ∃ (q st : Nat), m = ps.length - q ∧ σ' = [some (.ref r), some (.str x), some (.ref l), some (.int (pl : Int)), some (.ref fo), some (.int (st : Int)), some (.int (q : Int)), v7, v8] ∧ H' = H3 ∧ st = ((ps.take q).map pLen).sum ∧ st ≤ pl ∧ q ≤ ps.length, ⟨_, 0, 0, rfl, rfl, rfl, rfl, Nat.zero_le _, Nat.zero_le _⟩, ?_⟩
    rintro _ _ H4 ⟨q, st, rfl, rfl, hH, hst, hstp, hq⟩
    subst hH
    obtain ⟨p, hp⟩ : ∃ p, ps[q]? = some p := by
      rcases Nat.lt_or_ge q ps.length with z | z
      · exact ⟨_, List.getElem?_eq_getElem z⟩
      · rw [List.take_of_length_le z] at hst
        have : sumL ps = (ps.map pLen).sum := rfl
        omega
    have hql : q < ps.length := (List.getElem?_eq_some_iff.mp hp).1
    obtain ⟨pa, hpa, hpa4⟩ : ∃ pa, us[q]? = some (.ref pa) ∧ H4 pa = some (.tup (pV p)) := by
      obtain ⟨v, hv⟩ : ∃ v, us[q]? = some v := ⟨_, List.getElem?_eq_getElem (by omega)⟩
      obtain ⟨pa, p', rfl, hp', hpa⟩ := Prts.at' pr3 hv
      rw [hp] at hp'
      cases hp'
      exact ⟨pa, hv, hpa⟩
    have hix : atI us (q : Int) = some (.ref pa) := atI_nat hpa
    refine ⟨_, rfl, _, rfl, _, rfl, l, _, _, _, rfl, rfl, SqL.of hl3, hix, pa, p, rfl, hpa4, _, _, rfl, rfl, _, rfl, _, _, rfl, rfl, _, rfl, ?_⟩
    refine ite2 (fun hle => ?_) (fun hle => ?_)
    · have hle : (st : Int) + ((pLen p : Nat) : Int) ≤ (pl : Int) := of_decide_eq_true hle
      refine ⟨fun σ' H' => σ' = [some (.ref r), some (.str x), some (.ref l), some (.int (pl : Int)), some (.ref fo), some (.int ((st + pLen p : Nat) : Int)), some (.int ((q + 1 : Nat) : Int)), v7, v8] ∧ H' = H4, ?_, ?_⟩
      · rintro _ _ ⟨rfl, rfl⟩
        refine ⟨_, (by omega : ps.length - (q + 1) < ps.length - q), q + 1, st + pLen p, rfl, rfl, rfl, ?_, by omega, by omega⟩
        rw [List.take_succ, hp, List.map_append, List.sum_append, ← hst]
        simp
      refine ⟨_, rfl, _, rfl, _, rfl, l, _, _, _, rfl, rfl, SqL.of hl3, hix, pa, p, rfl, hpa4, _, _, rfl, rfl, ?_⟩
      refine ⟨_, rfl, _, _, rfl, rfl, ?_⟩
      exact ⟨by rw [Int.natCast_add]; rfl, rfl⟩
    have hgt : pl < st + pLen p := by
      have : ¬ (st : Int) + ((pLen p : Nat) : Int) ≤ (pl : Int) := fun z => hle (decide_eq_true z)
      omega
    have hfit := take_len hp
    rw [← hst] at hfit
    refine ⟨_, rfl, _, rfl, l, _, _, _, rfl, rfl, SqL.of hl3, hix, pa, p, rfl, hpa4, ?_⟩
    try dsimp only
    refine ⟨_, rfl, _, rfl, _, rfl, _, rfl, _, rfl, _, _, rfl, rfl, _, rfl, x, rfl, by omega, _, rfl, fun D hD => ?_⟩
    have hyc : cs (cutS x (some (st : Int)) (some ((st : Int) + ((pLen p : Nat) : Int)))) = sub (cs x) st (pLen p) := by
      rw [← Int.natCast_add, cs_mid' (by omega), Nat.add_sub_cancel_left]
    generalize cutS x (some (st : Int)) (some ((st : Int) + ((pLen p : Nat) : Int))) = y at hyc
    have hyl : (cs y).length = pLen p := by rw [hyc, sub_len (by omega)]
    refine lc_str (x := y) (fun i H' => ∃ ws : List V, Same H4 H' ∧ H' D = some (.lst ws) ∧ Prts H' ws (((cs y).take i).map fun d => (Sum.inl d : Prt))) ⟨[], Same.upd_new hD, upd_same, .nil⟩ ?_ ?_
    · rintro i c H5 hi ⟨ws, sm, hD5, prw⟩
      have hil := (List.getElem?_eq_some_iff.mp hi).1
      refine ⟨rfl, _, rfl, by rw [hS]; show 2 ≤ 16777216; decide, fun tp htp => ?_⟩
      have stp := Same.upd_new (o := .tup [V.str (Str.ofString "sign"), V.str ⟨#[c]⟩]) htp
      have htD : tp ≠ D := fun z => by rw [z, hD5] at htp; cases htp
      refine ⟨ws, stp _ _ hD5, by rw [prw.len, List.length_map, List.length_take]; omega, ws ++ [.ref tp], fun b o hb => ?_, upd_same, ?_⟩
      · rw [upd_ne (ne_of_none hb hD)]
        exact stp _ _ (sm _ _ hb)
      · rw [List.take_succ, hi, List.map_append]
        have sap : Off D (upd H5 tp (.tup [V.str (Str.ofString "sign"), V.str ⟨#[c]⟩])) (upd (upd H5 tp (.tup [V.str (Str.ofString "sign"), V.str ⟨#[c]⟩])) D (.lst (ws ++ [.ref tp]))) := Off.upd
        refine Prts.snoc (prw.kept fun a o ea ⟨xs, ex⟩ => ?_) (sap _ _ (upd_same (a := tp) (H := H5)) htD)
        refine sap _ _ (stp _ _ ea) (fun z => ?_)
        rw [z, hD5, ex] at ea
        cases ea
    · rintro H5 ⟨ws, sm, hD5, prw⟩
      rw [List.take_of_length_le (Nat.le_refl _)] at prw
      have prw : Prts H5 ws ((cs y).map fun d => (Sum.inl d : Prt)) := prw
      rw [hyc] at prw
      have hwl := prw.len
      rw [List.length_map, sub_len (by omega)] at hwl
      have hl5 := sm _ _ hl3
      have hlD : l ≠ D := fun z => by rw [z] at hl3; rw [hl3] at hD; cases hD
      have pr5 : Prts H5 us ps := pr3.kept fun a o e _ => sm _ _ e
      have hple : ps.length ≤ x.length := by
        have : ∀ qs : List Prt, (∀ p ∈ qs, 1 ≤ pLen p) → qs.length ≤ sumL qs := fun qs => by
          induction qs with
          | nil => intro _; exact Nat.le_refl _
          | cons a t ih =>
            intro h
            have h1 := h a List.mem_cons_self
            have h2 := ih fun p hp => h p (List.mem_cons_of_mem _ hp)
            unfold sumL at h2 ⊢
            rw [List.length_cons, List.map_cons, List.sum_cons]
            omega
        have := this ps hpos
        omega
      refine ⟨_, rfl, _, rfl, _, rfl, _, rfl, _, _, rfl, rfl, _, rfl, l, D, us, ws, _, _, rfl, rfl, rfl, rfl, hl5, hD5, hlD, by omega, by omega, by omega, by omega, ?_⟩
      have sap : Off l H5 (upd H5 l (.lst (us.take (q : Int).toNat ++ ws ++ us.drop ((q : Int) + 1).toNat))) := Off.upd
      have kp : ∀ a o, H5 a = some o → (∃ xs, o = HO.tup xs) → (upd H5 l (.lst (us.take (q : Int).toNat ++ ws ++ us.drop ((q : Int) + 1).toNat))) a = some o := fun a o ea ⟨xs, ex⟩ => sap _ _ ea (fun z => by
        rw [z, hl5, ex] at ea
        cases ea)
      refine cont _ _ ⟨asS (cs x) ps q p, _, _, _, _, _, _, rfl, upd_same, ?_, asS_tld tld hp (by omega) hlet, (asS_sum hp (by omega)).trans hs, fun i hi => ?_, ((rl3.same sm).upd_ne (Ne.symm hrl)), fun b o hb nb => ?_⟩
      · rw [show ((q : Int)).toNat = q from Int.toNat_natCast q, show ((q : Int) + 1).toNat = q + 1 by omega] at kp ⊢
        unfold asS
        rw [← hst]
        exact prts_app (prts_app (Prts.take (pr5.kept kp) q) (prw.kept kp)) (prts_drop (pr5.kept kp) (q + 1))
      · rcases Nat.lt_or_ge i pl with z | z
        · obtain ⟨m, c, hf⟩ := hfo i z
          exact hf.told (asS_fol hp (by omega))
        · have : i = pl := by omega
          subst this
          rcases asS_org (c := cs x) hp (by omega) i with ⟨z1, _⟩ | ⟨_, _, d, _, z2⟩
          · rw [← hst] at z1
            omega
          · exact ⟨0, d, .sign z2⟩
      · rw [upd_ne (ne_of_none hb hl)]
        exact sm _ _ (off3 b o hb nb)
end
end K20

set_option Elab.async false
set_option linter.all false
set_option maxRecDepth 100000
set_option maxHeartbeats 1000000
namespace K20
open PySem L2
def sm (m k : Nat) (d : PyData) : Prop := d.leavesShort 90 = true ∧ d.showable = true ∧ d.hasDict = false ∧ d.bulk ≤ m ∧ d.depth ≤ k
theorem sm.mono {m k m' k' : Nat} {d : PyData} (h : sm m k d) (hm : m ≤ m') (hk : k ≤ k') : sm m' k' d := ⟨h.1, h.2.1, h.2.2.1, Nat.le_trans h.2.2.2.1 hm, Nat.le_trans h.2.2.2.2 hk⟩
theorem smAll {m k : Nat} : ∀ (ds : List PyData), (∀ d ∈ ds, sm m k d) → PyData.leavesShortAll 90 ds = true ∧ PyData.showableAll ds = true ∧ PyData.hasDictAll ds = false ∧ PyData.bulkAll ds ≤ (m + 1) * ds.length ∧ PyData.depthAll ds ≤ k
  | [], _ => ⟨rfl, rfl, rfl, Nat.le_refl _, Nat.zero_le _⟩
  | d :: ds, h => by
    obtain ⟨a1, a2, a3, a4, a5⟩ := h d List.mem_cons_self
    obtain ⟨b1, b2, b3, b4, b5⟩ := smAll ds fun e he => h e (List.mem_cons_of_mem _ he)
    refine ⟨?_, ?_, ?_, ?_, ?_⟩
    · show (d.leavesShort 90 && PyData.leavesShortAll 90 ds) = true
      rw [a1, b1]; rfl
    · show (d.showable && PyData.showableAll ds) = true
      rw [a2, b2]; rfl
    · show (d.hasDict || PyData.hasDictAll ds) = false
      rw [a3, b3]; rfl
    · show d.bulk + 1 + PyData.bulkAll ds ≤ (m + 1) * (ds.length + 1)
      rw [Nat.mul_add]
      omega
    · show max d.depth (PyData.depthAll ds) ≤ k
      omega
theorem sm.tup {m k n : Nat} {ds : List PyData} (h : ∀ d ∈ ds, sm m k d) (hl : ds.length ≤ n) : sm ((m + 1) * n) (k + 1) (.tuple ds) := by
  obtain ⟨b1, b2, b3, b4, b5⟩ := smAll ds h
  exact ⟨b1, b2, b3, Nat.le_trans b4 (Nat.mul_le_mul_left _ hl), by show PyData.depthAll _ + 1 ≤ k + 1; omega⟩
theorem sm.lst {m k n : Nat} {ds : List PyData} (h : ∀ d ∈ ds, sm m k d) (hl : ds.length ≤ n) : sm ((m + 1) * n) (k + 1) (.list ds) := by
  obtain ⟨b1, b2, b3, b4, b5⟩ := smAll ds h
  exact ⟨b1, b2, b3, Nat.le_trans b4 (Nat.mul_le_mul_left _ hl), by show PyData.depthAll _ + 1 ≤ k + 1; omega⟩
theorem sm.shown {d : PyData} (h : sm 20000 30 d) : d.showable = true ∧ d.hasDict = false ∧ d.depth ≤ 40 ∧ d.shown.length ≤ sizeLine := by
  refine ⟨h.2.1, h.2.2.1, Nat.le_trans h.2.2.2.2 (by decide), ?_⟩
  have := PySem.PyData.shown_le_bulk 90 (by decide) d h.1
  have := h.2.2.2.1
  rw [szl]
  omega
def shortB : PyData → Bool
  | .str s => decide (s.length ≤ 1000)
  | _ => true
theorem shortB_of {d : PyData} (h : shortB d = true) : shortS d := by
  cases d with
  | str s => exact of_decide_eq_true (p := s.length ≤ 1000) h
  | _ => exact trivial
def elS (d : PyData) : Prop := sm 8 1 d ∧ shortS d ∧ shp d
def ptS (d : PyData) : Prop := sm 100 2 d ∧ okP d
def fmS (d : PyData) : Prop := sm 20000 30 d ∧ okF d
theorem elS.c {d : PyData} (h : (d.leavesShort 90 && (d.showable && (!d.hasDict && (decide (d.bulk ≤ 8) && (decide (d.depth ≤ 1) && (shortB d && SeqAt.shaped d)))))) = true) : elS d := by
  simp only [Bool.and_eq_true, decide_eq_true_iff] at h
  obtain ⟨a, b, c, e, f, g, i⟩ := h
  have c : d.hasDict = false := by cases q : d.hasDict with | false => rfl | true => rw [q] at c; cases c
  exact ⟨⟨a, b, c, e, f⟩, shortB_of g, i⟩
theorem ptS.c {d : PyData} (h : (d.leavesShort 90 && (d.showable && (!d.hasDict && (decide (d.bulk ≤ 100) && decide (d.depth ≤ 2))))) = true) (h2 : okP d) : ptS d := by
  simp only [Bool.and_eq_true, decide_eq_true_iff] at h
  obtain ⟨a, b, c, e, f⟩ := h
  have c : d.hasDict = false := by cases q : d.hasDict with | false => rfl | true => rw [q] at c; cases c
  exact ⟨⟨a, b, c, e, f⟩, h2⟩
theorem shp_int (z : Int) : shp (.int z) := by
  unfold shp SeqAt.shaped
  simp [PyData.canLay0, PyData.depth]
theorem nu_smL : ∀ n : Fin 420, (decide ((PyData.shown (.int ((n.val : Nat) - 2 : Int))).length ≤ 90) && decide (((n.val : Nat) - 2 : Int).natAbs.log2 < 1920)) = true := by decide +kernel
theorem elS.nu {z : Int} (h0 : -2 ≤ z) (h : z ≤ 400) : elS (.int z) := by
  have := nu_smL ⟨(z + 2).toNat, by omega⟩
  rw [show (((z + 2).toNat : Nat) - 2 : Int) = z by omega, Bool.and_eq_true] at this
  exact ⟨⟨this.1, this.2, rfl, by show 0 ≤ 8; decide, by show 0 ≤ 1; decide⟩, trivial, shp_int z⟩
theorem ch_smL : ∀ n : Fin 128, (PyData.leavesShort 90 (.str ⟨#[n.val]⟩) && (decide (PyData.bulk (.str ⟨#[n.val]⟩) ≤ 8) && SeqAt.shaped (.str ⟨#[n.val]⟩))) = true := by decide +kernel
theorem elS.ch {c : Nat} (h : c ≤ 127) : elS (.str ⟨#[c]⟩) := by
  have := ch_smL ⟨c, by omega⟩
  simp only [Bool.and_eq_true, decide_eq_true_iff] at this
  exact ⟨⟨this.1, rfl, rfl, this.2.1, by show 0 ≤ 1; decide⟩, by show 1 ≤ 1000; decide, this.2.2⟩
theorem ptS.tup {ds : List PyData} (h : ∀ d ∈ ds, elS d) (hl : ds.length ≤ 10) : ptS (.tuple ds) := ⟨(sm.tup (fun d hd => (h d hd).1) hl).mono (by decide) (by decide), fun es e => by cases e; exact ⟨by omega, fun g hg => (h g hg).2⟩⟩
theorem ptS.lst {ds : List PyData} (h : ∀ d ∈ ds, elS d) (hl : ds.length ≤ 10) : ptS (.list ds) := ⟨(sm.lst (fun d hd => (h d hd).1) hl).mono (by decide) (by decide), fun es e => by cases e⟩
theorem ptS.el {d : PyData} (h : elS d) (h2 : ∀ es, d ≠ .tuple es) : ptS d := ⟨h.1.mono (by decide) (by decide), fun es e => absurd e (h2 es)⟩
theorem ptS.t0 : ptS (.tuple []) := ptS.tup (fun d hd => nomatch hd) (by decide)
theorem ptS.t1 {a : PyData} (ha : elS a) : ptS (.tuple [a]) := ptS.tup (fun d hd => by rw [List.mem_singleton.mp hd]; exact ha) (by show 1 ≤ 10; decide)
theorem ptS.t2 {a b : PyData} (ha : elS a) (hb : elS b) : ptS (.tuple [a, b]) := ptS.tup (fun d hd => by
  simp only [List.mem_cons, List.not_mem_nil, or_false] at hd
  rcases hd with rfl | rfl
  · exact ha
  · exact hb) (by show 2 ≤ 10; decide)
theorem ptS.t3 {a b c : PyData} (ha : elS a) (hb : elS b) (hc : elS c) : ptS (.tuple [a, b, c]) := ptS.tup (fun d hd => by
  simp only [List.mem_cons, List.not_mem_nil, or_false] at hd
  rcases hd with rfl | rfl | rfl
  · exact ha
  · exact hb
  · exact hc) (by show 3 ≤ 10; decide)
theorem ptS.t4 {a b c e : PyData} (ha : elS a) (hb : elS b) (hc : elS c) (he : elS e) : ptS (.tuple [a, b, c, e]) := ptS.tup (fun d hd => by
  simp only [List.mem_cons, List.not_mem_nil, or_false] at hd
  rcases hd with rfl | rfl | rfl | rfl
  · exact ha
  · exact hb
  · exact hc
  · exact he) (by show 4 ≤ 10; decide)
theorem ptS.l2 {a b : PyData} (ha : elS a) (hb : elS b) : ptS (.list [a, b]) := ptS.lst (fun d hd => by
  simp only [List.mem_cons, List.not_mem_nil, or_false] at hd
  rcases hd with rfl | rfl
  · exact ha
  · exact hb) (by show 2 ≤ 10; decide)
theorem ptS.l3 {a b c : PyData} (ha : elS a) (hb : elS b) (hc : elS c) : ptS (.list [a, b, c]) := ptS.lst (fun d hd => by
  simp only [List.mem_cons, List.not_mem_nil, or_false] at hd
  rcases hd with rfl | rfl | rfl
  · exact ha
  · exact hb
  · exact hc) (by show 3 ≤ 10; decide)
theorem fmS.tup {ds : List PyData} (h : ∀ d ∈ ds, ptS d) (hl : ds.length ≤ 190) : fmS (.tuple ds) := ⟨(sm.tup (fun d hd => (h d hd).1) hl).mono (by decide) (by decide), fun es e => by cases e; exact ⟨by omega, fun g hg => (h g hg).2⟩⟩
theorem fmS.lst {ds : List PyData} (h : ∀ d ∈ ds, ptS d) (hl : ds.length ≤ 190) : fmS (.list ds) := ⟨(sm.lst (fun d hd => (h d hd).1) hl).mono (by decide) (by decide), fun es e => by cases e⟩
theorem elS_sign : elS (.str (Str.ofString "sign")) := elS.c (by decide +kernel)
theorem elS_copy : elS (.str (Str.ofString "copy")) := elS.c (by decide +kernel)
theorem pD_ptS {n : Nat} {p : Prt} (h : pGood n p) (hn : n ≤ 300) : ptS (pD p) := by
  match p, h with
  | .inl c, h => exact ptS.t2 elS_sign (elS.ch (by have : 97 ≤ c ∧ c ≤ 122 := h; omega))
  | .inr (o, m), h => exact ptS.t3 elS_copy (elS.nu (by omega) (by have := h; simp only [pGood] at this; omega)) (elS.nu (by omega) (by have := h; simp only [pGood] at this; omega))
theorem pD_part {n : Nat} {p : Prt} (h : pGood n p) : partD (pD p) = true ∧ lenD (pD p) = ((pLen p : Nat) : Int) := by
  match p, h with
  | .inl c, h =>
    refine ⟨?_, rfl⟩
    show (eqS (Str.ofString "sign") (.str (Str.ofString "sign")) && isl c || _) = true
    have h : 97 ≤ c ∧ c ≤ 122 := h
    unfold isl
    rw [eqS_str, decide_eq_true rfl, decide_eq_true h.1, decide_eq_true h.2]
    rfl
  | .inr (o, m), h =>
    refine ⟨?_, rfl⟩
    show (false || (eqS (Str.ofString "copy") (.str (Str.ofString "copy")) && (true && (true && (decide ((0 : Int) ≤ (o : Int)) && decide ((1 : Int) ≤ (m : Int))))))) = true
    have h1 : 1 ≤ m := by have := h; simp only [pGood] at this; omega
    rw [eqS_str, decide_eq_true rfl, decide_eq_true (by omega), decide_eq_true (by omega)]
    rfl
theorem prts_dx {rs : List Addr} {H : Hp} {us : List V} {ps : List Prt} (h : Prts H us ps) (pn : ∀ a xs, H a = some (.tup xs) → a ∉ rs) : DxAll rs H us (ps.map pD) := by
  induction h with
  | nil => exact .nil
  | @cons a p vs ps e _ ih =>
    refine .cons ?_ ih
    match p, e with
    | .inl c, e => exact .tup e (pn _ _ e) (.cons (.str _) (.cons (.str _) .nil))
    | .inr (o, m), e => exact .tup e (pn _ _ e) (.cons (.str _) (.cons (.int _) (.cons (.int _) .nil)))
theorem Dx.off1 {p : Addr} {H H' : Hp} {v : V} {d : PyData} (h : Dx [p] H v d) (o : Off p H H') : Dx [p] H' v d := h.off (Off.offL o List.mem_cons_self)
theorem DxAll.off1 {p : Addr} {H H' : Hp} {v : List V} {d : List PyData} (h : DxAll [p] H v d) (o : Off p H H') : DxAll [p] H' v d := h.off (Off.offL o List.mem_cons_self)
theorem rl_tup {H : Hp} {r a : Addr} {xs : List V} (rl : Rl H r) (e : H a = some (.tup xs)) : a ∉ [r] := fun z => by
  obtain ⟨n, b, hp⟩ := rl
  rw [List.mem_singleton.mp z, hp] at e; cases e
theorem rl_new {H : Hp} {r a : Addr} (rl : Rl H r) (e : H a = none) : a ∉ [r] := fun z => (rl.ne e) (List.mem_singleton.mp z)
end K20

set_option Elab.async false
set_option linter.all false
set_option maxRecDepth 100000
set_option maxHeartbeats 1000000
namespace K20
open PySem L2
theorem sumL_len {n : Nat} : ∀ {ps : List Prt}, (∀ p ∈ ps, pGood n p) → ps.length ≤ sumL ps
  | [], _ => Nat.le_refl _
  | p :: ps, h => by
    have ih := sumL_len fun q hq => h q (List.mem_cons_of_mem _ hq)
    have h1 : 1 ≤ pLen p := by
      match p, h p List.mem_cons_self with
      | .inl c, _ => exact Nat.le_refl _
      | .inr (o, m), hg => have := hg; simp only [pGood] at this; show 1 ≤ m; omega
    have e : sumL (p :: ps) = pLen p + sumL ps := by simp [sumL]
    rw [e, List.length_cons]
    omega
theorem sum_pD {n : Nat} : ∀ {ps : List Prt}, (∀ p ∈ ps, pGood n p) → ((ps.map pD).map lenD).sum = ((sumL ps : Nat) : Int)
  | [], _ => rfl
  | p :: ps, h => by
    have ih := sum_pD fun q hq => h q (List.mem_cons_of_mem _ hq)
    have e : sumL (p :: ps) = pLen p + sumL ps := by simp [sumL]
    rw [List.map_cons, List.map_cons, List.sum_cons, ih, (pD_part (h p List.mem_cons_self)).2, e]
    omega
/-- lists that are kept off: the reel and others -/
def Av (r : Addr) (rs : List Addr) (H : Hp) : Prop := r ∈ rs ∧ ∀ b ∈ rs, ∃ xs, H b = some (.lst xs)
theorem Av.off {r : Addr} {rs : List Addr} {H H' : Hp} (h : Av r rs H) (o : Off r H H') (rl : Rl H' r) : Av r rs H' := ⟨h.1, fun b hb => by
  by_cases e : b = r
  · subst e
    obtain ⟨n, z, hp⟩ := rl
    exact ⟨_, hp⟩
  · obtain ⟨xs, hx⟩ := h.2 b hb
    exact ⟨xs, o _ _ hx e⟩⟩
theorem av_tup {r : Addr} {rs : List Addr} {H : Hp} {a : Addr} {xs : List V} (h : Av r rs H) (e : H a = some (.tup xs)) : a ∉ rs := fun m => by
  obtain ⟨ys, hy⟩ := h.2 a m
  rw [hy] at e; cases e
theorem av_new {r : Addr} {rs : List Addr} {H : Hp} {a : Addr} (h : Av r rs H) (e : H a = none) : a ∉ rs := fun m => by
  obtain ⟨ys, hy⟩ := h.2 a m
  rw [hy] at e; cases e
def spBent : Sp := fun vs H Q _ => ∃ (rs : List Addr) (r a : Addr) (us : List V) (ps : List Prt) (n : Nat), vs = [.ref r, .ref a] ∧ Av r rs H ∧ Rl H r ∧ H a = some (.tup us) ∧ Prts H us ps ∧ (∀ p ∈ ps, pGood n p) ∧ n ≤ 40 ∧ sumL ps = n ∧ ∀ (v : V) (d : PyData) (H' : Hp), Dx rs H' v d → fmS d → Rl H' r → Off r H H' → Q v H'
section
variable {P : Program} {w : World} {K : PySem.W.Frag} {mg : Str → Option Value} {base : Heap}
theorem ok_bent (F : FunN K mg "_law_bent" s_law_bent P_law_bent) (T : Bu mg) (c__law_pick : Cal P w K mg base 1 "_law_pick" P_law_pick spPick) (c__law_length : Cal P w K mg base 1 "_law_length" P_law_length spLenD) : Cal P w K mg base 2 "_law_bent" P_law_bent spBent := by
  refine cal_of F sc_law_bent (fun vs H Q E h => ?_) (fun f cdv A outer s H vs Q E hr h => ?_)
  · obtain ⟨rs, r, a, us, ps, n, rfl, _⟩ := h
    rfl
  · obtain ⟨rs, r, a, us, ps, many, rfl, av, rl, ha, pr, hg, hn, hsum, k⟩ := h
    have hS : sizeLine = 16777216 := szl
    have hul := pr.len
    have hpl := sumL_len hg
    refine ⟨_, (@pss_cons _ _ _ _ _ (@ps_set _ _ (2) _ _ _ _ sc_law_bent.nd rfl (Or.inl rfl) (@pe_cal _ _ _ _ _ _ _ _ _ _ c__law_pick (hr.mono (by decide)) (by rfl) (@pa_cons _ _ _ _ _ (@pv _ 0 _ _ (by rfl) (by first | exact Or.inl rfl | exact Or.inr (Or.inl rfl) | exact Or.inr (Or.inr rfl)) (by decide) (by decide)) (@pa_cons _ _ _ _ _ (@pe_op _ _ _ _ _ _ _ _ op_add (@pe_callB _ _ _ _ _ _ _ _ _ call_len_seq (by rfl) T.n_len (by decide +kernel) (@pa_cons _ _ _ _ _ (@pv _ 1 _ _ (by rfl) (by first | exact Or.inl rfl | exact Or.inr (Or.inl rfl) | exact Or.inr (Or.inr rfl)) (by decide) (by decide)) pa_nil (by rfl)) (by decide) (by decide) (by rfl) (by rfl)) pe_int) pa_nil (by rfl)) (by rfl)) (by decide) (by rfl) (by rfl)) (by rfl) (by first | exact .inl rfl | exact .inr rfl)) (@pss_cons _ _ _ _ _ (@ps_set _ _ (3) _ _ _ _ sc_law_bent.nd rfl (Or.inl rfl) (@pe_callB _ _ _ _ _ _ _ _ _ (cr_sum rfl) (by rfl) T.n_sum (by decide +kernel) (@pa_cons _ _ _ _ _ (@pe_lc _ _ _ _ _ _ ([("part", 4)]) _ _ (gName 4) _ _ (by rfl) sc_law_bent.nd (@pi_tup _ _ _ _ (@pv _ 1 _ _ (by rfl) (by first | exact Or.inl rfl | exact Or.inr (Or.inl rfl) | exact Or.inr (Or.inr rfl)) (by decide) (by decide))) (@blkOk_by (N_law_bent) (defScope s_law_bent) _ ([("part", 4)]) (by decide +kernel)) (fun _ _ _ _ _ => pg_name (i := 4) sc_law_bent.nd rfl (Or.inl rfl)) (fun _ _ _ _ _ => pts_nil) (fun _ _ _ _ _ => (@pe_cal _ _ _ _ _ _ _ _ _ _ c__law_length (hr.mono (by decide)) (by rfl) (@pa_cons _ _ _ _ _ (@pv _ 4 _ _ (by rfl) (by first | exact Or.inl rfl | exact Or.inr (Or.inl rfl) | exact Or.inr (Or.inr rfl)) (by decide) (by decide)) pa_nil (by rfl)) (by decide) (by rfl) (by rfl))) (by intro _; rfl)) pa_nil (by rfl)) (by decide) (by decide) (by rfl) (by rfl)) (by rfl) (by first | exact .inl rfl | exact .inr rfl)) (@pss_cons _ _ _ _ _ (@ps_set _ _ (5) _ _ _ _ sc_law_bent.nd rfl (Or.inl rfl) (@pe_cal _ _ _ _ _ _ _ _ _ _ c__law_pick (hr.mono (by decide)) (by rfl) (@pa_cons _ _ _ _ _ (@pv _ 0 _ _ (by rfl) (by first | exact Or.inl rfl | exact Or.inr (Or.inl rfl) | exact Or.inr (Or.inr rfl)) (by decide) (by decide)) (@pa_cons _ _ _ _ _ (@pe_op _ _ _ _ _ _ _ _ op_add (@pv _ 3 _ _ (by rfl) (by first | exact Or.inl rfl | exact Or.inr (Or.inl rfl) | exact Or.inr (Or.inr rfl)) (by decide) (by decide)) pe_int) pa_nil (by rfl)) (by rfl)) (by decide) (by rfl) (by rfl)) (by rfl) (by first | exact .inl rfl | exact .inr rfl)) (@pss_cons _ _ _ _ _ (@ps_set _ _ (6) _ _ _ _ sc_law_bent.nd rfl (Or.inl rfl) (@pe_lst _ _ _ _ (@pa_cons _ _ _ _ _ (@pe_tup _ _ _ _ _ (@pa_cons _ _ _ _ _ pe_str (@pa_cons _ _ _ _ _ (@pv _ 5 _ _ (by rfl) (by first | exact Or.inl rfl | exact Or.inr (Or.inl rfl) | exact Or.inr (Or.inr rfl)) (by decide) (by decide)) (@pa_cons _ _ _ _ _ (@pe_op _ _ _ _ _ _ _ _ op_sub (@pv _ 3 _ _ (by rfl) (by first | exact Or.inl rfl | exact Or.inr (Or.inl rfl) | exact Or.inr (Or.inr rfl)) (by decide) (by decide)) (@pv _ 5 _ _ (by rfl) (by first | exact Or.inl rfl | exact Or.inr (Or.inl rfl) | exact Or.inr (Or.inr rfl)) (by decide) (by decide))) pa_nil (by rfl)) (by rfl)) (by rfl))) (@pa_cons _ _ _ _ _ (@pe_tup _ _ _ _ _ (@pa_cons _ _ _ _ _ pe_str (@pa_cons _ _ _ _ _ (@pv _ 5 _ _ (by rfl) (by first | exact Or.inl rfl | exact Or.inr (Or.inl rfl) | exact Or.inr (Or.inr rfl)) (by decide) (by decide)) (@pa_cons _ _ _ _ _ (@pe_op _ _ _ _ _ _ _ _ op_add (@pe_op _ _ _ _ _ _ _ _ op_sub (@pv _ 3 _ _ (by rfl) (by first | exact Or.inl rfl | exact Or.inr (Or.inl rfl) | exact Or.inr (Or.inr rfl)) (by decide) (by decide)) (@pv _ 5 _ _ (by rfl) (by first | exact Or.inl rfl | exact Or.inr (Or.inl rfl) | exact Or.inr (Or.inr rfl)) (by decide) (by decide))) pe_int) pa_nil (by rfl)) (by rfl)) (by rfl))) (@pa_cons _ _ _ _ _ (@pe_tup _ _ _ _ _ (@pa_cons _ _ _ _ _ pe_str (@pa_cons _ _ _ _ _ (@pe_un _ _ _ _ _ _ un_neg pe_int) (@pa_cons _ _ _ _ _ pe_int pa_nil (by rfl)) (by rfl)) (by rfl))) (@pa_cons _ _ _ _ _ (@pe_tup _ _ _ _ _ (@pa_cons _ _ _ _ _ pe_str (@pa_cons _ _ _ _ _ pe_int (@pa_cons _ _ _ _ _ pe_int pa_nil (by rfl)) (by rfl)) (by rfl))) (@pa_cons _ _ _ _ _ (@pe_tup _ _ _ _ _ (@pa_cons _ _ _ _ _ pe_str (@pa_cons _ _ _ _ _ pe_int (@pa_cons _ _ _ _ _ (@pe_un _ _ _ _ _ _ un_neg pe_int) pa_nil (by rfl)) (by rfl)) (by rfl))) (@pa_cons _ _ _ _ _ (@pe_tup _ _ _ _ _ (@pa_cons _ _ _ _ _ pe_str (@pa_cons _ _ _ _ _ pe_bl (@pa_cons _ _ _ _ _ pe_int pa_nil (by rfl)) (by rfl)) (by rfl))) (@pa_cons _ _ _ _ _ (@pe_tup _ _ _ _ _ (@pa_cons _ _ _ _ _ pe_str (@pa_cons _ _ _ _ _ pe_int (@pa_cons _ _ _ _ _ pe_bl pa_nil (by rfl)) (by rfl)) (by rfl))) (@pa_cons _ _ _ _ _ (@pe_tup _ _ _ _ _ (@pa_cons _ _ _ _ _ pe_str (@pa_cons _ _ _ _ _ (@pe_op _ _ _ _ _ _ _ _ op_pow pe_int pe_int) (@pa_cons _ _ _ _ _ pe_int pa_nil (by rfl)) (by rfl)) (by rfl))) (@pa_cons _ _ _ _ _ (@pe_tup _ _ _ _ _ (@pa_cons _ _ _ _ _ pe_str (@pa_cons _ _ _ _ _ pe_int (@pa_cons _ _ _ _ _ (@pe_op _ _ _ _ _ _ _ _ op_pow pe_int pe_int) pa_nil (by rfl)) (by rfl)) (by rfl))) (@pa_cons _ _ _ _ _ (@pe_tup _ _ _ _ _ (@pa_cons _ _ _ _ _ pe_str (@pa_cons _ _ _ _ _ (@pv _ 5 _ _ (by rfl) (by first | exact Or.inl rfl | exact Or.inr (Or.inl rfl) | exact Or.inr (Or.inr rfl)) (by decide) (by decide)) pa_nil (by rfl)) (by rfl))) (@pa_cons _ _ _ _ _ (@pe_tup _ _ _ _ _ (@pa_cons _ _ _ _ _ pe_str (@pa_cons _ _ _ _ _ pe_str pa_nil (by rfl)) (by rfl))) (@pa_cons _ _ _ _ _ (@pe_tup _ _ _ _ _ (@pa_cons _ _ _ _ _ pe_str (@pa_cons _ _ _ _ _ pe_str pa_nil (by rfl)) (by rfl))) (@pa_cons _ _ _ _ _ (@pe_tup _ _ _ _ _ (@pa_cons _ _ _ _ _ pe_str (@pa_cons _ _ _ _ _ pe_str pa_nil (by rfl)) (by rfl))) (@pa_cons _ _ _ _ _ (@pe_tup _ _ _ _ _ (@pa_cons _ _ _ _ _ pe_str (@pa_cons _ _ _ _ _ pe_int pa_nil (by rfl)) (by rfl))) (@pa_cons _ _ _ _ _ (@pe_tup _ _ _ _ _ (@pa_cons _ _ _ _ _ pe_str pa_nil (by rfl))) (@pa_cons _ _ _ _ _ (@pe_tup _ _ _ _ _ (@pa_cons _ _ _ _ _ pe_str (@pa_cons _ _ _ _ _ pe_str (@pa_cons _ _ _ _ _ pe_int pa_nil (by rfl)) (by rfl)) (by rfl))) (@pa_cons _ _ _ _ _ (@pe_tup _ _ _ _ _ (@pa_cons _ _ _ _ _ pe_str (@pa_cons _ _ _ _ _ pe_str pa_nil (by rfl)) (by rfl))) (@pa_cons _ _ _ _ _ (@pe_lst _ _ _ _ (@pa_cons _ _ _ _ _ pe_str (@pa_cons _ _ _ _ _ pe_str pa_nil (by rfl)) (by rfl))) (@pa_cons _ _ _ _ _ pe_non (@pa_cons _ _ _ _ _ (@pe_tup _ _ _ _ _ pa_nil) (@pa_cons _ _ _ _ _ (@pe_tup _ _ _ _ _ (@pa_cons _ _ _ _ _ pe_str (@pa_cons _ _ _ _ _ pe_str (@pa_cons _ _ _ _ _ pe_int pa_nil (by rfl)) (by rfl)) (by rfl))) (@pa_cons _ _ _ _ _ (@pe_tup _ _ _ _ _ (@pa_cons _ _ _ _ _ pe_int (@pa_cons _ _ _ _ _ pe_str pa_nil (by rfl)) (by rfl))) (@pa_cons _ _ _ _ _ (@pe_tup _ _ _ _ _ (@pa_cons _ _ _ _ _ pe_str (@pa_cons _ _ _ _ _ pe_str pa_nil (by rfl)) (by rfl))) (@pa_cons _ _ _ _ _ (@pe_tup _ _ _ _ _ (@pa_cons _ _ _ _ _ pe_str (@pa_cons _ _ _ _ _ (@pv _ 5 _ _ (by rfl) (by first | exact Or.inl rfl | exact Or.inr (Or.inl rfl) | exact Or.inr (Or.inr rfl)) (by decide) (by decide)) (@pa_cons _ _ _ _ _ pe_int pa_nil (by rfl)) (by rfl)) (by rfl))) pa_nil (by rfl)) (by rfl)) (by rfl)) (by rfl)) (by rfl)) (by rfl)) (by rfl)) (by rfl)) (by rfl)) (by rfl)) (by rfl)) (by rfl)) (by rfl)) (by rfl)) (by rfl)) (by rfl)) (by rfl)) (by rfl)) (by rfl)) (by rfl)) (by rfl)) (by rfl)) (by rfl)) (by rfl))) (by rfl) (by first | exact .inl rfl | exact .inr rfl)) (@pss_cons _ _ _ _ _ (@ps_set _ _ (6) _ _ _ _ sc_law_bent.nd rfl (Or.inl rfl) (@pe_op _ _ _ _ _ _ _ _ op_cat (@pv _ 6 _ _ (by rfl) (by first | exact Or.inl rfl | exact Or.inr (Or.inl rfl) | exact Or.inr (Or.inr rfl)) (by decide) (by decide)) (@pe_lst _ _ _ _ (@pa_cons _ _ _ _ _ (@pe_tup _ _ _ _ _ (@pa_cons _ _ _ _ _ (@pe_lst _ _ _ _ (@pa_cons _ _ _ _ _ pe_str pa_nil (by rfl))) (@pa_cons _ _ _ _ _ pe_str pa_nil (by rfl)) (by rfl))) (@pa_cons _ _ _ _ _ (@pe_tup _ _ _ _ _ (@pa_cons _ _ _ _ _ pe_str (@pa_cons _ _ _ _ _ (@pe_lst _ _ _ _ (@pa_cons _ _ _ _ _ pe_int pa_nil (by rfl))) (@pa_cons _ _ _ _ _ pe_int pa_nil (by rfl)) (by rfl)) (by rfl))) (@pa_cons _ _ _ _ _ (@pe_tup _ _ _ _ _ (@pa_cons _ _ _ _ _ pe_str (@pa_cons _ _ _ _ _ (@pe_lst _ _ _ _ (@pa_cons _ _ _ _ _ pe_str pa_nil (by rfl))) pa_nil (by rfl)) (by rfl))) (@pa_cons _ _ _ _ _ (@pe_tup _ _ _ _ _ (@pa_cons _ _ _ _ _ (@pe_tup _ _ _ _ _ (@pa_cons _ _ _ _ _ pe_str pa_nil (by rfl))) (@pa_cons _ _ _ _ _ pe_int (@pa_cons _ _ _ _ _ pe_int pa_nil (by rfl)) (by rfl)) (by rfl))) pa_nil (by rfl)) (by rfl)) (by rfl)) (by rfl)))) (by rfl) (by first | exact .inl rfl | exact .inr rfl)) (@pss_cons _ _ _ _ _ (@ps_set _ _ (6) _ _ _ _ sc_law_bent.nd rfl (Or.inl rfl) (@pe_ix _ _ _ _ _ _ _ ix_list (@pv _ 6 _ _ (by rfl) (by first | exact Or.inl rfl | exact Or.inr (Or.inl rfl) | exact Or.inr (Or.inr rfl)) (by decide) (by decide)) (@pe_cal _ _ _ _ _ _ _ _ _ _ c__law_pick (hr.mono (by decide)) (by rfl) (@pa_cons _ _ _ _ _ (@pv _ 0 _ _ (by rfl) (by first | exact Or.inl rfl | exact Or.inr (Or.inl rfl) | exact Or.inr (Or.inr rfl)) (by decide) (by decide)) (@pa_cons _ _ _ _ _ (@pe_ix _ _ _ _ _ _ _ ix_list (@pe_lst _ _ _ _ (@pa_cons _ _ _ _ _ pe_int (@pa_cons _ _ _ _ _ pe_int pa_nil (by rfl)) (by rfl))) (@pe_callTy _ _ _ _ _ _ _ _ _ call_int1 (by rfl) T.n_int (by decide +kernel) (@pa_cons _ _ _ _ _ (@pe_ix _ _ _ _ _ _ _ ix_list (@pv _ 0 _ _ (by rfl) (by first | exact Or.inl rfl | exact Or.inr (Or.inl rfl) | exact Or.inr (Or.inr rfl)) (by decide) (by decide)) pe_int (fun _ _ => rfl)) pa_nil (by rfl)) (by decide) (by decide) (by rfl) (by rfl)) (fun _ _ => rfl)) pa_nil (by rfl)) (by rfl)) (by decide) (by rfl) (by rfl)) (fun _ _ => rfl)) (by rfl) (by first | exact .inl rfl | exact .inr rfl)) (@pss_cons _ _ _ _ _ (@ps_set _ _ (7) _ _ _ _ sc_law_bent.nd rfl (Or.inl rfl) (@pe_lst _ _ _ _ (@pa_cons _ _ _ _ _ (@pe_op _ _ _ _ _ _ _ _ op_catW (@pe_op _ _ _ _ _ _ _ _ op_catW (@pe_slice _ _ _ _ _ _ _ _ _ _ sl_tupW2 (@pv _ 1 _ _ (by rfl) (by first | exact Or.inl rfl | exact Or.inr (Or.inl rfl) | exact Or.inr (Or.inr rfl)) (by decide) (by decide)) po_none (@po_some _ _ _ (@pv _ 2 _ _ (by rfl) (by first | exact Or.inl rfl | exact Or.inr (Or.inl rfl) | exact Or.inr (Or.inr rfl)) (by decide) (by decide)))) (@pe_tup _ _ _ _ _ (@pa_cons _ _ _ _ _ (@pv _ 6 _ _ (by rfl) (by first | exact Or.inl rfl | exact Or.inr (Or.inl rfl) | exact Or.inr (Or.inr rfl)) (by decide) (by decide)) pa_nil (by rfl)))) (@pe_slice _ _ _ _ _ _ _ _ _ _ sl_tupW2 (@pv _ 1 _ _ (by rfl) (by first | exact Or.inl rfl | exact Or.inr (Or.inl rfl) | exact Or.inr (Or.inr rfl)) (by decide) (by decide)) (@po_some _ _ _ (@pe_op _ _ _ _ _ _ _ _ op_add (@pv _ 2 _ _ (by rfl) (by first | exact Or.inl rfl | exact Or.inr (Or.inl rfl) | exact Or.inr (Or.inr rfl)) (by decide) (by decide)) pe_int)) po_none)) (@pa_cons _ _ _ _ _ (@pe_op _ _ _ _ _ _ _ _ op_catW (@pe_op _ _ _ _ _ _ _ _ op_catW (@pe_slice _ _ _ _ _ _ _ _ _ _ sl_tupW2 (@pv _ 1 _ _ (by rfl) (by first | exact Or.inl rfl | exact Or.inr (Or.inl rfl) | exact Or.inr (Or.inr rfl)) (by decide) (by decide)) po_none (@po_some _ _ _ (@pv _ 2 _ _ (by rfl) (by first | exact Or.inl rfl | exact Or.inr (Or.inl rfl) | exact Or.inr (Or.inr rfl)) (by decide) (by decide)))) (@pe_tup _ _ _ _ _ (@pa_cons _ _ _ _ _ (@pv _ 6 _ _ (by rfl) (by first | exact Or.inl rfl | exact Or.inr (Or.inl rfl) | exact Or.inr (Or.inr rfl)) (by decide) (by decide)) pa_nil (by rfl)))) (@pe_slice _ _ _ _ _ _ _ _ _ _ sl_tupW2 (@pv _ 1 _ _ (by rfl) (by first | exact Or.inl rfl | exact Or.inr (Or.inl rfl) | exact Or.inr (Or.inr rfl)) (by decide) (by decide)) (@po_some _ _ _ (@pv _ 2 _ _ (by rfl) (by first | exact Or.inl rfl | exact Or.inr (Or.inl rfl) | exact Or.inr (Or.inr rfl)) (by decide) (by decide))) po_none)) (@pa_cons _ _ _ _ _ (@pe_op _ _ _ _ _ _ _ _ op_catW (@pe_slice _ _ _ _ _ _ _ _ _ _ sl_tupW2 (@pv _ 1 _ _ (by rfl) (by first | exact Or.inl rfl | exact Or.inr (Or.inl rfl) | exact Or.inr (Or.inr rfl)) (by decide) (by decide)) po_none (@po_some _ _ _ (@pv _ 2 _ _ (by rfl) (by first | exact Or.inl rfl | exact Or.inr (Or.inl rfl) | exact Or.inr (Or.inr rfl)) (by decide) (by decide)))) (@pe_slice _ _ _ _ _ _ _ _ _ _ sl_tupW2 (@pv _ 1 _ _ (by rfl) (by first | exact Or.inl rfl | exact Or.inr (Or.inl rfl) | exact Or.inr (Or.inr rfl)) (by decide) (by decide)) (@po_some _ _ _ (@pe_op _ _ _ _ _ _ _ _ op_add (@pv _ 2 _ _ (by rfl) (by first | exact Or.inl rfl | exact Or.inr (Or.inl rfl) | exact Or.inr (Or.inr rfl)) (by decide) (by decide)) pe_int)) po_none)) (@pa_cons _ _ _ _ _ (@pe_callTy _ _ _ _ _ _ _ _ _ call_list_of (by rfl) T.n_list (by decide +kernel) (@pa_cons _ _ _ _ _ (@pv _ 1 _ _ (by rfl) (by first | exact Or.inl rfl | exact Or.inr (Or.inl rfl) | exact Or.inr (Or.inr rfl)) (by decide) (by decide)) pa_nil (by rfl)) (by decide) (by decide) (by rfl) (by rfl)) pa_nil (by rfl)) (by rfl)) (by rfl)) (by rfl))) (by rfl) (by first | exact .inl rfl | exact .inr rfl)) (@pss_one _ _ _ (@ps_ret _ _ _ _ (@pe_ix _ _ _ _ _ _ _ ix_list (@pv _ 7 _ _ (by rfl) (by first | exact Or.inl rfl | exact Or.inr (Or.inl rfl) | exact Or.inr (Or.inr rfl)) (by decide) (by decide)) (@pe_cal _ _ _ _ _ _ _ _ _ _ c__law_pick (hr.mono (by decide)) (by rfl) (@pa_cons _ _ _ _ _ (@pv _ 0 _ _ (by rfl) (by first | exact Or.inl rfl | exact Or.inr (Or.inl rfl) | exact Or.inr (Or.inr rfl)) (by decide) (by decide)) (@pa_cons _ _ _ _ _ pe_int pa_nil (by rfl)) (by rfl)) (by decide) (by rfl) (by rfl)) (fun _ _ => rfl))))))))))), ?_⟩
    refine ⟨_, rfl, _, rfl, a, us, rfl, .inr (SqT.of ha), _, _, rfl, rfl, r, _, rfl, by omega, by omega, rl, fun zat H1 at0 at1 rl1 o1 => ?_⟩
    have hm := av.1
    have mem1 : ∀ {x : Addr}, x ∉ rs → x ≠ r := fun h z => h (by rw [z]; exact hm)
    have ne_a : a ≠ r := mem1 (av_tup av ha)
    have dus : DxAll rs H1 us (ps.map pD) := (prts_dx pr fun _ _ e => av_tup av e).off (Off.offL o1 hm)
    have av := av.off o1 rl1
    have e_a := o1 _ _ ha ne_a
    obtain ⟨at_, rfl⟩ : ∃ m : Nat, (m : Int) = zat := ⟨zat.toNat, by omega⟩
    refine ⟨_, rfl, a, rfl, ⟨_, SqT.of e_a⟩, fun D hD => ?_⟩
    refine lc_tup (K := K) (a := a) (xs := us) (fun i H' => Same H1 H' ∧ H' D = some (.lst ((((ps.map pD).take i).map lenD).map V.int))) ⟨Same.upd_new hD, upd_same⟩ (fun i H' _ ⟨sm, _⟩ => SqT.of (sm _ _ e_a)) ?_ ?_
    · rintro i v H2 hi ⟨s2, hD2⟩
      obtain ⟨d, hd, it⟩ := dus.at' hi
      have hp : partD d = true := by
        rw [List.getElem?_map] at hd
        obtain ⟨p, hp, rfl⟩ := Option.map_eq_some_iff.mp hd
        exact (pD_part (hg p (List.mem_of_getElem? hp))).1
      refine ⟨rfl, _, rfl, rs, v, d, rfl, it.off (Same.offL s2), hp, ?_⟩
      refine ⟨_, hD2, by rw [List.length_map, List.length_map, List.length_take, List.length_map]; omega, fun c oc hc => ?_, ?_⟩
      · rw [upd_ne (ne_of_none hc hD)]
        exact s2 _ _ hc
      · rw [upd_same, List.take_succ, hd, List.map_append, List.map_append]
        rfl
    rintro H2 ⟨s2, hD2⟩
    rw [show us.length = (ps.map pD).length by rw [List.length_map]; exact hul, List.take_of_length_le (Nat.le_refl _)] at hD2
    refine ⟨D, _, rfl, SqL.of hD2, ?_⟩
    rw [sum_pD hg, hsum]
    try dsimp only
    have o2 : Off r H1 H2 := s2.off
    have rl := rl1.same s2
    have av := av.off o2 rl
    have dus := dus.off (Off.offL o2 hm)
    have e_a := s2 _ _ e_a
    have oac : Off r H H2 := o1.trans o2
    clear hD2 s2 o1 o2 rl1 ha pr
    refine ⟨_, rfl, _, rfl, _, _, rfl, rfl, r, _, rfl, by omega, by omega, rl, fun zi H3 i0 i1 rl o3 => ?_⟩
    have av := av.off o3 rl
    have dus := dus.off (Off.offL o3 hm)
    have e_a := o3 _ _ e_a ne_a
    have oac := oac.trans o3
    clear o3
    try dsimp only
    refine ⟨_, rfl, _, rfl, _, rfl, _, _, rfl, rfl, by rw [hS]; show 3 ≤ 16777216; decide, fun x0 hn => ?_⟩
    have t4 := Same.upd_new (o := .tup [V.str (Str.ofString "copy"), V.int zi, V.int ((many : Int) - zi)]) hn
    have o4 : Off r _ _ := t4.off
    have e_x0 : (upd H3 x0 (.tup [V.str (Str.ofString "copy"), V.int zi, V.int ((many : Int) - zi)])) x0 = some (.tup [V.str (Str.ofString "copy"), V.int zi, V.int ((many : Int) - zi)]) := upd_same
    have nn_x0 := av_new av hn
    have ne_x0 := mem1 nn_x0
    have rl := rl.same t4
    clear hn
    try dsimp only
    generalize upd H3 x0 (.tup [V.str (Str.ofString "copy"), V.int zi, V.int ((many : Int) - zi)]) = G4 at t4 o4 e_x0 rl
    have av := av.off o4 rl
    have e_a := o4 _ _ e_a ne_a
    have dus := dus.off (Off.offL o4 hm)
    have oac := oac.trans o4
    clear t4 o4
    have da : DxAll rs G4 [V.ref x0] [PyData.tuple [PyData.str (Str.ofString "copy"), PyData.int zi, PyData.int ((many : Int) - zi)]] := .cons (.tup e_x0 nn_x0 (.cons (.str _) (.cons (.int _) (.cons (.int _) (.nil))))) .nil
    clear e_x0 nn_x0 ne_x0
    refine ⟨_, rfl, _, rfl, _, rfl, _, _, rfl, rfl, _, _, rfl, rfl, by rw [hS]; show 3 ≤ 16777216; decide, fun x1 hn => ?_⟩
    have t5 := Same.upd_new (o := .tup [V.str (Str.ofString "copy"), V.int zi, V.int ((many : Int) - zi + 1)]) hn
    have o5 : Off r _ _ := t5.off
    have e_x1 : (upd G4 x1 (.tup [V.str (Str.ofString "copy"), V.int zi, V.int ((many : Int) - zi + 1)])) x1 = some (.tup [V.str (Str.ofString "copy"), V.int zi, V.int ((many : Int) - zi + 1)]) := upd_same
    have nn_x1 := av_new av hn
    have ne_x1 := mem1 nn_x1
    have rl := rl.same t5
    clear hn
    try dsimp only
    generalize upd G4 x1 (.tup [V.str (Str.ofString "copy"), V.int zi, V.int ((many : Int) - zi + 1)]) = G5 at t5 o5 e_x1 rl
    have av := av.off o5 rl
    have e_a := o5 _ _ e_a ne_a
    have dus := dus.off (Off.offL o5 hm)
    have da := da.off (Off.offL o5 hm)
    have oac := oac.trans o5
    clear t5 o5
    have da : DxAll rs G5 [V.ref x0, V.ref x1] [PyData.tuple [PyData.str (Str.ofString "copy"), PyData.int zi, PyData.int ((many : Int) - zi)], PyData.tuple [PyData.str (Str.ofString "copy"), PyData.int zi, PyData.int ((many : Int) - zi + 1)]] := da.app (.cons (.tup e_x1 nn_x1 (.cons (.str _) (.cons (.int _) (.cons (.int _) (.nil))))) .nil)
    clear e_x1 nn_x1 ne_x1
    refine ⟨_, rfl, by rw [hS]; show 3 ≤ 16777216; decide, fun x2 hn => ?_⟩
    have t6 := Same.upd_new (o := .tup [V.str (Str.ofString "copy"), V.int (-1), V.int 1]) hn
    have o6 : Off r _ _ := t6.off
    have e_x2 : (upd G5 x2 (.tup [V.str (Str.ofString "copy"), V.int (-1), V.int 1])) x2 = some (.tup [V.str (Str.ofString "copy"), V.int (-1), V.int 1]) := upd_same
    have nn_x2 := av_new av hn
    have ne_x2 := mem1 nn_x2
    have rl := rl.same t6
    clear hn
    try dsimp only
    generalize upd G5 x2 (.tup [V.str (Str.ofString "copy"), V.int (-1), V.int 1]) = G6 at t6 o6 e_x2 rl
    have av := av.off o6 rl
    have e_a := o6 _ _ e_a ne_a
    have dus := dus.off (Off.offL o6 hm)
    have da := da.off (Off.offL o6 hm)
    have oac := oac.trans o6
    clear t6 o6
    have da : DxAll rs G6 [V.ref x0, V.ref x1, V.ref x2] [PyData.tuple [PyData.str (Str.ofString "copy"), PyData.int zi, PyData.int ((many : Int) - zi)], PyData.tuple [PyData.str (Str.ofString "copy"), PyData.int zi, PyData.int ((many : Int) - zi + 1)], PyData.tuple [PyData.str (Str.ofString "copy"), PyData.int (-1), PyData.int 1]] := da.app (.cons (.tup e_x2 nn_x2 (.cons (.str _) (.cons (.int _) (.cons (.int _) (.nil))))) .nil)
    clear e_x2 nn_x2 ne_x2
    refine ⟨by rw [hS]; show 3 ≤ 16777216; decide, fun x3 hn => ?_⟩
    have t7 := Same.upd_new (o := .tup [V.str (Str.ofString "copy"), V.int 0, V.int 0]) hn
    have o7 : Off r _ _ := t7.off
    have e_x3 : (upd G6 x3 (.tup [V.str (Str.ofString "copy"), V.int 0, V.int 0])) x3 = some (.tup [V.str (Str.ofString "copy"), V.int 0, V.int 0]) := upd_same
    have nn_x3 := av_new av hn
    have ne_x3 := mem1 nn_x3
    have rl := rl.same t7
    clear hn
    try dsimp only
    generalize upd G6 x3 (.tup [V.str (Str.ofString "copy"), V.int 0, V.int 0]) = G7 at t7 o7 e_x3 rl
    have av := av.off o7 rl
    have e_a := o7 _ _ e_a ne_a
    have dus := dus.off (Off.offL o7 hm)
    have da := da.off (Off.offL o7 hm)
    have oac := oac.trans o7
    clear t7 o7
    have da : DxAll rs G7 [V.ref x0, V.ref x1, V.ref x2, V.ref x3] [PyData.tuple [PyData.str (Str.ofString "copy"), PyData.int zi, PyData.int ((many : Int) - zi)], PyData.tuple [PyData.str (Str.ofString "copy"), PyData.int zi, PyData.int ((many : Int) - zi + 1)], PyData.tuple [PyData.str (Str.ofString "copy"), PyData.int (-1), PyData.int 1], PyData.tuple [PyData.str (Str.ofString "copy"), PyData.int 0, PyData.int 0]] := da.app (.cons (.tup e_x3 nn_x3 (.cons (.str _) (.cons (.int _) (.cons (.int _) (.nil))))) .nil)
    clear e_x3 nn_x3 ne_x3
    refine ⟨_, rfl, by rw [hS]; show 3 ≤ 16777216; decide, fun x4 hn => ?_⟩
    have t8 := Same.upd_new (o := .tup [V.str (Str.ofString "copy"), V.int 0, V.int (-1)]) hn
    have o8 : Off r _ _ := t8.off
    have e_x4 : (upd G7 x4 (.tup [V.str (Str.ofString "copy"), V.int 0, V.int (-1)])) x4 = some (.tup [V.str (Str.ofString "copy"), V.int 0, V.int (-1)]) := upd_same
    have nn_x4 := av_new av hn
    have ne_x4 := mem1 nn_x4
    have rl := rl.same t8
    clear hn
    try dsimp only
    generalize upd G7 x4 (.tup [V.str (Str.ofString "copy"), V.int 0, V.int (-1)]) = G8 at t8 o8 e_x4 rl
    have av := av.off o8 rl
    have e_a := o8 _ _ e_a ne_a
    have dus := dus.off (Off.offL o8 hm)
    have da := da.off (Off.offL o8 hm)
    have oac := oac.trans o8
    clear t8 o8
    have da : DxAll rs G8 [V.ref x0, V.ref x1, V.ref x2, V.ref x3, V.ref x4] [PyData.tuple [PyData.str (Str.ofString "copy"), PyData.int zi, PyData.int ((many : Int) - zi)], PyData.tuple [PyData.str (Str.ofString "copy"), PyData.int zi, PyData.int ((many : Int) - zi + 1)], PyData.tuple [PyData.str (Str.ofString "copy"), PyData.int (-1), PyData.int 1], PyData.tuple [PyData.str (Str.ofString "copy"), PyData.int 0, PyData.int 0], PyData.tuple [PyData.str (Str.ofString "copy"), PyData.int 0, PyData.int (-1)]] := da.app (.cons (.tup e_x4 nn_x4 (.cons (.str _) (.cons (.int _) (.cons (.int _) (.nil))))) .nil)
    clear e_x4 nn_x4 ne_x4
    refine ⟨by rw [hS]; show 3 ≤ 16777216; decide, fun x5 hn => ?_⟩
    have t9 := Same.upd_new (o := .tup [V.str (Str.ofString "copy"), V.bl true, V.int 1]) hn
    have o9 : Off r _ _ := t9.off
    have e_x5 : (upd G8 x5 (.tup [V.str (Str.ofString "copy"), V.bl true, V.int 1])) x5 = some (.tup [V.str (Str.ofString "copy"), V.bl true, V.int 1]) := upd_same
    have nn_x5 := av_new av hn
    have ne_x5 := mem1 nn_x5
    have rl := rl.same t9
    clear hn
    try dsimp only
    generalize upd G8 x5 (.tup [V.str (Str.ofString "copy"), V.bl true, V.int 1]) = G9 at t9 o9 e_x5 rl
    have av := av.off o9 rl
    have e_a := o9 _ _ e_a ne_a
    have dus := dus.off (Off.offL o9 hm)
    have da := da.off (Off.offL o9 hm)
    have oac := oac.trans o9
    clear t9 o9
    have da : DxAll rs G9 [V.ref x0, V.ref x1, V.ref x2, V.ref x3, V.ref x4, V.ref x5] [PyData.tuple [PyData.str (Str.ofString "copy"), PyData.int zi, PyData.int ((many : Int) - zi)], PyData.tuple [PyData.str (Str.ofString "copy"), PyData.int zi, PyData.int ((many : Int) - zi + 1)], PyData.tuple [PyData.str (Str.ofString "copy"), PyData.int (-1), PyData.int 1], PyData.tuple [PyData.str (Str.ofString "copy"), PyData.int 0, PyData.int 0], PyData.tuple [PyData.str (Str.ofString "copy"), PyData.int 0, PyData.int (-1)], PyData.tuple [PyData.str (Str.ofString "copy"), PyData.bool true, PyData.int 1]] := da.app (.cons (.tup e_x5 nn_x5 (.cons (.str _) (.cons (.bl _) (.cons (.int _) (.nil))))) .nil)
    clear e_x5 nn_x5 ne_x5
    refine ⟨by rw [hS]; show 3 ≤ 16777216; decide, fun x6 hn => ?_⟩
    have t10 := Same.upd_new (o := .tup [V.str (Str.ofString "copy"), V.int 0, V.bl true]) hn
    have o10 : Off r _ _ := t10.off
    have e_x6 : (upd G9 x6 (.tup [V.str (Str.ofString "copy"), V.int 0, V.bl true])) x6 = some (.tup [V.str (Str.ofString "copy"), V.int 0, V.bl true]) := upd_same
    have nn_x6 := av_new av hn
    have ne_x6 := mem1 nn_x6
    have rl := rl.same t10
    clear hn
    try dsimp only
    generalize upd G9 x6 (.tup [V.str (Str.ofString "copy"), V.int 0, V.bl true]) = G10 at t10 o10 e_x6 rl
    have av := av.off o10 rl
    have e_a := o10 _ _ e_a ne_a
    have dus := dus.off (Off.offL o10 hm)
    have da := da.off (Off.offL o10 hm)
    have oac := oac.trans o10
    clear t10 o10
    have da : DxAll rs G10 [V.ref x0, V.ref x1, V.ref x2, V.ref x3, V.ref x4, V.ref x5, V.ref x6] [PyData.tuple [PyData.str (Str.ofString "copy"), PyData.int zi, PyData.int ((many : Int) - zi)], PyData.tuple [PyData.str (Str.ofString "copy"), PyData.int zi, PyData.int ((many : Int) - zi + 1)], PyData.tuple [PyData.str (Str.ofString "copy"), PyData.int (-1), PyData.int 1], PyData.tuple [PyData.str (Str.ofString "copy"), PyData.int 0, PyData.int 0], PyData.tuple [PyData.str (Str.ofString "copy"), PyData.int 0, PyData.int (-1)], PyData.tuple [PyData.str (Str.ofString "copy"), PyData.bool true, PyData.int 1], PyData.tuple [PyData.str (Str.ofString "copy"), PyData.int 0, PyData.bool true]] := da.app (.cons (.tup e_x6 nn_x6 (.cons (.str _) (.cons (.int _) (.cons (.bl _) (.nil))))) .nil)
    clear e_x6 nn_x6 ne_x6
    refine ⟨_, _, rfl, rfl, ⟨by decide, by decide, by decide⟩, by rw [hS]; show 3 ≤ 16777216; decide, fun x7 hn => ?_⟩
    have t11 := Same.upd_new (o := .tup [V.str (Str.ofString "copy"), V.int ((10 : Int) ^ (40 : Int).toNat), V.int 1]) hn
    have o11 : Off r _ _ := t11.off
    have e_x7 : (upd G10 x7 (.tup [V.str (Str.ofString "copy"), V.int ((10 : Int) ^ (40 : Int).toNat), V.int 1])) x7 = some (.tup [V.str (Str.ofString "copy"), V.int ((10 : Int) ^ (40 : Int).toNat), V.int 1]) := upd_same
    have nn_x7 := av_new av hn
    have ne_x7 := mem1 nn_x7
    have rl := rl.same t11
    clear hn
    try dsimp only
    generalize upd G10 x7 (.tup [V.str (Str.ofString "copy"), V.int ((10 : Int) ^ (40 : Int).toNat), V.int 1]) = G11 at t11 o11 e_x7 rl
    have av := av.off o11 rl
    have e_a := o11 _ _ e_a ne_a
    have dus := dus.off (Off.offL o11 hm)
    have da := da.off (Off.offL o11 hm)
    have oac := oac.trans o11
    clear t11 o11
    have da : DxAll rs G11 [V.ref x0, V.ref x1, V.ref x2, V.ref x3, V.ref x4, V.ref x5, V.ref x6, V.ref x7] [PyData.tuple [PyData.str (Str.ofString "copy"), PyData.int zi, PyData.int ((many : Int) - zi)], PyData.tuple [PyData.str (Str.ofString "copy"), PyData.int zi, PyData.int ((many : Int) - zi + 1)], PyData.tuple [PyData.str (Str.ofString "copy"), PyData.int (-1), PyData.int 1], PyData.tuple [PyData.str (Str.ofString "copy"), PyData.int 0, PyData.int 0], PyData.tuple [PyData.str (Str.ofString "copy"), PyData.int 0, PyData.int (-1)], PyData.tuple [PyData.str (Str.ofString "copy"), PyData.bool true, PyData.int 1], PyData.tuple [PyData.str (Str.ofString "copy"), PyData.int 0, PyData.bool true], PyData.tuple [PyData.str (Str.ofString "copy"), PyData.int ((10 : Int) ^ (40 : Int).toNat), PyData.int 1]] := da.app (.cons (.tup e_x7 nn_x7 (.cons (.str _) (.cons (.int _) (.cons (.int _) (.nil))))) .nil)
    clear e_x7 nn_x7 ne_x7
    refine ⟨_, _, rfl, rfl, ⟨by decide, by decide, by decide⟩, by rw [hS]; show 3 ≤ 16777216; decide, fun x8 hn => ?_⟩
    have t12 := Same.upd_new (o := .tup [V.str (Str.ofString "copy"), V.int 0, V.int ((10 : Int) ^ (40 : Int).toNat)]) hn
    have o12 : Off r _ _ := t12.off
    have e_x8 : (upd G11 x8 (.tup [V.str (Str.ofString "copy"), V.int 0, V.int ((10 : Int) ^ (40 : Int).toNat)])) x8 = some (.tup [V.str (Str.ofString "copy"), V.int 0, V.int ((10 : Int) ^ (40 : Int).toNat)]) := upd_same
    have nn_x8 := av_new av hn
    have ne_x8 := mem1 nn_x8
    have rl := rl.same t12
    clear hn
    try dsimp only
    generalize upd G11 x8 (.tup [V.str (Str.ofString "copy"), V.int 0, V.int ((10 : Int) ^ (40 : Int).toNat)]) = G12 at t12 o12 e_x8 rl
    have av := av.off o12 rl
    have e_a := o12 _ _ e_a ne_a
    have dus := dus.off (Off.offL o12 hm)
    have da := da.off (Off.offL o12 hm)
    have oac := oac.trans o12
    clear t12 o12
    have da : DxAll rs G12 [V.ref x0, V.ref x1, V.ref x2, V.ref x3, V.ref x4, V.ref x5, V.ref x6, V.ref x7, V.ref x8] [PyData.tuple [PyData.str (Str.ofString "copy"), PyData.int zi, PyData.int ((many : Int) - zi)], PyData.tuple [PyData.str (Str.ofString "copy"), PyData.int zi, PyData.int ((many : Int) - zi + 1)], PyData.tuple [PyData.str (Str.ofString "copy"), PyData.int (-1), PyData.int 1], PyData.tuple [PyData.str (Str.ofString "copy"), PyData.int 0, PyData.int 0], PyData.tuple [PyData.str (Str.ofString "copy"), PyData.int 0, PyData.int (-1)], PyData.tuple [PyData.str (Str.ofString "copy"), PyData.bool true, PyData.int 1], PyData.tuple [PyData.str (Str.ofString "copy"), PyData.int 0, PyData.bool true], PyData.tuple [PyData.str (Str.ofString "copy"), PyData.int ((10 : Int) ^ (40 : Int).toNat), PyData.int 1], PyData.tuple [PyData.str (Str.ofString "copy"), PyData.int 0, PyData.int ((10 : Int) ^ (40 : Int).toNat)]] := da.app (.cons (.tup e_x8 nn_x8 (.cons (.str _) (.cons (.int _) (.cons (.int _) (.nil))))) .nil)
    clear e_x8 nn_x8 ne_x8
    refine ⟨_, rfl, by rw [hS]; show 2 ≤ 16777216; decide, fun x9 hn => ?_⟩
    have t13 := Same.upd_new (o := .tup [V.str (Str.ofString "copy"), V.int zi]) hn
    have o13 : Off r _ _ := t13.off
    have e_x9 : (upd G12 x9 (.tup [V.str (Str.ofString "copy"), V.int zi])) x9 = some (.tup [V.str (Str.ofString "copy"), V.int zi]) := upd_same
    have nn_x9 := av_new av hn
    have ne_x9 := mem1 nn_x9
    have rl := rl.same t13
    clear hn
    try dsimp only
    generalize upd G12 x9 (.tup [V.str (Str.ofString "copy"), V.int zi]) = G13 at t13 o13 e_x9 rl
    have av := av.off o13 rl
    have e_a := o13 _ _ e_a ne_a
    have dus := dus.off (Off.offL o13 hm)
    have da := da.off (Off.offL o13 hm)
    have oac := oac.trans o13
    clear t13 o13
    have da : DxAll rs G13 [V.ref x0, V.ref x1, V.ref x2, V.ref x3, V.ref x4, V.ref x5, V.ref x6, V.ref x7, V.ref x8, V.ref x9] [PyData.tuple [PyData.str (Str.ofString "copy"), PyData.int zi, PyData.int ((many : Int) - zi)], PyData.tuple [PyData.str (Str.ofString "copy"), PyData.int zi, PyData.int ((many : Int) - zi + 1)], PyData.tuple [PyData.str (Str.ofString "copy"), PyData.int (-1), PyData.int 1], PyData.tuple [PyData.str (Str.ofString "copy"), PyData.int 0, PyData.int 0], PyData.tuple [PyData.str (Str.ofString "copy"), PyData.int 0, PyData.int (-1)], PyData.tuple [PyData.str (Str.ofString "copy"), PyData.bool true, PyData.int 1], PyData.tuple [PyData.str (Str.ofString "copy"), PyData.int 0, PyData.bool true], PyData.tuple [PyData.str (Str.ofString "copy"), PyData.int ((10 : Int) ^ (40 : Int).toNat), PyData.int 1], PyData.tuple [PyData.str (Str.ofString "copy"), PyData.int 0, PyData.int ((10 : Int) ^ (40 : Int).toNat)], PyData.tuple [PyData.str (Str.ofString "copy"), PyData.int zi]] := da.app (.cons (.tup e_x9 nn_x9 (.cons (.str _) (.cons (.int _) (.nil)))) .nil)
    clear e_x9 nn_x9 ne_x9
    refine ⟨by rw [hS]; show 2 ≤ 16777216; decide, fun x10 hn => ?_⟩
    have t14 := Same.upd_new (o := .tup [V.str (Str.ofString "sign"), V.str (Str.ofString "")]) hn
    have o14 : Off r _ _ := t14.off
    have e_x10 : (upd G13 x10 (.tup [V.str (Str.ofString "sign"), V.str (Str.ofString "")])) x10 = some (.tup [V.str (Str.ofString "sign"), V.str (Str.ofString "")]) := upd_same
    have nn_x10 := av_new av hn
    have ne_x10 := mem1 nn_x10
    have rl := rl.same t14
    clear hn
    try dsimp only
    generalize upd G13 x10 (.tup [V.str (Str.ofString "sign"), V.str (Str.ofString "")]) = G14 at t14 o14 e_x10 rl
    have av := av.off o14 rl
    have e_a := o14 _ _ e_a ne_a
    have dus := dus.off (Off.offL o14 hm)
    have da := da.off (Off.offL o14 hm)
    have oac := oac.trans o14
    clear t14 o14
    have da : DxAll rs G14 [V.ref x0, V.ref x1, V.ref x2, V.ref x3, V.ref x4, V.ref x5, V.ref x6, V.ref x7, V.ref x8, V.ref x9, V.ref x10] [PyData.tuple [PyData.str (Str.ofString "copy"), PyData.int zi, PyData.int ((many : Int) - zi)], PyData.tuple [PyData.str (Str.ofString "copy"), PyData.int zi, PyData.int ((many : Int) - zi + 1)], PyData.tuple [PyData.str (Str.ofString "copy"), PyData.int (-1), PyData.int 1], PyData.tuple [PyData.str (Str.ofString "copy"), PyData.int 0, PyData.int 0], PyData.tuple [PyData.str (Str.ofString "copy"), PyData.int 0, PyData.int (-1)], PyData.tuple [PyData.str (Str.ofString "copy"), PyData.bool true, PyData.int 1], PyData.tuple [PyData.str (Str.ofString "copy"), PyData.int 0, PyData.bool true], PyData.tuple [PyData.str (Str.ofString "copy"), PyData.int ((10 : Int) ^ (40 : Int).toNat), PyData.int 1], PyData.tuple [PyData.str (Str.ofString "copy"), PyData.int 0, PyData.int ((10 : Int) ^ (40 : Int).toNat)], PyData.tuple [PyData.str (Str.ofString "copy"), PyData.int zi], PyData.tuple [PyData.str (Str.ofString "sign"), PyData.str (Str.ofString "")]] := da.app (.cons (.tup e_x10 nn_x10 (.cons (.str _) (.cons (.str _) (.nil)))) .nil)
    clear e_x10 nn_x10 ne_x10
    refine ⟨by rw [hS]; show 2 ≤ 16777216; decide, fun x11 hn => ?_⟩
    have t15 := Same.upd_new (o := .tup [V.str (Str.ofString "sign"), V.str (Str.ofString "ab")]) hn
    have o15 : Off r _ _ := t15.off
    have e_x11 : (upd G14 x11 (.tup [V.str (Str.ofString "sign"), V.str (Str.ofString "ab")])) x11 = some (.tup [V.str (Str.ofString "sign"), V.str (Str.ofString "ab")]) := upd_same
    have nn_x11 := av_new av hn
    have ne_x11 := mem1 nn_x11
    have rl := rl.same t15
    clear hn
    try dsimp only
    generalize upd G14 x11 (.tup [V.str (Str.ofString "sign"), V.str (Str.ofString "ab")]) = G15 at t15 o15 e_x11 rl
    have av := av.off o15 rl
    have e_a := o15 _ _ e_a ne_a
    have dus := dus.off (Off.offL o15 hm)
    have da := da.off (Off.offL o15 hm)
    have oac := oac.trans o15
    clear t15 o15
    have da : DxAll rs G15 [V.ref x0, V.ref x1, V.ref x2, V.ref x3, V.ref x4, V.ref x5, V.ref x6, V.ref x7, V.ref x8, V.ref x9, V.ref x10, V.ref x11] [PyData.tuple [PyData.str (Str.ofString "copy"), PyData.int zi, PyData.int ((many : Int) - zi)], PyData.tuple [PyData.str (Str.ofString "copy"), PyData.int zi, PyData.int ((many : Int) - zi + 1)], PyData.tuple [PyData.str (Str.ofString "copy"), PyData.int (-1), PyData.int 1], PyData.tuple [PyData.str (Str.ofString "copy"), PyData.int 0, PyData.int 0], PyData.tuple [PyData.str (Str.ofString "copy"), PyData.int 0, PyData.int (-1)], PyData.tuple [PyData.str (Str.ofString "copy"), PyData.bool true, PyData.int 1], PyData.tuple [PyData.str (Str.ofString "copy"), PyData.int 0, PyData.bool true], PyData.tuple [PyData.str (Str.ofString "copy"), PyData.int ((10 : Int) ^ (40 : Int).toNat), PyData.int 1], PyData.tuple [PyData.str (Str.ofString "copy"), PyData.int 0, PyData.int ((10 : Int) ^ (40 : Int).toNat)], PyData.tuple [PyData.str (Str.ofString "copy"), PyData.int zi], PyData.tuple [PyData.str (Str.ofString "sign"), PyData.str (Str.ofString "")], PyData.tuple [PyData.str (Str.ofString "sign"), PyData.str (Str.ofString "ab")]] := da.app (.cons (.tup e_x11 nn_x11 (.cons (.str _) (.cons (.str _) (.nil)))) .nil)
    clear e_x11 nn_x11 ne_x11
    refine ⟨by rw [hS]; show 2 ≤ 16777216; decide, fun x12 hn => ?_⟩
    have t16 := Same.upd_new (o := .tup [V.str (Str.ofString "sign"), V.str (Str.ofString "A")]) hn
    have o16 : Off r _ _ := t16.off
    have e_x12 : (upd G15 x12 (.tup [V.str (Str.ofString "sign"), V.str (Str.ofString "A")])) x12 = some (.tup [V.str (Str.ofString "sign"), V.str (Str.ofString "A")]) := upd_same
    have nn_x12 := av_new av hn
    have ne_x12 := mem1 nn_x12
    have rl := rl.same t16
    clear hn
    try dsimp only
    generalize upd G15 x12 (.tup [V.str (Str.ofString "sign"), V.str (Str.ofString "A")]) = G16 at t16 o16 e_x12 rl
    have av := av.off o16 rl
    have e_a := o16 _ _ e_a ne_a
    have dus := dus.off (Off.offL o16 hm)
    have da := da.off (Off.offL o16 hm)
    have oac := oac.trans o16
    clear t16 o16
    have da : DxAll rs G16 [V.ref x0, V.ref x1, V.ref x2, V.ref x3, V.ref x4, V.ref x5, V.ref x6, V.ref x7, V.ref x8, V.ref x9, V.ref x10, V.ref x11, V.ref x12] [PyData.tuple [PyData.str (Str.ofString "copy"), PyData.int zi, PyData.int ((many : Int) - zi)], PyData.tuple [PyData.str (Str.ofString "copy"), PyData.int zi, PyData.int ((many : Int) - zi + 1)], PyData.tuple [PyData.str (Str.ofString "copy"), PyData.int (-1), PyData.int 1], PyData.tuple [PyData.str (Str.ofString "copy"), PyData.int 0, PyData.int 0], PyData.tuple [PyData.str (Str.ofString "copy"), PyData.int 0, PyData.int (-1)], PyData.tuple [PyData.str (Str.ofString "copy"), PyData.bool true, PyData.int 1], PyData.tuple [PyData.str (Str.ofString "copy"), PyData.int 0, PyData.bool true], PyData.tuple [PyData.str (Str.ofString "copy"), PyData.int ((10 : Int) ^ (40 : Int).toNat), PyData.int 1], PyData.tuple [PyData.str (Str.ofString "copy"), PyData.int 0, PyData.int ((10 : Int) ^ (40 : Int).toNat)], PyData.tuple [PyData.str (Str.ofString "copy"), PyData.int zi], PyData.tuple [PyData.str (Str.ofString "sign"), PyData.str (Str.ofString "")], PyData.tuple [PyData.str (Str.ofString "sign"), PyData.str (Str.ofString "ab")], PyData.tuple [PyData.str (Str.ofString "sign"), PyData.str (Str.ofString "A")]] := da.app (.cons (.tup e_x12 nn_x12 (.cons (.str _) (.cons (.str _) (.nil)))) .nil)
    clear e_x12 nn_x12 ne_x12
    refine ⟨by rw [hS]; show 2 ≤ 16777216; decide, fun x13 hn => ?_⟩
    have t17 := Same.upd_new (o := .tup [V.str (Str.ofString "sign"), V.int 1]) hn
    have o17 : Off r _ _ := t17.off
    have e_x13 : (upd G16 x13 (.tup [V.str (Str.ofString "sign"), V.int 1])) x13 = some (.tup [V.str (Str.ofString "sign"), V.int 1]) := upd_same
    have nn_x13 := av_new av hn
    have ne_x13 := mem1 nn_x13
    have rl := rl.same t17
    clear hn
    try dsimp only
    generalize upd G16 x13 (.tup [V.str (Str.ofString "sign"), V.int 1]) = G17 at t17 o17 e_x13 rl
    have av := av.off o17 rl
    have e_a := o17 _ _ e_a ne_a
    have dus := dus.off (Off.offL o17 hm)
    have da := da.off (Off.offL o17 hm)
    have oac := oac.trans o17
    clear t17 o17
    have da : DxAll rs G17 [V.ref x0, V.ref x1, V.ref x2, V.ref x3, V.ref x4, V.ref x5, V.ref x6, V.ref x7, V.ref x8, V.ref x9, V.ref x10, V.ref x11, V.ref x12, V.ref x13] [PyData.tuple [PyData.str (Str.ofString "copy"), PyData.int zi, PyData.int ((many : Int) - zi)], PyData.tuple [PyData.str (Str.ofString "copy"), PyData.int zi, PyData.int ((many : Int) - zi + 1)], PyData.tuple [PyData.str (Str.ofString "copy"), PyData.int (-1), PyData.int 1], PyData.tuple [PyData.str (Str.ofString "copy"), PyData.int 0, PyData.int 0], PyData.tuple [PyData.str (Str.ofString "copy"), PyData.int 0, PyData.int (-1)], PyData.tuple [PyData.str (Str.ofString "copy"), PyData.bool true, PyData.int 1], PyData.tuple [PyData.str (Str.ofString "copy"), PyData.int 0, PyData.bool true], PyData.tuple [PyData.str (Str.ofString "copy"), PyData.int ((10 : Int) ^ (40 : Int).toNat), PyData.int 1], PyData.tuple [PyData.str (Str.ofString "copy"), PyData.int 0, PyData.int ((10 : Int) ^ (40 : Int).toNat)], PyData.tuple [PyData.str (Str.ofString "copy"), PyData.int zi], PyData.tuple [PyData.str (Str.ofString "sign"), PyData.str (Str.ofString "")], PyData.tuple [PyData.str (Str.ofString "sign"), PyData.str (Str.ofString "ab")], PyData.tuple [PyData.str (Str.ofString "sign"), PyData.str (Str.ofString "A")], PyData.tuple [PyData.str (Str.ofString "sign"), PyData.int 1]] := da.app (.cons (.tup e_x13 nn_x13 (.cons (.str _) (.cons (.int _) (.nil)))) .nil)
    clear e_x13 nn_x13 ne_x13
    refine ⟨by rw [hS]; show 1 ≤ 16777216; decide, fun x14 hn => ?_⟩
    have t18 := Same.upd_new (o := .tup [V.str (Str.ofString "sign")]) hn
    have o18 : Off r _ _ := t18.off
    have e_x14 : (upd G17 x14 (.tup [V.str (Str.ofString "sign")])) x14 = some (.tup [V.str (Str.ofString "sign")]) := upd_same
    have nn_x14 := av_new av hn
    have ne_x14 := mem1 nn_x14
    have rl := rl.same t18
    clear hn
    try dsimp only
    generalize upd G17 x14 (.tup [V.str (Str.ofString "sign")]) = G18 at t18 o18 e_x14 rl
    have av := av.off o18 rl
    have e_a := o18 _ _ e_a ne_a
    have dus := dus.off (Off.offL o18 hm)
    have da := da.off (Off.offL o18 hm)
    have oac := oac.trans o18
    clear t18 o18
    have da : DxAll rs G18 [V.ref x0, V.ref x1, V.ref x2, V.ref x3, V.ref x4, V.ref x5, V.ref x6, V.ref x7, V.ref x8, V.ref x9, V.ref x10, V.ref x11, V.ref x12, V.ref x13, V.ref x14] [PyData.tuple [PyData.str (Str.ofString "copy"), PyData.int zi, PyData.int ((many : Int) - zi)], PyData.tuple [PyData.str (Str.ofString "copy"), PyData.int zi, PyData.int ((many : Int) - zi + 1)], PyData.tuple [PyData.str (Str.ofString "copy"), PyData.int (-1), PyData.int 1], PyData.tuple [PyData.str (Str.ofString "copy"), PyData.int 0, PyData.int 0], PyData.tuple [PyData.str (Str.ofString "copy"), PyData.int 0, PyData.int (-1)], PyData.tuple [PyData.str (Str.ofString "copy"), PyData.bool true, PyData.int 1], PyData.tuple [PyData.str (Str.ofString "copy"), PyData.int 0, PyData.bool true], PyData.tuple [PyData.str (Str.ofString "copy"), PyData.int ((10 : Int) ^ (40 : Int).toNat), PyData.int 1], PyData.tuple [PyData.str (Str.ofString "copy"), PyData.int 0, PyData.int ((10 : Int) ^ (40 : Int).toNat)], PyData.tuple [PyData.str (Str.ofString "copy"), PyData.int zi], PyData.tuple [PyData.str (Str.ofString "sign"), PyData.str (Str.ofString "")], PyData.tuple [PyData.str (Str.ofString "sign"), PyData.str (Str.ofString "ab")], PyData.tuple [PyData.str (Str.ofString "sign"), PyData.str (Str.ofString "A")], PyData.tuple [PyData.str (Str.ofString "sign"), PyData.int 1], PyData.tuple [PyData.str (Str.ofString "sign")]] := da.app (.cons (.tup e_x14 nn_x14 (.cons (.str _) (.nil))) .nil)
    clear e_x14 nn_x14 ne_x14
    refine ⟨by rw [hS]; show 3 ≤ 16777216; decide, fun x15 hn => ?_⟩
    have t19 := Same.upd_new (o := .tup [V.str (Str.ofString "sign"), V.str (Str.ofString "a"), V.int 1]) hn
    have o19 : Off r _ _ := t19.off
    have e_x15 : (upd G18 x15 (.tup [V.str (Str.ofString "sign"), V.str (Str.ofString "a"), V.int 1])) x15 = some (.tup [V.str (Str.ofString "sign"), V.str (Str.ofString "a"), V.int 1]) := upd_same
    have nn_x15 := av_new av hn
    have ne_x15 := mem1 nn_x15
    have rl := rl.same t19
    clear hn
    try dsimp only
    generalize upd G18 x15 (.tup [V.str (Str.ofString "sign"), V.str (Str.ofString "a"), V.int 1]) = G19 at t19 o19 e_x15 rl
    have av := av.off o19 rl
    have e_a := o19 _ _ e_a ne_a
    have dus := dus.off (Off.offL o19 hm)
    have da := da.off (Off.offL o19 hm)
    have oac := oac.trans o19
    clear t19 o19
    have da : DxAll rs G19 [V.ref x0, V.ref x1, V.ref x2, V.ref x3, V.ref x4, V.ref x5, V.ref x6, V.ref x7, V.ref x8, V.ref x9, V.ref x10, V.ref x11, V.ref x12, V.ref x13, V.ref x14, V.ref x15] [PyData.tuple [PyData.str (Str.ofString "copy"), PyData.int zi, PyData.int ((many : Int) - zi)], PyData.tuple [PyData.str (Str.ofString "copy"), PyData.int zi, PyData.int ((many : Int) - zi + 1)], PyData.tuple [PyData.str (Str.ofString "copy"), PyData.int (-1), PyData.int 1], PyData.tuple [PyData.str (Str.ofString "copy"), PyData.int 0, PyData.int 0], PyData.tuple [PyData.str (Str.ofString "copy"), PyData.int 0, PyData.int (-1)], PyData.tuple [PyData.str (Str.ofString "copy"), PyData.bool true, PyData.int 1], PyData.tuple [PyData.str (Str.ofString "copy"), PyData.int 0, PyData.bool true], PyData.tuple [PyData.str (Str.ofString "copy"), PyData.int ((10 : Int) ^ (40 : Int).toNat), PyData.int 1], PyData.tuple [PyData.str (Str.ofString "copy"), PyData.int 0, PyData.int ((10 : Int) ^ (40 : Int).toNat)], PyData.tuple [PyData.str (Str.ofString "copy"), PyData.int zi], PyData.tuple [PyData.str (Str.ofString "sign"), PyData.str (Str.ofString "")], PyData.tuple [PyData.str (Str.ofString "sign"), PyData.str (Str.ofString "ab")], PyData.tuple [PyData.str (Str.ofString "sign"), PyData.str (Str.ofString "A")], PyData.tuple [PyData.str (Str.ofString "sign"), PyData.int 1], PyData.tuple [PyData.str (Str.ofString "sign")], PyData.tuple [PyData.str (Str.ofString "sign"), PyData.str (Str.ofString "a"), PyData.int 1]] := da.app (.cons (.tup e_x15 nn_x15 (.cons (.str _) (.cons (.str _) (.cons (.int _) (.nil))))) .nil)
    clear e_x15 nn_x15 ne_x15
    refine ⟨by rw [hS]; show 2 ≤ 16777216; decide, fun x16 hn => ?_⟩
    have t20 := Same.upd_new (o := .tup [V.str (Str.ofString "SIGN"), V.str (Str.ofString "a")]) hn
    have o20 : Off r _ _ := t20.off
    have e_x16 : (upd G19 x16 (.tup [V.str (Str.ofString "SIGN"), V.str (Str.ofString "a")])) x16 = some (.tup [V.str (Str.ofString "SIGN"), V.str (Str.ofString "a")]) := upd_same
    have nn_x16 := av_new av hn
    have ne_x16 := mem1 nn_x16
    have rl := rl.same t20
    clear hn
    try dsimp only
    generalize upd G19 x16 (.tup [V.str (Str.ofString "SIGN"), V.str (Str.ofString "a")]) = G20 at t20 o20 e_x16 rl
    have av := av.off o20 rl
    have e_a := o20 _ _ e_a ne_a
    have dus := dus.off (Off.offL o20 hm)
    have da := da.off (Off.offL o20 hm)
    have oac := oac.trans o20
    clear t20 o20
    have da : DxAll rs G20 [V.ref x0, V.ref x1, V.ref x2, V.ref x3, V.ref x4, V.ref x5, V.ref x6, V.ref x7, V.ref x8, V.ref x9, V.ref x10, V.ref x11, V.ref x12, V.ref x13, V.ref x14, V.ref x15, V.ref x16] [PyData.tuple [PyData.str (Str.ofString "copy"), PyData.int zi, PyData.int ((many : Int) - zi)], PyData.tuple [PyData.str (Str.ofString "copy"), PyData.int zi, PyData.int ((many : Int) - zi + 1)], PyData.tuple [PyData.str (Str.ofString "copy"), PyData.int (-1), PyData.int 1], PyData.tuple [PyData.str (Str.ofString "copy"), PyData.int 0, PyData.int 0], PyData.tuple [PyData.str (Str.ofString "copy"), PyData.int 0, PyData.int (-1)], PyData.tuple [PyData.str (Str.ofString "copy"), PyData.bool true, PyData.int 1], PyData.tuple [PyData.str (Str.ofString "copy"), PyData.int 0, PyData.bool true], PyData.tuple [PyData.str (Str.ofString "copy"), PyData.int ((10 : Int) ^ (40 : Int).toNat), PyData.int 1], PyData.tuple [PyData.str (Str.ofString "copy"), PyData.int 0, PyData.int ((10 : Int) ^ (40 : Int).toNat)], PyData.tuple [PyData.str (Str.ofString "copy"), PyData.int zi], PyData.tuple [PyData.str (Str.ofString "sign"), PyData.str (Str.ofString "")], PyData.tuple [PyData.str (Str.ofString "sign"), PyData.str (Str.ofString "ab")], PyData.tuple [PyData.str (Str.ofString "sign"), PyData.str (Str.ofString "A")], PyData.tuple [PyData.str (Str.ofString "sign"), PyData.int 1], PyData.tuple [PyData.str (Str.ofString "sign")], PyData.tuple [PyData.str (Str.ofString "sign"), PyData.str (Str.ofString "a"), PyData.int 1], PyData.tuple [PyData.str (Str.ofString "SIGN"), PyData.str (Str.ofString "a")]] := da.app (.cons (.tup e_x16 nn_x16 (.cons (.str _) (.cons (.str _) (.nil)))) .nil)
    clear e_x16 nn_x16 ne_x16
    refine ⟨by rw [hS]; show 2 ≤ 16777216; decide, fun x17 hn => ?_⟩
    have t21 := Same.upd_new (o := .lst [V.str (Str.ofString "sign"), V.str (Str.ofString "a")]) hn
    have o21 : Off r _ _ := t21.off
    have e_x17 : (upd G20 x17 (.lst [V.str (Str.ofString "sign"), V.str (Str.ofString "a")])) x17 = some (.lst [V.str (Str.ofString "sign"), V.str (Str.ofString "a")]) := upd_same
    have nn_x17 := av_new av hn
    have ne_x17 := mem1 nn_x17
    have rl := rl.same t21
    clear hn
    try dsimp only
    generalize upd G20 x17 (.lst [V.str (Str.ofString "sign"), V.str (Str.ofString "a")]) = G21 at t21 o21 e_x17 rl
    have av := av.off o21 rl
    have e_a := o21 _ _ e_a ne_a
    have dus := dus.off (Off.offL o21 hm)
    have da := da.off (Off.offL o21 hm)
    have oac := oac.trans o21
    clear t21 o21
    have da : DxAll rs G21 [V.ref x0, V.ref x1, V.ref x2, V.ref x3, V.ref x4, V.ref x5, V.ref x6, V.ref x7, V.ref x8, V.ref x9, V.ref x10, V.ref x11, V.ref x12, V.ref x13, V.ref x14, V.ref x15, V.ref x16, V.ref x17] [PyData.tuple [PyData.str (Str.ofString "copy"), PyData.int zi, PyData.int ((many : Int) - zi)], PyData.tuple [PyData.str (Str.ofString "copy"), PyData.int zi, PyData.int ((many : Int) - zi + 1)], PyData.tuple [PyData.str (Str.ofString "copy"), PyData.int (-1), PyData.int 1], PyData.tuple [PyData.str (Str.ofString "copy"), PyData.int 0, PyData.int 0], PyData.tuple [PyData.str (Str.ofString "copy"), PyData.int 0, PyData.int (-1)], PyData.tuple [PyData.str (Str.ofString "copy"), PyData.bool true, PyData.int 1], PyData.tuple [PyData.str (Str.ofString "copy"), PyData.int 0, PyData.bool true], PyData.tuple [PyData.str (Str.ofString "copy"), PyData.int ((10 : Int) ^ (40 : Int).toNat), PyData.int 1], PyData.tuple [PyData.str (Str.ofString "copy"), PyData.int 0, PyData.int ((10 : Int) ^ (40 : Int).toNat)], PyData.tuple [PyData.str (Str.ofString "copy"), PyData.int zi], PyData.tuple [PyData.str (Str.ofString "sign"), PyData.str (Str.ofString "")], PyData.tuple [PyData.str (Str.ofString "sign"), PyData.str (Str.ofString "ab")], PyData.tuple [PyData.str (Str.ofString "sign"), PyData.str (Str.ofString "A")], PyData.tuple [PyData.str (Str.ofString "sign"), PyData.int 1], PyData.tuple [PyData.str (Str.ofString "sign")], PyData.tuple [PyData.str (Str.ofString "sign"), PyData.str (Str.ofString "a"), PyData.int 1], PyData.tuple [PyData.str (Str.ofString "SIGN"), PyData.str (Str.ofString "a")], PyData.list [PyData.str (Str.ofString "sign"), PyData.str (Str.ofString "a")]] := da.app (.cons (.lst e_x17 nn_x17 (.cons (.str _) (.cons (.str _) (.nil)))) .nil)
    clear e_x17 nn_x17 ne_x17
    have da : DxAll rs G21 [V.ref x0, V.ref x1, V.ref x2, V.ref x3, V.ref x4, V.ref x5, V.ref x6, V.ref x7, V.ref x8, V.ref x9, V.ref x10, V.ref x11, V.ref x12, V.ref x13, V.ref x14, V.ref x15, V.ref x16, V.ref x17, V.non] [PyData.tuple [PyData.str (Str.ofString "copy"), PyData.int zi, PyData.int ((many : Int) - zi)], PyData.tuple [PyData.str (Str.ofString "copy"), PyData.int zi, PyData.int ((many : Int) - zi + 1)], PyData.tuple [PyData.str (Str.ofString "copy"), PyData.int (-1), PyData.int 1], PyData.tuple [PyData.str (Str.ofString "copy"), PyData.int 0, PyData.int 0], PyData.tuple [PyData.str (Str.ofString "copy"), PyData.int 0, PyData.int (-1)], PyData.tuple [PyData.str (Str.ofString "copy"), PyData.bool true, PyData.int 1], PyData.tuple [PyData.str (Str.ofString "copy"), PyData.int 0, PyData.bool true], PyData.tuple [PyData.str (Str.ofString "copy"), PyData.int ((10 : Int) ^ (40 : Int).toNat), PyData.int 1], PyData.tuple [PyData.str (Str.ofString "copy"), PyData.int 0, PyData.int ((10 : Int) ^ (40 : Int).toNat)], PyData.tuple [PyData.str (Str.ofString "copy"), PyData.int zi], PyData.tuple [PyData.str (Str.ofString "sign"), PyData.str (Str.ofString "")], PyData.tuple [PyData.str (Str.ofString "sign"), PyData.str (Str.ofString "ab")], PyData.tuple [PyData.str (Str.ofString "sign"), PyData.str (Str.ofString "A")], PyData.tuple [PyData.str (Str.ofString "sign"), PyData.int 1], PyData.tuple [PyData.str (Str.ofString "sign")], PyData.tuple [PyData.str (Str.ofString "sign"), PyData.str (Str.ofString "a"), PyData.int 1], PyData.tuple [PyData.str (Str.ofString "SIGN"), PyData.str (Str.ofString "a")], PyData.list [PyData.str (Str.ofString "sign"), PyData.str (Str.ofString "a")], PyData.none] := da.app (.cons .non .nil)
    refine ⟨by rw [hS]; show 0 ≤ 16777216; decide, fun x19 hn => ?_⟩
    have t22 := Same.upd_new (o := .tup []) hn
    have o22 : Off r _ _ := t22.off
    have e_x19 : (upd G21 x19 (.tup [])) x19 = some (.tup []) := upd_same
    have nn_x19 := av_new av hn
    have ne_x19 := mem1 nn_x19
    have rl := rl.same t22
    clear hn
    try dsimp only
    generalize upd G21 x19 (.tup []) = G22 at t22 o22 e_x19 rl
    have av := av.off o22 rl
    have e_a := o22 _ _ e_a ne_a
    have dus := dus.off (Off.offL o22 hm)
    have da := da.off (Off.offL o22 hm)
    have oac := oac.trans o22
    clear t22 o22
    have da : DxAll rs G22 [V.ref x0, V.ref x1, V.ref x2, V.ref x3, V.ref x4, V.ref x5, V.ref x6, V.ref x7, V.ref x8, V.ref x9, V.ref x10, V.ref x11, V.ref x12, V.ref x13, V.ref x14, V.ref x15, V.ref x16, V.ref x17, V.non, V.ref x19] [PyData.tuple [PyData.str (Str.ofString "copy"), PyData.int zi, PyData.int ((many : Int) - zi)], PyData.tuple [PyData.str (Str.ofString "copy"), PyData.int zi, PyData.int ((many : Int) - zi + 1)], PyData.tuple [PyData.str (Str.ofString "copy"), PyData.int (-1), PyData.int 1], PyData.tuple [PyData.str (Str.ofString "copy"), PyData.int 0, PyData.int 0], PyData.tuple [PyData.str (Str.ofString "copy"), PyData.int 0, PyData.int (-1)], PyData.tuple [PyData.str (Str.ofString "copy"), PyData.bool true, PyData.int 1], PyData.tuple [PyData.str (Str.ofString "copy"), PyData.int 0, PyData.bool true], PyData.tuple [PyData.str (Str.ofString "copy"), PyData.int ((10 : Int) ^ (40 : Int).toNat), PyData.int 1], PyData.tuple [PyData.str (Str.ofString "copy"), PyData.int 0, PyData.int ((10 : Int) ^ (40 : Int).toNat)], PyData.tuple [PyData.str (Str.ofString "copy"), PyData.int zi], PyData.tuple [PyData.str (Str.ofString "sign"), PyData.str (Str.ofString "")], PyData.tuple [PyData.str (Str.ofString "sign"), PyData.str (Str.ofString "ab")], PyData.tuple [PyData.str (Str.ofString "sign"), PyData.str (Str.ofString "A")], PyData.tuple [PyData.str (Str.ofString "sign"), PyData.int 1], PyData.tuple [PyData.str (Str.ofString "sign")], PyData.tuple [PyData.str (Str.ofString "sign"), PyData.str (Str.ofString "a"), PyData.int 1], PyData.tuple [PyData.str (Str.ofString "SIGN"), PyData.str (Str.ofString "a")], PyData.list [PyData.str (Str.ofString "sign"), PyData.str (Str.ofString "a")], PyData.none, PyData.tuple []] := da.app (.cons (.tup e_x19 nn_x19 (.nil)) .nil)
    clear e_x19 nn_x19 ne_x19
    refine ⟨by rw [hS]; show 3 ≤ 16777216; decide, fun x20 hn => ?_⟩
    have t23 := Same.upd_new (o := .tup [V.str (Str.ofString "copy"), V.str (Str.ofString "0"), V.int 1]) hn
    have o23 : Off r _ _ := t23.off
    have e_x20 : (upd G22 x20 (.tup [V.str (Str.ofString "copy"), V.str (Str.ofString "0"), V.int 1])) x20 = some (.tup [V.str (Str.ofString "copy"), V.str (Str.ofString "0"), V.int 1]) := upd_same
    have nn_x20 := av_new av hn
    have ne_x20 := mem1 nn_x20
    have rl := rl.same t23
    clear hn
    try dsimp only
    generalize upd G22 x20 (.tup [V.str (Str.ofString "copy"), V.str (Str.ofString "0"), V.int 1]) = G23 at t23 o23 e_x20 rl
    have av := av.off o23 rl
    have e_a := o23 _ _ e_a ne_a
    have dus := dus.off (Off.offL o23 hm)
    have da := da.off (Off.offL o23 hm)
    have oac := oac.trans o23
    clear t23 o23
    have da : DxAll rs G23 [V.ref x0, V.ref x1, V.ref x2, V.ref x3, V.ref x4, V.ref x5, V.ref x6, V.ref x7, V.ref x8, V.ref x9, V.ref x10, V.ref x11, V.ref x12, V.ref x13, V.ref x14, V.ref x15, V.ref x16, V.ref x17, V.non, V.ref x19, V.ref x20] [PyData.tuple [PyData.str (Str.ofString "copy"), PyData.int zi, PyData.int ((many : Int) - zi)], PyData.tuple [PyData.str (Str.ofString "copy"), PyData.int zi, PyData.int ((many : Int) - zi + 1)], PyData.tuple [PyData.str (Str.ofString "copy"), PyData.int (-1), PyData.int 1], PyData.tuple [PyData.str (Str.ofString "copy"), PyData.int 0, PyData.int 0], PyData.tuple [PyData.str (Str.ofString "copy"), PyData.int 0, PyData.int (-1)], PyData.tuple [PyData.str (Str.ofString "copy"), PyData.bool true, PyData.int 1], PyData.tuple [PyData.str (Str.ofString "copy"), PyData.int 0, PyData.bool true], PyData.tuple [PyData.str (Str.ofString "copy"), PyData.int ((10 : Int) ^ (40 : Int).toNat), PyData.int 1], PyData.tuple [PyData.str (Str.ofString "copy"), PyData.int 0, PyData.int ((10 : Int) ^ (40 : Int).toNat)], PyData.tuple [PyData.str (Str.ofString "copy"), PyData.int zi], PyData.tuple [PyData.str (Str.ofString "sign"), PyData.str (Str.ofString "")], PyData.tuple [PyData.str (Str.ofString "sign"), PyData.str (Str.ofString "ab")], PyData.tuple [PyData.str (Str.ofString "sign"), PyData.str (Str.ofString "A")], PyData.tuple [PyData.str (Str.ofString "sign"), PyData.int 1], PyData.tuple [PyData.str (Str.ofString "sign")], PyData.tuple [PyData.str (Str.ofString "sign"), PyData.str (Str.ofString "a"), PyData.int 1], PyData.tuple [PyData.str (Str.ofString "SIGN"), PyData.str (Str.ofString "a")], PyData.list [PyData.str (Str.ofString "sign"), PyData.str (Str.ofString "a")], PyData.none, PyData.tuple [], PyData.tuple [PyData.str (Str.ofString "copy"), PyData.str (Str.ofString "0"), PyData.int 1]] := da.app (.cons (.tup e_x20 nn_x20 (.cons (.str _) (.cons (.str _) (.cons (.int _) (.nil))))) .nil)
    clear e_x20 nn_x20 ne_x20
    refine ⟨by rw [hS]; show 2 ≤ 16777216; decide, fun x21 hn => ?_⟩
    have t24 := Same.upd_new (o := .tup [V.int 0, V.str (Str.ofString "a")]) hn
    have o24 : Off r _ _ := t24.off
    have e_x21 : (upd G23 x21 (.tup [V.int 0, V.str (Str.ofString "a")])) x21 = some (.tup [V.int 0, V.str (Str.ofString "a")]) := upd_same
    have nn_x21 := av_new av hn
    have ne_x21 := mem1 nn_x21
    have rl := rl.same t24
    clear hn
    try dsimp only
    generalize upd G23 x21 (.tup [V.int 0, V.str (Str.ofString "a")]) = G24 at t24 o24 e_x21 rl
    have av := av.off o24 rl
    have e_a := o24 _ _ e_a ne_a
    have dus := dus.off (Off.offL o24 hm)
    have da := da.off (Off.offL o24 hm)
    have oac := oac.trans o24
    clear t24 o24
    have da : DxAll rs G24 [V.ref x0, V.ref x1, V.ref x2, V.ref x3, V.ref x4, V.ref x5, V.ref x6, V.ref x7, V.ref x8, V.ref x9, V.ref x10, V.ref x11, V.ref x12, V.ref x13, V.ref x14, V.ref x15, V.ref x16, V.ref x17, V.non, V.ref x19, V.ref x20, V.ref x21] [PyData.tuple [PyData.str (Str.ofString "copy"), PyData.int zi, PyData.int ((many : Int) - zi)], PyData.tuple [PyData.str (Str.ofString "copy"), PyData.int zi, PyData.int ((many : Int) - zi + 1)], PyData.tuple [PyData.str (Str.ofString "copy"), PyData.int (-1), PyData.int 1], PyData.tuple [PyData.str (Str.ofString "copy"), PyData.int 0, PyData.int 0], PyData.tuple [PyData.str (Str.ofString "copy"), PyData.int 0, PyData.int (-1)], PyData.tuple [PyData.str (Str.ofString "copy"), PyData.bool true, PyData.int 1], PyData.tuple [PyData.str (Str.ofString "copy"), PyData.int 0, PyData.bool true], PyData.tuple [PyData.str (Str.ofString "copy"), PyData.int ((10 : Int) ^ (40 : Int).toNat), PyData.int 1], PyData.tuple [PyData.str (Str.ofString "copy"), PyData.int 0, PyData.int ((10 : Int) ^ (40 : Int).toNat)], PyData.tuple [PyData.str (Str.ofString "copy"), PyData.int zi], PyData.tuple [PyData.str (Str.ofString "sign"), PyData.str (Str.ofString "")], PyData.tuple [PyData.str (Str.ofString "sign"), PyData.str (Str.ofString "ab")], PyData.tuple [PyData.str (Str.ofString "sign"), PyData.str (Str.ofString "A")], PyData.tuple [PyData.str (Str.ofString "sign"), PyData.int 1], PyData.tuple [PyData.str (Str.ofString "sign")], PyData.tuple [PyData.str (Str.ofString "sign"), PyData.str (Str.ofString "a"), PyData.int 1], PyData.tuple [PyData.str (Str.ofString "SIGN"), PyData.str (Str.ofString "a")], PyData.list [PyData.str (Str.ofString "sign"), PyData.str (Str.ofString "a")], PyData.none, PyData.tuple [], PyData.tuple [PyData.str (Str.ofString "copy"), PyData.str (Str.ofString "0"), PyData.int 1], PyData.tuple [PyData.int 0, PyData.str (Str.ofString "a")]] := da.app (.cons (.tup e_x21 nn_x21 (.cons (.int _) (.cons (.str _) (.nil)))) .nil)
    clear e_x21 nn_x21 ne_x21
    refine ⟨by rw [hS]; show 2 ≤ 16777216; decide, fun x22 hn => ?_⟩
    have t25 := Same.upd_new (o := .tup [V.str (Str.ofString "sign"), V.str (Str.ofString "{")]) hn
    have o25 : Off r _ _ := t25.off
    have e_x22 : (upd G24 x22 (.tup [V.str (Str.ofString "sign"), V.str (Str.ofString "{")])) x22 = some (.tup [V.str (Str.ofString "sign"), V.str (Str.ofString "{")]) := upd_same
    have nn_x22 := av_new av hn
    have ne_x22 := mem1 nn_x22
    have rl := rl.same t25
    clear hn
    try dsimp only
    generalize upd G24 x22 (.tup [V.str (Str.ofString "sign"), V.str (Str.ofString "{")]) = G25 at t25 o25 e_x22 rl
    have av := av.off o25 rl
    have e_a := o25 _ _ e_a ne_a
    have dus := dus.off (Off.offL o25 hm)
    have da := da.off (Off.offL o25 hm)
    have oac := oac.trans o25
    clear t25 o25
    have da : DxAll rs G25 [V.ref x0, V.ref x1, V.ref x2, V.ref x3, V.ref x4, V.ref x5, V.ref x6, V.ref x7, V.ref x8, V.ref x9, V.ref x10, V.ref x11, V.ref x12, V.ref x13, V.ref x14, V.ref x15, V.ref x16, V.ref x17, V.non, V.ref x19, V.ref x20, V.ref x21, V.ref x22] [PyData.tuple [PyData.str (Str.ofString "copy"), PyData.int zi, PyData.int ((many : Int) - zi)], PyData.tuple [PyData.str (Str.ofString "copy"), PyData.int zi, PyData.int ((many : Int) - zi + 1)], PyData.tuple [PyData.str (Str.ofString "copy"), PyData.int (-1), PyData.int 1], PyData.tuple [PyData.str (Str.ofString "copy"), PyData.int 0, PyData.int 0], PyData.tuple [PyData.str (Str.ofString "copy"), PyData.int 0, PyData.int (-1)], PyData.tuple [PyData.str (Str.ofString "copy"), PyData.bool true, PyData.int 1], PyData.tuple [PyData.str (Str.ofString "copy"), PyData.int 0, PyData.bool true], PyData.tuple [PyData.str (Str.ofString "copy"), PyData.int ((10 : Int) ^ (40 : Int).toNat), PyData.int 1], PyData.tuple [PyData.str (Str.ofString "copy"), PyData.int 0, PyData.int ((10 : Int) ^ (40 : Int).toNat)], PyData.tuple [PyData.str (Str.ofString "copy"), PyData.int zi], PyData.tuple [PyData.str (Str.ofString "sign"), PyData.str (Str.ofString "")], PyData.tuple [PyData.str (Str.ofString "sign"), PyData.str (Str.ofString "ab")], PyData.tuple [PyData.str (Str.ofString "sign"), PyData.str (Str.ofString "A")], PyData.tuple [PyData.str (Str.ofString "sign"), PyData.int 1], PyData.tuple [PyData.str (Str.ofString "sign")], PyData.tuple [PyData.str (Str.ofString "sign"), PyData.str (Str.ofString "a"), PyData.int 1], PyData.tuple [PyData.str (Str.ofString "SIGN"), PyData.str (Str.ofString "a")], PyData.list [PyData.str (Str.ofString "sign"), PyData.str (Str.ofString "a")], PyData.none, PyData.tuple [], PyData.tuple [PyData.str (Str.ofString "copy"), PyData.str (Str.ofString "0"), PyData.int 1], PyData.tuple [PyData.int 0, PyData.str (Str.ofString "a")], PyData.tuple [PyData.str (Str.ofString "sign"), PyData.str (Str.ofString "{")]] := da.app (.cons (.tup e_x22 nn_x22 (.cons (.str _) (.cons (.str _) (.nil)))) .nil)
    clear e_x22 nn_x22 ne_x22
    refine ⟨_, rfl, by rw [hS]; show 3 ≤ 16777216; decide, fun x23 hn => ?_⟩
    have t26 := Same.upd_new (o := .tup [V.str (Str.ofString "copy"), V.int zi, V.int 300]) hn
    have o26 : Off r _ _ := t26.off
    have e_x23 : (upd G25 x23 (.tup [V.str (Str.ofString "copy"), V.int zi, V.int 300])) x23 = some (.tup [V.str (Str.ofString "copy"), V.int zi, V.int 300]) := upd_same
    have nn_x23 := av_new av hn
    have ne_x23 := mem1 nn_x23
    have rl := rl.same t26
    clear hn
    try dsimp only
    generalize upd G25 x23 (.tup [V.str (Str.ofString "copy"), V.int zi, V.int 300]) = G26 at t26 o26 e_x23 rl
    have av := av.off o26 rl
    have e_a := o26 _ _ e_a ne_a
    have dus := dus.off (Off.offL o26 hm)
    have da := da.off (Off.offL o26 hm)
    have oac := oac.trans o26
    clear t26 o26
    have da : DxAll rs G26 [V.ref x0, V.ref x1, V.ref x2, V.ref x3, V.ref x4, V.ref x5, V.ref x6, V.ref x7, V.ref x8, V.ref x9, V.ref x10, V.ref x11, V.ref x12, V.ref x13, V.ref x14, V.ref x15, V.ref x16, V.ref x17, V.non, V.ref x19, V.ref x20, V.ref x21, V.ref x22, V.ref x23] [PyData.tuple [PyData.str (Str.ofString "copy"), PyData.int zi, PyData.int ((many : Int) - zi)], PyData.tuple [PyData.str (Str.ofString "copy"), PyData.int zi, PyData.int ((many : Int) - zi + 1)], PyData.tuple [PyData.str (Str.ofString "copy"), PyData.int (-1), PyData.int 1], PyData.tuple [PyData.str (Str.ofString "copy"), PyData.int 0, PyData.int 0], PyData.tuple [PyData.str (Str.ofString "copy"), PyData.int 0, PyData.int (-1)], PyData.tuple [PyData.str (Str.ofString "copy"), PyData.bool true, PyData.int 1], PyData.tuple [PyData.str (Str.ofString "copy"), PyData.int 0, PyData.bool true], PyData.tuple [PyData.str (Str.ofString "copy"), PyData.int ((10 : Int) ^ (40 : Int).toNat), PyData.int 1], PyData.tuple [PyData.str (Str.ofString "copy"), PyData.int 0, PyData.int ((10 : Int) ^ (40 : Int).toNat)], PyData.tuple [PyData.str (Str.ofString "copy"), PyData.int zi], PyData.tuple [PyData.str (Str.ofString "sign"), PyData.str (Str.ofString "")], PyData.tuple [PyData.str (Str.ofString "sign"), PyData.str (Str.ofString "ab")], PyData.tuple [PyData.str (Str.ofString "sign"), PyData.str (Str.ofString "A")], PyData.tuple [PyData.str (Str.ofString "sign"), PyData.int 1], PyData.tuple [PyData.str (Str.ofString "sign")], PyData.tuple [PyData.str (Str.ofString "sign"), PyData.str (Str.ofString "a"), PyData.int 1], PyData.tuple [PyData.str (Str.ofString "SIGN"), PyData.str (Str.ofString "a")], PyData.list [PyData.str (Str.ofString "sign"), PyData.str (Str.ofString "a")], PyData.none, PyData.tuple [], PyData.tuple [PyData.str (Str.ofString "copy"), PyData.str (Str.ofString "0"), PyData.int 1], PyData.tuple [PyData.int 0, PyData.str (Str.ofString "a")], PyData.tuple [PyData.str (Str.ofString "sign"), PyData.str (Str.ofString "{")], PyData.tuple [PyData.str (Str.ofString "copy"), PyData.int zi, PyData.int 300]] := da.app (.cons (.tup e_x23 nn_x23 (.cons (.str _) (.cons (.int _) (.cons (.int _) (.nil))))) .nil)
    clear e_x23 nn_x23 ne_x23
    refine ⟨by rw [hS]; show 24 ≤ 16777216; decide, fun l1 hn => ?_⟩
    have t27 := Same.upd_new (o := .lst [V.ref x0, V.ref x1, V.ref x2, V.ref x3, V.ref x4, V.ref x5, V.ref x6, V.ref x7, V.ref x8, V.ref x9, V.ref x10, V.ref x11, V.ref x12, V.ref x13, V.ref x14, V.ref x15, V.ref x16, V.ref x17, V.non, V.ref x19, V.ref x20, V.ref x21, V.ref x22, V.ref x23]) hn
    have o27 : Off r _ _ := t27.off
    have e_l1 : (upd G26 l1 (.lst [V.ref x0, V.ref x1, V.ref x2, V.ref x3, V.ref x4, V.ref x5, V.ref x6, V.ref x7, V.ref x8, V.ref x9, V.ref x10, V.ref x11, V.ref x12, V.ref x13, V.ref x14, V.ref x15, V.ref x16, V.ref x17, V.non, V.ref x19, V.ref x20, V.ref x21, V.ref x22, V.ref x23])) l1 = some (.lst [V.ref x0, V.ref x1, V.ref x2, V.ref x3, V.ref x4, V.ref x5, V.ref x6, V.ref x7, V.ref x8, V.ref x9, V.ref x10, V.ref x11, V.ref x12, V.ref x13, V.ref x14, V.ref x15, V.ref x16, V.ref x17, V.non, V.ref x19, V.ref x20, V.ref x21, V.ref x22, V.ref x23]) := upd_same
    have nn_l1 := av_new av hn
    have ne_l1 := mem1 nn_l1
    have rl := rl.same t27
    clear hn
    try dsimp only
    generalize upd G26 l1 (.lst [V.ref x0, V.ref x1, V.ref x2, V.ref x3, V.ref x4, V.ref x5, V.ref x6, V.ref x7, V.ref x8, V.ref x9, V.ref x10, V.ref x11, V.ref x12, V.ref x13, V.ref x14, V.ref x15, V.ref x16, V.ref x17, V.non, V.ref x19, V.ref x20, V.ref x21, V.ref x22, V.ref x23]) = G27 at t27 o27 e_l1 rl
    have av := av.off o27 rl
    have e_a := o27 _ _ e_a ne_a
    have dus := dus.off (Off.offL o27 hm)
    have da := da.off (Off.offL o27 hm)
    have oac := oac.trans o27
    clear t27 o27
    try dsimp only
    refine ⟨_, rfl, by rw [hS]; show 1 ≤ 16777216; decide, fun y0 hn => ?_⟩
    have t28 := Same.upd_new (o := .lst [V.str (Str.ofString "sign")]) hn
    have o28 : Off r _ _ := t28.off
    have e_y0 : (upd G27 y0 (.lst [V.str (Str.ofString "sign")])) y0 = some (.lst [V.str (Str.ofString "sign")]) := upd_same
    have nn_y0 := av_new av hn
    have ne_y0 := mem1 nn_y0
    have rl := rl.same t28
    clear hn
    try dsimp only
    generalize upd G27 y0 (.lst [V.str (Str.ofString "sign")]) = G28 at t28 o28 e_y0 rl
    have av := av.off o28 rl
    have e_a := o28 _ _ e_a ne_a
    have e_l1 := o28 _ _ e_l1 ne_l1
    have dus := dus.off (Off.offL o28 hm)
    have da := da.off (Off.offL o28 hm)
    have oac := oac.trans o28
    clear t28 o28
    refine ⟨by rw [hS]; show 2 ≤ 16777216; decide, fun z0 hn => ?_⟩
    have t29 := Same.upd_new (o := .tup [V.ref y0, V.str (Str.ofString "a")]) hn
    have o29 : Off r _ _ := t29.off
    have e_z0 : (upd G28 z0 (.tup [V.ref y0, V.str (Str.ofString "a")])) z0 = some (.tup [V.ref y0, V.str (Str.ofString "a")]) := upd_same
    have nn_z0 := av_new av hn
    have ne_z0 := mem1 nn_z0
    have rl := rl.same t29
    clear hn
    try dsimp only
    generalize upd G28 z0 (.tup [V.ref y0, V.str (Str.ofString "a")]) = G29 at t29 o29 e_z0 rl
    have av := av.off o29 rl
    have e_a := o29 _ _ e_a ne_a
    have e_l1 := o29 _ _ e_l1 ne_l1
    have e_y0 := o29 _ _ e_y0 ne_y0
    have dus := dus.off (Off.offL o29 hm)
    have da := da.off (Off.offL o29 hm)
    have oac := oac.trans o29
    clear t29 o29
    have db : DxAll rs G29 [V.ref z0] [PyData.tuple [PyData.list [PyData.str (Str.ofString "sign")], PyData.str (Str.ofString "a")]] := .cons (.tup e_z0 nn_z0 (.cons (.lst e_y0 nn_y0 (.cons (.str _) (.nil))) (.cons (.str _) (.nil)))) .nil
    refine ⟨by rw [hS]; show 1 ≤ 16777216; decide, fun y1 hn => ?_⟩
    have t30 := Same.upd_new (o := .lst [V.int 0]) hn
    have o30 : Off r _ _ := t30.off
    have e_y1 : (upd G29 y1 (.lst [V.int 0])) y1 = some (.lst [V.int 0]) := upd_same
    have nn_y1 := av_new av hn
    have ne_y1 := mem1 nn_y1
    have rl := rl.same t30
    clear hn
    try dsimp only
    generalize upd G29 y1 (.lst [V.int 0]) = G30 at t30 o30 e_y1 rl
    have av := av.off o30 rl
    have e_a := o30 _ _ e_a ne_a
    have e_l1 := o30 _ _ e_l1 ne_l1
    have e_y0 := o30 _ _ e_y0 ne_y0
    have e_z0 := o30 _ _ e_z0 ne_z0
    have dus := dus.off (Off.offL o30 hm)
    have da := da.off (Off.offL o30 hm)
    have db := db.off (Off.offL o30 hm)
    have oac := oac.trans o30
    clear t30 o30
    refine ⟨by rw [hS]; show 3 ≤ 16777216; decide, fun z1 hn => ?_⟩
    have t31 := Same.upd_new (o := .tup [V.str (Str.ofString "copy"), V.ref y1, V.int 1]) hn
    have o31 : Off r _ _ := t31.off
    have e_z1 : (upd G30 z1 (.tup [V.str (Str.ofString "copy"), V.ref y1, V.int 1])) z1 = some (.tup [V.str (Str.ofString "copy"), V.ref y1, V.int 1]) := upd_same
    have nn_z1 := av_new av hn
    have ne_z1 := mem1 nn_z1
    have rl := rl.same t31
    clear hn
    try dsimp only
    generalize upd G30 z1 (.tup [V.str (Str.ofString "copy"), V.ref y1, V.int 1]) = G31 at t31 o31 e_z1 rl
    have av := av.off o31 rl
    have e_a := o31 _ _ e_a ne_a
    have e_l1 := o31 _ _ e_l1 ne_l1
    have e_y0 := o31 _ _ e_y0 ne_y0
    have e_z0 := o31 _ _ e_z0 ne_z0
    have e_y1 := o31 _ _ e_y1 ne_y1
    have dus := dus.off (Off.offL o31 hm)
    have da := da.off (Off.offL o31 hm)
    have db := db.off (Off.offL o31 hm)
    have oac := oac.trans o31
    clear t31 o31
    have db : DxAll rs G31 [V.ref z0, V.ref z1] [PyData.tuple [PyData.list [PyData.str (Str.ofString "sign")], PyData.str (Str.ofString "a")], PyData.tuple [PyData.str (Str.ofString "copy"), PyData.list [PyData.int 0], PyData.int 1]] := db.app (.cons (.tup e_z1 nn_z1 (.cons (.str _) (.cons (.lst e_y1 nn_y1 (.cons (.int _) (.nil))) (.cons (.int _) (.nil))))) .nil)
    refine ⟨by rw [hS]; show 1 ≤ 16777216; decide, fun y2 hn => ?_⟩
    have t32 := Same.upd_new (o := .lst [V.str (Str.ofString "a")]) hn
    have o32 : Off r _ _ := t32.off
    have e_y2 : (upd G31 y2 (.lst [V.str (Str.ofString "a")])) y2 = some (.lst [V.str (Str.ofString "a")]) := upd_same
    have nn_y2 := av_new av hn
    have ne_y2 := mem1 nn_y2
    have rl := rl.same t32
    clear hn
    try dsimp only
    generalize upd G31 y2 (.lst [V.str (Str.ofString "a")]) = G32 at t32 o32 e_y2 rl
    have av := av.off o32 rl
    have e_a := o32 _ _ e_a ne_a
    have e_l1 := o32 _ _ e_l1 ne_l1
    have e_y0 := o32 _ _ e_y0 ne_y0
    have e_z0 := o32 _ _ e_z0 ne_z0
    have e_y1 := o32 _ _ e_y1 ne_y1
    have e_z1 := o32 _ _ e_z1 ne_z1
    have dus := dus.off (Off.offL o32 hm)
    have da := da.off (Off.offL o32 hm)
    have db := db.off (Off.offL o32 hm)
    have oac := oac.trans o32
    clear t32 o32
    refine ⟨by rw [hS]; show 2 ≤ 16777216; decide, fun z2 hn => ?_⟩
    have t33 := Same.upd_new (o := .tup [V.str (Str.ofString "sign"), V.ref y2]) hn
    have o33 : Off r _ _ := t33.off
    have e_z2 : (upd G32 z2 (.tup [V.str (Str.ofString "sign"), V.ref y2])) z2 = some (.tup [V.str (Str.ofString "sign"), V.ref y2]) := upd_same
    have nn_z2 := av_new av hn
    have ne_z2 := mem1 nn_z2
    have rl := rl.same t33
    clear hn
    try dsimp only
    generalize upd G32 z2 (.tup [V.str (Str.ofString "sign"), V.ref y2]) = G33 at t33 o33 e_z2 rl
    have av := av.off o33 rl
    have e_a := o33 _ _ e_a ne_a
    have e_l1 := o33 _ _ e_l1 ne_l1
    have e_y0 := o33 _ _ e_y0 ne_y0
    have e_z0 := o33 _ _ e_z0 ne_z0
    have e_y1 := o33 _ _ e_y1 ne_y1
    have e_z1 := o33 _ _ e_z1 ne_z1
    have e_y2 := o33 _ _ e_y2 ne_y2
    have dus := dus.off (Off.offL o33 hm)
    have da := da.off (Off.offL o33 hm)
    have db := db.off (Off.offL o33 hm)
    have oac := oac.trans o33
    clear t33 o33
    have db : DxAll rs G33 [V.ref z0, V.ref z1, V.ref z2] [PyData.tuple [PyData.list [PyData.str (Str.ofString "sign")], PyData.str (Str.ofString "a")], PyData.tuple [PyData.str (Str.ofString "copy"), PyData.list [PyData.int 0], PyData.int 1], PyData.tuple [PyData.str (Str.ofString "sign"), PyData.list [PyData.str (Str.ofString "a")]]] := db.app (.cons (.tup e_z2 nn_z2 (.cons (.str _) (.cons (.lst e_y2 nn_y2 (.cons (.str _) (.nil))) (.nil)))) .nil)
    refine ⟨by rw [hS]; show 1 ≤ 16777216; decide, fun y3 hn => ?_⟩
    have t34 := Same.upd_new (o := .tup [V.str (Str.ofString "copy")]) hn
    have o34 : Off r _ _ := t34.off
    have e_y3 : (upd G33 y3 (.tup [V.str (Str.ofString "copy")])) y3 = some (.tup [V.str (Str.ofString "copy")]) := upd_same
    have nn_y3 := av_new av hn
    have ne_y3 := mem1 nn_y3
    have rl := rl.same t34
    clear hn
    try dsimp only
    generalize upd G33 y3 (.tup [V.str (Str.ofString "copy")]) = G34 at t34 o34 e_y3 rl
    have av := av.off o34 rl
    have e_a := o34 _ _ e_a ne_a
    have e_l1 := o34 _ _ e_l1 ne_l1
    have e_y0 := o34 _ _ e_y0 ne_y0
    have e_z0 := o34 _ _ e_z0 ne_z0
    have e_y1 := o34 _ _ e_y1 ne_y1
    have e_z1 := o34 _ _ e_z1 ne_z1
    have e_y2 := o34 _ _ e_y2 ne_y2
    have e_z2 := o34 _ _ e_z2 ne_z2
    have dus := dus.off (Off.offL o34 hm)
    have da := da.off (Off.offL o34 hm)
    have db := db.off (Off.offL o34 hm)
    have oac := oac.trans o34
    clear t34 o34
    refine ⟨by rw [hS]; show 3 ≤ 16777216; decide, fun z3 hn => ?_⟩
    have t35 := Same.upd_new (o := .tup [V.ref y3, V.int 0, V.int 1]) hn
    have o35 : Off r _ _ := t35.off
    have e_z3 : (upd G34 z3 (.tup [V.ref y3, V.int 0, V.int 1])) z3 = some (.tup [V.ref y3, V.int 0, V.int 1]) := upd_same
    have nn_z3 := av_new av hn
    have ne_z3 := mem1 nn_z3
    have rl := rl.same t35
    clear hn
    try dsimp only
    generalize upd G34 z3 (.tup [V.ref y3, V.int 0, V.int 1]) = G35 at t35 o35 e_z3 rl
    have av := av.off o35 rl
    have e_a := o35 _ _ e_a ne_a
    have e_l1 := o35 _ _ e_l1 ne_l1
    have e_y0 := o35 _ _ e_y0 ne_y0
    have e_z0 := o35 _ _ e_z0 ne_z0
    have e_y1 := o35 _ _ e_y1 ne_y1
    have e_z1 := o35 _ _ e_z1 ne_z1
    have e_y2 := o35 _ _ e_y2 ne_y2
    have e_z2 := o35 _ _ e_z2 ne_z2
    have e_y3 := o35 _ _ e_y3 ne_y3
    have dus := dus.off (Off.offL o35 hm)
    have da := da.off (Off.offL o35 hm)
    have db := db.off (Off.offL o35 hm)
    have oac := oac.trans o35
    clear t35 o35
    have db : DxAll rs G35 [V.ref z0, V.ref z1, V.ref z2, V.ref z3] [PyData.tuple [PyData.list [PyData.str (Str.ofString "sign")], PyData.str (Str.ofString "a")], PyData.tuple [PyData.str (Str.ofString "copy"), PyData.list [PyData.int 0], PyData.int 1], PyData.tuple [PyData.str (Str.ofString "sign"), PyData.list [PyData.str (Str.ofString "a")]], PyData.tuple [PyData.tuple [PyData.str (Str.ofString "copy")], PyData.int 0, PyData.int 1]] := db.app (.cons (.tup e_z3 nn_z3 (.cons (.tup e_y3 nn_y3 (.cons (.str _) (.nil))) (.cons (.int _) (.cons (.int _) (.nil))))) .nil)
    refine ⟨by rw [hS]; show 4 ≤ 16777216; decide, fun l2 hn => ?_⟩
    have t36 := Same.upd_new (o := .lst [V.ref z0, V.ref z1, V.ref z2, V.ref z3]) hn
    have o36 : Off r _ _ := t36.off
    have e_l2 : (upd G35 l2 (.lst [V.ref z0, V.ref z1, V.ref z2, V.ref z3])) l2 = some (.lst [V.ref z0, V.ref z1, V.ref z2, V.ref z3]) := upd_same
    have nn_l2 := av_new av hn
    have ne_l2 := mem1 nn_l2
    have rl := rl.same t36
    clear hn
    try dsimp only
    generalize upd G35 l2 (.lst [V.ref z0, V.ref z1, V.ref z2, V.ref z3]) = G36 at t36 o36 e_l2 rl
    have av := av.off o36 rl
    have e_a := o36 _ _ e_a ne_a
    have e_l1 := o36 _ _ e_l1 ne_l1
    have e_y0 := o36 _ _ e_y0 ne_y0
    have e_z0 := o36 _ _ e_z0 ne_z0
    have e_y1 := o36 _ _ e_y1 ne_y1
    have e_z1 := o36 _ _ e_z1 ne_z1
    have e_y2 := o36 _ _ e_y2 ne_y2
    have e_z2 := o36 _ _ e_z2 ne_z2
    have e_y3 := o36 _ _ e_y3 ne_y3
    have e_z3 := o36 _ _ e_z3 ne_z3
    have dus := dus.off (Off.offL o36 hm)
    have da := da.off (Off.offL o36 hm)
    have db := db.off (Off.offL o36 hm)
    have oac := oac.trans o36
    clear t36 o36
    clear e_y0
    clear e_y1
    clear e_y2
    clear e_y3
    clear e_z0
    clear e_z1
    clear e_z2
    clear e_z3
    have da := da.app db
    clear db
    refine ⟨l1, l2, _, _, rfl, rfl, e_l1, e_l2, by rw [hS]; show 28 ≤ 16777216; decide, fun l3 hn => ?_⟩
    have t37 := Same.upd_new (o := .lst ([V.ref x0, V.ref x1, V.ref x2, V.ref x3, V.ref x4, V.ref x5, V.ref x6, V.ref x7, V.ref x8, V.ref x9, V.ref x10, V.ref x11, V.ref x12, V.ref x13, V.ref x14, V.ref x15, V.ref x16, V.ref x17, V.non, V.ref x19, V.ref x20, V.ref x21, V.ref x22, V.ref x23] ++ [V.ref z0, V.ref z1, V.ref z2, V.ref z3])) hn
    have o37 : Off r _ _ := t37.off
    have e_l3 : (upd G36 l3 (.lst ([V.ref x0, V.ref x1, V.ref x2, V.ref x3, V.ref x4, V.ref x5, V.ref x6, V.ref x7, V.ref x8, V.ref x9, V.ref x10, V.ref x11, V.ref x12, V.ref x13, V.ref x14, V.ref x15, V.ref x16, V.ref x17, V.non, V.ref x19, V.ref x20, V.ref x21, V.ref x22, V.ref x23] ++ [V.ref z0, V.ref z1, V.ref z2, V.ref z3]))) l3 = some (.lst ([V.ref x0, V.ref x1, V.ref x2, V.ref x3, V.ref x4, V.ref x5, V.ref x6, V.ref x7, V.ref x8, V.ref x9, V.ref x10, V.ref x11, V.ref x12, V.ref x13, V.ref x14, V.ref x15, V.ref x16, V.ref x17, V.non, V.ref x19, V.ref x20, V.ref x21, V.ref x22, V.ref x23] ++ [V.ref z0, V.ref z1, V.ref z2, V.ref z3])) := upd_same
    have nn_l3 := av_new av hn
    have ne_l3 := mem1 nn_l3
    have rl := rl.same t37
    clear hn
    try dsimp only
    generalize upd G36 l3 (.lst ([V.ref x0, V.ref x1, V.ref x2, V.ref x3, V.ref x4, V.ref x5, V.ref x6, V.ref x7, V.ref x8, V.ref x9, V.ref x10, V.ref x11, V.ref x12, V.ref x13, V.ref x14, V.ref x15, V.ref x16, V.ref x17, V.non, V.ref x19, V.ref x20, V.ref x21, V.ref x22, V.ref x23] ++ [V.ref z0, V.ref z1, V.ref z2, V.ref z3])) = G37 at t37 o37 e_l3 rl
    have av := av.off o37 rl
    have e_a := o37 _ _ e_a ne_a
    have e_l1 := o37 _ _ e_l1 ne_l1
    have e_l2 := o37 _ _ e_l2 ne_l2
    have dus := dus.off (Off.offL o37 hm)
    have da := da.off (Off.offL o37 hm)
    have oac := oac.trans o37
    clear t37 o37
    clear e_l1
    clear e_l2
    have hps : ∀ d ∈ ([PyData.tuple [PyData.str (Str.ofString "copy"), PyData.int zi, PyData.int ((many : Int) - zi)], PyData.tuple [PyData.str (Str.ofString "copy"), PyData.int zi, PyData.int ((many : Int) - zi + 1)], PyData.tuple [PyData.str (Str.ofString "copy"), PyData.int (-1), PyData.int 1], PyData.tuple [PyData.str (Str.ofString "copy"), PyData.int 0, PyData.int 0], PyData.tuple [PyData.str (Str.ofString "copy"), PyData.int 0, PyData.int (-1)], PyData.tuple [PyData.str (Str.ofString "copy"), PyData.bool true, PyData.int 1], PyData.tuple [PyData.str (Str.ofString "copy"), PyData.int 0, PyData.bool true], PyData.tuple [PyData.str (Str.ofString "copy"), PyData.int ((10 : Int) ^ (40 : Int).toNat), PyData.int 1], PyData.tuple [PyData.str (Str.ofString "copy"), PyData.int 0, PyData.int ((10 : Int) ^ (40 : Int).toNat)], PyData.tuple [PyData.str (Str.ofString "copy"), PyData.int zi], PyData.tuple [PyData.str (Str.ofString "sign"), PyData.str (Str.ofString "")], PyData.tuple [PyData.str (Str.ofString "sign"), PyData.str (Str.ofString "ab")], PyData.tuple [PyData.str (Str.ofString "sign"), PyData.str (Str.ofString "A")], PyData.tuple [PyData.str (Str.ofString "sign"), PyData.int 1], PyData.tuple [PyData.str (Str.ofString "sign")], PyData.tuple [PyData.str (Str.ofString "sign"), PyData.str (Str.ofString "a"), PyData.int 1], PyData.tuple [PyData.str (Str.ofString "SIGN"), PyData.str (Str.ofString "a")], PyData.list [PyData.str (Str.ofString "sign"), PyData.str (Str.ofString "a")], PyData.none, PyData.tuple [], PyData.tuple [PyData.str (Str.ofString "copy"), PyData.str (Str.ofString "0"), PyData.int 1], PyData.tuple [PyData.int 0, PyData.str (Str.ofString "a")], PyData.tuple [PyData.str (Str.ofString "sign"), PyData.str (Str.ofString "{")], PyData.tuple [PyData.str (Str.ofString "copy"), PyData.int zi, PyData.int 300]] : List PyData) ++ [PyData.tuple [PyData.list [PyData.str (Str.ofString "sign")], PyData.str (Str.ofString "a")], PyData.tuple [PyData.str (Str.ofString "copy"), PyData.list [PyData.int 0], PyData.int 1], PyData.tuple [PyData.str (Str.ofString "sign"), PyData.list [PyData.str (Str.ofString "a")]], PyData.tuple [PyData.tuple [PyData.str (Str.ofString "copy")], PyData.int 0, PyData.int 1]], ptS d := fun d hd => by
      simp only [List.cons_append, List.nil_append, List.mem_cons, List.not_mem_nil, or_false] at hd
      rcases hd with rfl | rfl | rfl | rfl | rfl | rfl | rfl | rfl | rfl | rfl | rfl | rfl | rfl | rfl | rfl | rfl | rfl | rfl | rfl | rfl | rfl | rfl | rfl | rfl | rfl | rfl | rfl | rfl
      · exact ptS.t3 (elS_copy) (elS.nu (by omega) (by omega)) (elS.nu (by omega) (by omega))
      · exact ptS.t3 (elS_copy) (elS.nu (by omega) (by omega)) (elS.nu (by omega) (by omega))
      · exact ptS.t3 (elS_copy) (elS.c (by decide +kernel)) (elS.c (by decide +kernel))
      · exact ptS.t3 (elS_copy) (elS.c (by decide +kernel)) (elS.c (by decide +kernel))
      · exact ptS.t3 (elS_copy) (elS.c (by decide +kernel)) (elS.c (by decide +kernel))
      · exact ptS.t3 (elS_copy) (elS.c (by decide +kernel)) (elS.c (by decide +kernel))
      · exact ptS.t3 (elS_copy) (elS.c (by decide +kernel)) (elS.c (by decide +kernel))
      · exact ptS.t3 (elS_copy) (elS.c (by decide +kernel)) (elS.c (by decide +kernel))
      · exact ptS.t3 (elS_copy) (elS.c (by decide +kernel)) (elS.c (by decide +kernel))
      · exact ptS.t2 (elS_copy) (elS.nu (by omega) (by omega))
      · exact ptS.t2 (elS_sign) (elS.c (by decide +kernel))
      · exact ptS.t2 (elS_sign) (elS.c (by decide +kernel))
      · exact ptS.t2 (elS_sign) (elS.c (by decide +kernel))
      · exact ptS.t2 (elS_sign) (elS.c (by decide +kernel))
      · exact ptS.t1 (elS_sign)
      · exact ptS.t3 (elS_sign) (elS.c (by decide +kernel)) (elS.c (by decide +kernel))
      · exact ptS.t2 (elS.c (by decide +kernel)) (elS.c (by decide +kernel))
      · exact ptS.l2 (elS_sign) (elS.c (by decide +kernel))
      · exact ptS.el (elS.c (by decide +kernel)) (fun es e => by cases e)
      · exact ptS.t0 
      · exact ptS.t3 (elS_copy) (elS.c (by decide +kernel)) (elS.c (by decide +kernel))
      · exact ptS.t2 (elS.c (by decide +kernel)) (elS.c (by decide +kernel))
      · exact ptS.t2 (elS_sign) (elS.c (by decide +kernel))
      · exact ptS.t3 (elS_copy) (elS.nu (by omega) (by omega)) (elS.c (by decide +kernel))
      · exact ptS.t2 (elS.c (by decide +kernel)) (elS.c (by decide +kernel))
      · exact ptS.t3 (elS_copy) (elS.c (by decide +kernel)) (elS.c (by decide +kernel))
      · exact ptS.t2 (elS_sign) (elS.c (by decide +kernel))
      · exact ptS.t3 (elS.c (by decide +kernel)) (elS.c (by decide +kernel)) (elS.c (by decide +kernel))
    obtain ⟨L, Ds, e_l3, hLl, da, hps⟩ : ∃ (L : List V) (Ds : List PyData), G37 l3 = some (.lst L) ∧ L.length = 28 ∧ DxAll rs G37 L Ds ∧ ∀ d ∈ Ds, ptS d := ⟨_, _, e_l3, rfl, da, hps⟩
    refine ⟨_, rfl, _, rfl, by rw [hS]; show 2 ≤ 16777216; decide, fun l4 hn => ?_⟩
    have t38 := Same.upd_new (o := .lst [V.int 24, V.int 28]) hn
    have o38 : Off r _ _ := t38.off
    have e_l4 : (upd G37 l4 (.lst [V.int 24, V.int 28])) l4 = some (.lst [V.int 24, V.int 28]) := upd_same
    have nn_l4 := av_new av hn
    have ne_l4 := mem1 nn_l4
    have rl := rl.same t38
    clear hn
    try dsimp only
    generalize upd G37 l4 (.lst [V.int 24, V.int 28]) = G38 at t38 o38 e_l4 rl
    have av := av.off o38 rl
    have e_a := o38 _ _ e_a ne_a
    have e_l3 := o38 _ _ e_l3 ne_l3
    have dus := dus.off (Off.offL o38 hm)
    have da := da.off (Off.offL o38 hm)
    have oac := oac.trans o38
    clear t38 o38
    obtain ⟨nr, bb, hre⟩ := id rl
    obtain ⟨mm, hmat, mm0, mm1⟩ : ∃ mm : Int, atI [V.int 24, V.int 28] (if bb = true then 1 else 0) = some (V.int mm) ∧ 0 < mm ∧ mm ≤ 28 := by cases bb <;> exact ⟨_, rfl, by decide, by decide⟩
    refine ⟨_, rfl, r, _, 1, V.bl bb, rfl, rfl, SqL.of hre, rfl, .inr ⟨bb, rfl, l4, _, _, V.int mm, rfl, rfl, SqL.of e_l4, hmat, r, mm, rfl, mm0, by omega, rl, fun z1 G39 z10 z11 rl o39 => ?_⟩⟩
    have av := av.off o39 rl
    have e_a := o39 _ _ e_a ne_a
    have e_l3 := o39 _ _ e_l3 ne_l3
    have e_l4 := o39 _ _ e_l4 ne_l4
    have dus := dus.off (Off.offL o39 hm)
    have da := da.off (Off.offL o39 hm)
    have oac := oac.trans o39
    clear o39
    clear e_l4
    clear hre
    obtain ⟨j1, rfl⟩ : ∃ j : Nat, (j : Int) = z1 := ⟨z1.toNat, by omega⟩
    obtain ⟨one, hone⟩ : ∃ v, L[j1]? = some v := ⟨_, List.getElem?_eq_getElem (by omega)⟩
    obtain ⟨dO, hdO, dxO⟩ := da.at' hone
    have pO := hps dO (List.mem_of_getElem? hdO)
    refine ⟨l3, L, _, one, rfl, rfl, SqL.of e_l3, atI_nat hone, ?_⟩
    clear e_l3
    clear da
    clear hps hone hdO hLl
    try dsimp only
    refine ⟨_, rfl, _, rfl, _, rfl, a, _, rfl, e_a, fun f1 G40 e_f1 t40 => ?_⟩
    have o40 : Off r _ _ := t40.off
    have rl := rl.same t40
    have av := av.off o40 rl
    have nn_f1 := av_tup av e_f1
    have ne_f1 := mem1 nn_f1
    have e_a := o40 _ _ e_a ne_a
    have dus := dus.off (Off.offL o40 hm)
    have dxO := dxO.off (Off.offL o40 hm)
    have oac := oac.trans o40
    clear t40 o40
    refine ⟨_, rfl, by rw [hS]; show 1 ≤ 16777216; decide, fun f2 hn => ?_⟩
    have t41 := Same.upd_new (o := .tup [one]) hn
    have o41 : Off r _ _ := t41.off
    have e_f2 : (upd G40 f2 (.tup [one])) f2 = some (.tup [one]) := upd_same
    have nn_f2 := av_new av hn
    have ne_f2 := mem1 nn_f2
    have rl := rl.same t41
    clear hn
    try dsimp only
    generalize upd G40 f2 (.tup [one]) = G41 at t41 o41 e_f2 rl
    have av := av.off o41 rl
    have e_a := o41 _ _ e_a ne_a
    have e_f1 := o41 _ _ e_f1 ne_f1
    have dus := dus.off (Off.offL o41 hm)
    have dxO := dxO.off (Off.offL o41 hm)
    have oac := oac.trans o41
    clear t41 o41
    obtain ⟨i1, j1, da⟩ := dus.cut none (some (at_ : Int))
    obtain ⟨i2, j2, db⟩ := dus.cut (some ((at_ : Int) + 1)) none
    obtain ⟨i3, j3, dc⟩ := dus.cut (some (at_ : Int)) none
    have la := cutV_length us none (some (at_ : Int))
    have lb := cutV_length us (some ((at_ : Int) + 1)) none
    have lc := cutV_length us (some (at_ : Int)) none
    refine ⟨f1, f2, _, _, rfl, rfl, e_f1, e_f2, by show _ + 1 ≤ 100000; omega, fun f3 G42 e_f3 t42 => ?_⟩
    have o42 : Off r _ _ := t42.off
    have rl := rl.same t42
    have av := av.off o42 rl
    have nn_f3 := av_tup av e_f3
    have ne_f3 := mem1 nn_f3
    have e_a := o42 _ _ e_a ne_a
    have e_f1 := o42 _ _ e_f1 ne_f1
    have e_f2 := o42 _ _ e_f2 ne_f2
    have dus := dus.off (Off.offL o42 hm)
    have dxO := dxO.off (Off.offL o42 hm)
    have da := da.off (Off.offL o42 hm)
    have db := db.off (Off.offL o42 hm)
    have dc := dc.off (Off.offL o42 hm)
    have oac := oac.trans o42
    clear t42 o42
    refine ⟨_, rfl, _, rfl, _, _, rfl, rfl, _, rfl, a, _, rfl, e_a, fun f4 G43 e_f4 t43 => ?_⟩
    have o43 : Off r _ _ := t43.off
    have rl := rl.same t43
    have av := av.off o43 rl
    have nn_f4 := av_tup av e_f4
    have ne_f4 := mem1 nn_f4
    have e_a := o43 _ _ e_a ne_a
    have e_f1 := o43 _ _ e_f1 ne_f1
    have e_f2 := o43 _ _ e_f2 ne_f2
    have e_f3 := o43 _ _ e_f3 ne_f3
    have dus := dus.off (Off.offL o43 hm)
    have dxO := dxO.off (Off.offL o43 hm)
    have da := da.off (Off.offL o43 hm)
    have db := db.off (Off.offL o43 hm)
    have dc := dc.off (Off.offL o43 hm)
    have oac := oac.trans o43
    clear t43 o43
    refine ⟨f3, f4, _, _, rfl, rfl, e_f3, e_f4, by rw [List.length_append]; show _ + 1 + _ ≤ 100000; omega, fun f5 G44 e_f5 t44 => ?_⟩
    have o44 : Off r _ _ := t44.off
    have rl := rl.same t44
    have av := av.off o44 rl
    have nn_f5 := av_tup av e_f5
    have ne_f5 := mem1 nn_f5
    have e_a := o44 _ _ e_a ne_a
    have e_f1 := o44 _ _ e_f1 ne_f1
    have e_f2 := o44 _ _ e_f2 ne_f2
    have e_f3 := o44 _ _ e_f3 ne_f3
    have e_f4 := o44 _ _ e_f4 ne_f4
    have dus := dus.off (Off.offL o44 hm)
    have dxO := dxO.off (Off.offL o44 hm)
    have da := da.off (Off.offL o44 hm)
    have db := db.off (Off.offL o44 hm)
    have dc := dc.off (Off.offL o44 hm)
    have oac := oac.trans o44
    clear t44 o44
    clear e_f1
    clear e_f2
    clear e_f3
    clear e_f4
    refine ⟨_, rfl, _, rfl, _, rfl, a, _, rfl, e_a, fun g1 G45 e_g1 t45 => ?_⟩
    have o45 : Off r _ _ := t45.off
    have rl := rl.same t45
    have av := av.off o45 rl
    have nn_g1 := av_tup av e_g1
    have ne_g1 := mem1 nn_g1
    have e_a := o45 _ _ e_a ne_a
    have e_f5 := o45 _ _ e_f5 ne_f5
    have dus := dus.off (Off.offL o45 hm)
    have dxO := dxO.off (Off.offL o45 hm)
    have da := da.off (Off.offL o45 hm)
    have db := db.off (Off.offL o45 hm)
    have dc := dc.off (Off.offL o45 hm)
    have oac := oac.trans o45
    clear t45 o45
    refine ⟨_, rfl, by rw [hS]; show 1 ≤ 16777216; decide, fun g2 hn => ?_⟩
    have t46 := Same.upd_new (o := .tup [one]) hn
    have o46 : Off r _ _ := t46.off
    have e_g2 : (upd G45 g2 (.tup [one])) g2 = some (.tup [one]) := upd_same
    have nn_g2 := av_new av hn
    have ne_g2 := mem1 nn_g2
    have rl := rl.same t46
    clear hn
    try dsimp only
    generalize upd G45 g2 (.tup [one]) = G46 at t46 o46 e_g2 rl
    have av := av.off o46 rl
    have e_a := o46 _ _ e_a ne_a
    have e_f5 := o46 _ _ e_f5 ne_f5
    have e_g1 := o46 _ _ e_g1 ne_g1
    have dus := dus.off (Off.offL o46 hm)
    have dxO := dxO.off (Off.offL o46 hm)
    have da := da.off (Off.offL o46 hm)
    have db := db.off (Off.offL o46 hm)
    have dc := dc.off (Off.offL o46 hm)
    have oac := oac.trans o46
    clear t46 o46
    refine ⟨g1, g2, _, _, rfl, rfl, e_g1, e_g2, by show _ + 1 ≤ 100000; omega, fun g3 G47 e_g3 t47 => ?_⟩
    have o47 : Off r _ _ := t47.off
    have rl := rl.same t47
    have av := av.off o47 rl
    have nn_g3 := av_tup av e_g3
    have ne_g3 := mem1 nn_g3
    have e_a := o47 _ _ e_a ne_a
    have e_f5 := o47 _ _ e_f5 ne_f5
    have e_g1 := o47 _ _ e_g1 ne_g1
    have e_g2 := o47 _ _ e_g2 ne_g2
    have dus := dus.off (Off.offL o47 hm)
    have dxO := dxO.off (Off.offL o47 hm)
    have da := da.off (Off.offL o47 hm)
    have db := db.off (Off.offL o47 hm)
    have dc := dc.off (Off.offL o47 hm)
    have oac := oac.trans o47
    clear t47 o47
    refine ⟨_, rfl, _, rfl, _, rfl, a, _, rfl, e_a, fun g4 G48 e_g4 t48 => ?_⟩
    have o48 : Off r _ _ := t48.off
    have rl := rl.same t48
    have av := av.off o48 rl
    have nn_g4 := av_tup av e_g4
    have ne_g4 := mem1 nn_g4
    have e_a := o48 _ _ e_a ne_a
    have e_f5 := o48 _ _ e_f5 ne_f5
    have e_g1 := o48 _ _ e_g1 ne_g1
    have e_g2 := o48 _ _ e_g2 ne_g2
    have e_g3 := o48 _ _ e_g3 ne_g3
    have dus := dus.off (Off.offL o48 hm)
    have dxO := dxO.off (Off.offL o48 hm)
    have da := da.off (Off.offL o48 hm)
    have db := db.off (Off.offL o48 hm)
    have dc := dc.off (Off.offL o48 hm)
    have oac := oac.trans o48
    clear t48 o48
    refine ⟨g3, g4, _, _, rfl, rfl, e_g3, e_g4, by rw [List.length_append]; show _ + 1 + _ ≤ 100000; omega, fun g5 G49 e_g5 t49 => ?_⟩
    have o49 : Off r _ _ := t49.off
    have rl := rl.same t49
    have av := av.off o49 rl
    have nn_g5 := av_tup av e_g5
    have ne_g5 := mem1 nn_g5
    have e_a := o49 _ _ e_a ne_a
    have e_f5 := o49 _ _ e_f5 ne_f5
    have e_g1 := o49 _ _ e_g1 ne_g1
    have e_g2 := o49 _ _ e_g2 ne_g2
    have e_g3 := o49 _ _ e_g3 ne_g3
    have e_g4 := o49 _ _ e_g4 ne_g4
    have dus := dus.off (Off.offL o49 hm)
    have dxO := dxO.off (Off.offL o49 hm)
    have da := da.off (Off.offL o49 hm)
    have db := db.off (Off.offL o49 hm)
    have dc := dc.off (Off.offL o49 hm)
    have oac := oac.trans o49
    clear t49 o49
    clear e_g1
    clear e_g2
    clear e_g3
    clear e_g4
    refine ⟨_, rfl, _, rfl, _, rfl, a, _, rfl, e_a, fun h1 G50 e_h1 t50 => ?_⟩
    have o50 : Off r _ _ := t50.off
    have rl := rl.same t50
    have av := av.off o50 rl
    have nn_h1 := av_tup av e_h1
    have ne_h1 := mem1 nn_h1
    have e_a := o50 _ _ e_a ne_a
    have e_f5 := o50 _ _ e_f5 ne_f5
    have e_g5 := o50 _ _ e_g5 ne_g5
    have dus := dus.off (Off.offL o50 hm)
    have dxO := dxO.off (Off.offL o50 hm)
    have da := da.off (Off.offL o50 hm)
    have db := db.off (Off.offL o50 hm)
    have dc := dc.off (Off.offL o50 hm)
    have oac := oac.trans o50
    clear t50 o50
    refine ⟨_, rfl, _, rfl, _, _, rfl, rfl, _, rfl, a, _, rfl, e_a, fun h2 G51 e_h2 t51 => ?_⟩
    have o51 : Off r _ _ := t51.off
    have rl := rl.same t51
    have av := av.off o51 rl
    have nn_h2 := av_tup av e_h2
    have ne_h2 := mem1 nn_h2
    have e_a := o51 _ _ e_a ne_a
    have e_f5 := o51 _ _ e_f5 ne_f5
    have e_g5 := o51 _ _ e_g5 ne_g5
    have e_h1 := o51 _ _ e_h1 ne_h1
    have dus := dus.off (Off.offL o51 hm)
    have dxO := dxO.off (Off.offL o51 hm)
    have da := da.off (Off.offL o51 hm)
    have db := db.off (Off.offL o51 hm)
    have dc := dc.off (Off.offL o51 hm)
    have oac := oac.trans o51
    clear t51 o51
    refine ⟨h1, h2, _, _, rfl, rfl, e_h1, e_h2, by omega, fun h3 G52 e_h3 t52 => ?_⟩
    have o52 : Off r _ _ := t52.off
    have rl := rl.same t52
    have av := av.off o52 rl
    have nn_h3 := av_tup av e_h3
    have ne_h3 := mem1 nn_h3
    have e_a := o52 _ _ e_a ne_a
    have e_f5 := o52 _ _ e_f5 ne_f5
    have e_g5 := o52 _ _ e_g5 ne_g5
    have e_h1 := o52 _ _ e_h1 ne_h1
    have e_h2 := o52 _ _ e_h2 ne_h2
    have dus := dus.off (Off.offL o52 hm)
    have dxO := dxO.off (Off.offL o52 hm)
    have da := da.off (Off.offL o52 hm)
    have db := db.off (Off.offL o52 hm)
    have dc := dc.off (Off.offL o52 hm)
    have oac := oac.trans o52
    clear t52 o52
    clear e_h1
    clear e_h2
    refine ⟨_, rfl, a, _, rfl, .inr (SqT.of e_a), fun h4 hn => ?_⟩
    have t53 := Same.upd_new (o := .lst us) hn
    have o53 : Off r _ _ := t53.off
    have e_h4 : (upd G52 h4 (.lst us)) h4 = some (.lst us) := upd_same
    have nn_h4 := av_new av hn
    have ne_h4 := mem1 nn_h4
    have rl := rl.same t53
    clear hn
    try dsimp only
    generalize upd G52 h4 (.lst us) = G53 at t53 o53 e_h4 rl
    have av := av.off o53 rl
    have e_a := o53 _ _ e_a ne_a
    have e_f5 := o53 _ _ e_f5 ne_f5
    have e_g5 := o53 _ _ e_g5 ne_g5
    have e_h3 := o53 _ _ e_h3 ne_h3
    have dus := dus.off (Off.offL o53 hm)
    have dxO := dxO.off (Off.offL o53 hm)
    have da := da.off (Off.offL o53 hm)
    have db := db.off (Off.offL o53 hm)
    have dc := dc.off (Off.offL o53 hm)
    have oac := oac.trans o53
    clear t53 o53
    refine ⟨by rw [hS]; show 4 ≤ 16777216; decide, fun h5 hn => ?_⟩
    have t54 := Same.upd_new (o := .lst [V.ref f5, V.ref g5, V.ref h3, V.ref h4]) hn
    have o54 : Off r _ _ := t54.off
    have e_h5 : (upd G53 h5 (.lst [V.ref f5, V.ref g5, V.ref h3, V.ref h4])) h5 = some (.lst [V.ref f5, V.ref g5, V.ref h3, V.ref h4]) := upd_same
    have nn_h5 := av_new av hn
    have ne_h5 := mem1 nn_h5
    have rl := rl.same t54
    clear hn
    try dsimp only
    generalize upd G53 h5 (.lst [V.ref f5, V.ref g5, V.ref h3, V.ref h4]) = G54 at t54 o54 e_h5 rl
    have av := av.off o54 rl
    have e_a := o54 _ _ e_a ne_a
    have e_f5 := o54 _ _ e_f5 ne_f5
    have e_g5 := o54 _ _ e_g5 ne_g5
    have e_h3 := o54 _ _ e_h3 ne_h3
    have e_h4 := o54 _ _ e_h4 ne_h4
    have dus := dus.off (Off.offL o54 hm)
    have dxO := dxO.off (Off.offL o54 hm)
    have da := da.off (Off.offL o54 hm)
    have db := db.off (Off.offL o54 hm)
    have dc := dc.off (Off.offL o54 hm)
    have oac := oac.trans o54
    clear t54 o54
    refine ⟨_, rfl, _, rfl, r, 4, rfl, by decide, by decide, rl, fun z2 G55 z20 z21 rl o55 => ?_⟩
    have av := av.off o55 rl
    have e_a := o55 _ _ e_a ne_a
    have e_f5 := o55 _ _ e_f5 ne_f5
    have e_g5 := o55 _ _ e_g5 ne_g5
    have e_h3 := o55 _ _ e_h3 ne_h3
    have e_h4 := o55 _ _ e_h4 ne_h4
    have e_h5 := o55 _ _ e_h5 ne_h5
    have dus := dus.off (Off.offL o55 hm)
    have dxO := dxO.off (Off.offL o55 hm)
    have da := da.off (Off.offL o55 hm)
    have db := db.off (Off.offL o55 hm)
    have dc := dc.off (Off.offL o55 hm)
    have oac := oac.trans o55
    clear o55
    have rall : ∀ d ∈ ps.map pD, ptS d := fun d hd => by
      obtain ⟨p, hp, rfl⟩ := List.mem_map.mp hd
      exact pD_ptS (hg p hp) (by omega)
    have rcut : ∀ i j, ∀ d ∈ ((ps.map pD).drop i).take j, ptS d := fun i j d hd => rall d (List.mem_of_mem_drop (List.mem_of_mem_take hd))
    have r1 : ∀ d ∈ [dO], ptS d := fun d hd => by rw [List.mem_singleton.mp hd]; exact pO
    have rapp : ∀ {A B : List PyData}, (∀ d ∈ A, ptS d) → (∀ d ∈ B, ptS d) → ∀ d ∈ A ++ B, ptS d := fun ha hb d hd => (List.mem_append.mp hd).elim (ha d) (hb d)
    have d1 : DxAll rs _ [one] [dO] := .cons dxO .nil
    rcases (by omega : z2 = 0 ∨ z2 = 1 ∨ z2 = 2 ∨ z2 = 3) with rfl | rfl | rfl | rfl
    · refine ⟨h5, _, _, V.ref f5, rfl, rfl, SqL.of e_h5, rfl, k _ _ _ (.tup e_f5 nn_f5 ((da.app d1).app db)) (fmS.tup (rapp (rapp (rcut _ _) r1) (rcut _ _)) ?_) rl oac⟩
      have := ((da.app d1).app db).len
      try simp only [List.length_append, List.length_cons, List.length_nil] at this ⊢
      omega
    · refine ⟨h5, _, _, V.ref g5, rfl, rfl, SqL.of e_h5, rfl, k _ _ _ (.tup e_g5 nn_g5 ((da.app d1).app dc)) (fmS.tup (rapp (rapp (rcut _ _) r1) (rcut _ _)) ?_) rl oac⟩
      have := ((da.app d1).app dc).len
      try simp only [List.length_append, List.length_cons, List.length_nil] at this ⊢
      omega
    · refine ⟨h5, _, _, V.ref h3, rfl, rfl, SqL.of e_h5, rfl, k _ _ _ (.tup e_h3 nn_h3 (da.app db)) (fmS.tup (rapp (rcut _ _) (rcut _ _)) ?_) rl oac⟩
      have := (da.app db).len
      try simp only [List.length_append, List.length_cons, List.length_nil] at this ⊢
      omega
    · refine ⟨h5, _, _, V.ref h4, rfl, rfl, SqL.of e_h5, rfl, k _ _ _ (.lst e_h4 nn_h4 (dus)) (fmS.lst (rall) ?_) rl oac⟩
      have := (dus).len
      try simp only [List.length_append, List.length_cons, List.length_nil] at this ⊢
      omega
end
end K20

set_option Elab.async false
set_option linter.all false
set_option maxRecDepth 100000
set_option maxHeartbeats 1000000
namespace K20
open PySem L2
def sgs : Str := Str.ofString " !\"#$&'()*+,-./0123456789:;<=>?\x40ABCDEFGHIJKLMNOPQRSTUVWXYZ[\\]^_{|}~\t\n" ++ Str.ofString "\x60"
theorem sgs_len : sgs.length = 70 := by decide +kernel
theorem sgs_all : sgs.cps.toList.all (fun c => decide (c ≤ 127)) = true := by decide +kernel
theorem sgs_cl : sgs.cps.toList.length = 70 := by decide +kernel
section
variable {P : Program} {w : World} {K : PySem.W.Frag} {mg : Str → Option Value} {base : Heap}
theorem ok_more (F : FunN K mg "_law_bent_more" s_law_bent_more P_law_bent_more) (T : Bu mg) (c__law_pick : Cal P w K mg base 1 "_law_pick" P_law_pick spPick) : Cal P w K mg base 2 "_law_bent_more" P_law_bent_more spBent := by
  refine cal_of F sc_law_bent_more (fun vs H Q E h => ?_) (fun f cdv A outer s H vs Q E hr h => ?_)
  · obtain ⟨rs, r, a, us, ps, n, rfl, _⟩ := h
    rfl
  · obtain ⟨rs, r, a, us, ps, many, rfl, av, rl, ha, pr, hg, hn, hsum, k⟩ := h
    have hS : sizeLine = 16777216 := szl
    have hul := pr.len
    have hpl := sumL_len hg
    refine ⟨_, (@pss_cons _ _ _ _ _ (@ps_set _ _ (2) _ _ _ _ sc_law_bent_more.nd rfl (Or.inl rfl) (@pe_cal _ _ _ _ _ _ _ _ _ _ c__law_pick (hr.mono (by decide)) (by rfl) (@pa_cons _ _ _ _ _ (@pv _ 0 _ _ (by rfl) (by first | exact Or.inl rfl | exact Or.inr (Or.inl rfl) | exact Or.inr (Or.inr rfl)) (by decide) (by decide)) (@pa_cons _ _ _ _ _ pe_int pa_nil (by rfl)) (by rfl)) (by decide) (by rfl) (by rfl)) (by rfl) (by first | exact .inl rfl | exact .inr rfl)) (@pss_cons _ _ _ _ _ (@ps_set _ _ (3) _ _ _ _ sc_law_bent_more.nd rfl (Or.inl rfl) (@pe_op _ _ _ _ _ _ _ _ op_add_str pe_str pe_str) (by rfl) (by first | exact .inl rfl | exact .inr rfl)) (@pss_cons _ _ _ _ _ (@ps_set _ _ (4) _ _ _ _ sc_law_bent_more.nd rfl (Or.inl rfl) (@pe_ix _ _ _ _ _ _ _ ix_str (@pv _ 3 _ _ (by rfl) (by first | exact Or.inl rfl | exact Or.inr (Or.inl rfl) | exact Or.inr (Or.inr rfl)) (by decide) (by decide)) (@pe_cal _ _ _ _ _ _ _ _ _ _ c__law_pick (hr.mono (by decide)) (by rfl) (@pa_cons _ _ _ _ _ (@pv _ 0 _ _ (by rfl) (by first | exact Or.inl rfl | exact Or.inr (Or.inl rfl) | exact Or.inr (Or.inr rfl)) (by decide) (by decide)) (@pa_cons _ _ _ _ _ (@pe_callB _ _ _ _ _ _ _ _ _ call_len_str (by rfl) T.n_len (by decide +kernel) (@pa_cons _ _ _ _ _ (@pv _ 3 _ _ (by rfl) (by first | exact Or.inl rfl | exact Or.inr (Or.inl rfl) | exact Or.inr (Or.inr rfl)) (by decide) (by decide)) pa_nil (by rfl)) (by decide) (by decide) (by rfl) (by rfl)) pa_nil (by rfl)) (by rfl)) (by decide) (by rfl) (by rfl)) (fun _ _ => rfl)) (by rfl) (by first | exact .inl rfl | exact .inr rfl)) (@pss_cons _ _ _ _ _ (@ps_set _ _ (5) _ _ _ _ sc_law_bent_more.nd rfl (Or.inl rfl) (@pe_cal _ _ _ _ _ _ _ _ _ _ c__law_pick (hr.mono (by decide)) (by rfl) (@pa_cons _ _ _ _ _ (@pv _ 0 _ _ (by rfl) (by first | exact Or.inl rfl | exact Or.inr (Or.inl rfl) | exact Or.inr (Or.inr rfl)) (by decide) (by decide)) (@pa_cons _ _ _ _ _ (@pe_op _ _ _ _ _ _ _ _ op_add (@pe_callB _ _ _ _ _ _ _ _ _ call_len_seq (by rfl) T.n_len (by decide +kernel) (@pa_cons _ _ _ _ _ (@pv _ 1 _ _ (by rfl) (by first | exact Or.inl rfl | exact Or.inr (Or.inl rfl) | exact Or.inr (Or.inr rfl)) (by decide) (by decide)) pa_nil (by rfl)) (by decide) (by decide) (by rfl) (by rfl)) pe_int) pa_nil (by rfl)) (by rfl)) (by decide) (by rfl) (by rfl)) (by rfl) (by first | exact .inl rfl | exact .inr rfl)) (@pss_cons _ _ _ _ _ (@ps_set _ _ (6) _ _ _ _ sc_law_bent_more.nd rfl (Or.inl rfl) (@pe_lst _ _ _ _ (@pa_cons _ _ _ _ _ (@pe_tup _ _ _ _ _ (@pa_cons _ _ _ _ _ pe_str (@pa_cons _ _ _ _ _ pe_int (@pa_cons _ _ _ _ _ pe_int pa_nil (by rfl)) (by rfl)) (by rfl))) (@pa_cons _ _ _ _ _ (@pe_tup _ _ _ _ _ (@pa_cons _ _ _ _ _ pe_str (@pa_cons _ _ _ _ _ pe_int (@pa_cons _ _ _ _ _ pe_int pa_nil (by rfl)) (by rfl)) (by rfl))) (@pa_cons _ _ _ _ _ (@pe_tup _ _ _ _ _ (@pa_cons _ _ _ _ _ pe_str (@pa_cons _ _ _ _ _ pe_int (@pa_cons _ _ _ _ _ pe_int pa_nil (by rfl)) (by rfl)) (by rfl))) (@pa_cons _ _ _ _ _ (@pe_tup _ _ _ _ _ (@pa_cons _ _ _ _ _ pe_str (@pa_cons _ _ _ _ _ pe_int (@pa_cons _ _ _ _ _ pe_int pa_nil (by rfl)) (by rfl)) (by rfl))) (@pa_cons _ _ _ _ _ (@pe_tup _ _ _ _ _ (@pa_consts _ _ ([V.str "copy", V.int 0, V.int 1, V.int 1]) (by kernel_rfl))) (@pa_cons _ _ _ _ _ (@pe_lst _ _ _ _ (@pa_cons _ _ _ _ _ pe_str (@pa_cons _ _ _ _ _ pe_int (@pa_cons _ _ _ _ _ pe_int pa_nil (by rfl)) (by rfl)) (by rfl))) pa_nil (by rfl)) (by rfl)) (by rfl)) (by rfl)) (by rfl)) (by rfl))) (by rfl) (by first | exact .inl rfl | exact .inr rfl)) (@pss_cons _ _ _ _ _ (@ps_set _ _ (7) _ _ _ _ sc_law_bent_more.nd rfl (Or.inl rfl) (@pe_ix _ _ _ _ _ _ _ ix_list (@pe_op _ _ _ _ _ _ _ _ op_cat (@pv _ 6 _ _ (by rfl) (by first | exact Or.inl rfl | exact Or.inr (Or.inl rfl) | exact Or.inr (Or.inr rfl)) (by decide) (by decide)) (@pe_op _ _ _ _ _ _ _ _ op_rep (@pe_lst _ _ _ _ (@pa_cons _ _ _ _ _ (@pe_tup _ _ _ _ _ (@pa_cons _ _ _ _ _ pe_str (@pa_cons _ _ _ _ _ (@pv _ 4 _ _ (by rfl) (by first | exact Or.inl rfl | exact Or.inr (Or.inl rfl) | exact Or.inr (Or.inr rfl)) (by decide) (by decide)) pa_nil (by rfl)) (by rfl))) pa_nil (by rfl))) pe_int)) (@pv _ 2 _ _ (by rfl) (by first | exact Or.inl rfl | exact Or.inr (Or.inl rfl) | exact Or.inr (Or.inr rfl)) (by decide) (by decide)) (fun _ _ => rfl)) (by rfl) (by first | exact .inl rfl | exact .inr rfl)) (@pss_one _ _ _ (@ps_ret _ _ _ _ (@pe_op _ _ _ _ _ _ _ _ op_catW (@pe_op _ _ _ _ _ _ _ _ op_catW (@pe_slice _ _ _ _ _ _ _ _ _ _ sl_tupW2 (@pv _ 1 _ _ (by rfl) (by first | exact Or.inl rfl | exact Or.inr (Or.inl rfl) | exact Or.inr (Or.inr rfl)) (by decide) (by decide)) po_none (@po_some _ _ _ (@pv _ 5 _ _ (by rfl) (by first | exact Or.inl rfl | exact Or.inr (Or.inl rfl) | exact Or.inr (Or.inr rfl)) (by decide) (by decide)))) (@pe_tup _ _ _ _ _ (@pa_cons _ _ _ _ _ (@pv _ 7 _ _ (by rfl) (by first | exact Or.inl rfl | exact Or.inr (Or.inl rfl) | exact Or.inr (Or.inr rfl)) (by decide) (by decide)) pa_nil (by rfl)))) (@pe_slice _ _ _ _ _ _ _ _ _ _ sl_tupW2 (@pv _ 1 _ _ (by rfl) (by first | exact Or.inl rfl | exact Or.inr (Or.inl rfl) | exact Or.inr (Or.inr rfl)) (by decide) (by decide)) (@po_some _ _ _ (@pe_op _ _ _ _ _ _ _ _ op_add (@pv _ 5 _ _ (by rfl) (by first | exact Or.inl rfl | exact Or.inr (Or.inl rfl) | exact Or.inr (Or.inr rfl)) (by decide) (by decide)) (@pe_cal _ _ _ _ _ _ _ _ _ _ c__law_pick (hr.mono (by decide)) (by rfl) (@pa_cons _ _ _ _ _ (@pv _ 0 _ _ (by rfl) (by first | exact Or.inl rfl | exact Or.inr (Or.inl rfl) | exact Or.inr (Or.inr rfl)) (by decide) (by decide)) (@pa_cons _ _ _ _ _ pe_int pa_nil (by rfl)) (by rfl)) (by decide) (by rfl) (by rfl)))) po_none)))))))))), ?_⟩
    refine ⟨_, rfl, r, 12, rfl, by decide, by decide, rl, fun way H1 w0 w1 rl1 o1 => ?_⟩
    have hm := av.1
    have mem1 : ∀ {x : Addr}, x ∉ rs → x ≠ r := fun h z => h (by rw [z]; exact hm)
    have ne_a : a ≠ r := mem1 (av_tup av ha)
    have dus : DxAll rs H1 us (ps.map pD) := (prts_dx pr fun _ _ e => av_tup av e).off (Off.offL o1 hm)
    have av := av.off o1 rl1
    have e_a := o1 _ _ ha ne_a
    try dsimp only
    have rl := rl1
    have oac : Off r H H1 := o1
    clear o1 rl1 ha pr
    refine ⟨_, _, rfl, rfl, by rw [hS]; show sgs.length ≤ 16777216; rw [sgs_len]; decide, _, rfl, _, rfl, _, rfl, sgs, rfl, by rw [sgs_len, hS]; decide, r, _, rfl, by rw [sgs_len]; decide, by rw [sgs_len]; decide, rl, fun zs G2 zs0 zs1 rl o2 => ?_⟩
    have av := av.off o2 rl
    have e_a := o2 _ _ e_a ne_a
    have dus := dus.off (Off.offL o2 hm)
    have oac := oac.trans o2
    clear o2
    obtain ⟨c, hc, hc127⟩ : ∃ c, atI sgs.cps.toList zs = some c ∧ c ≤ 127 := by
      have hz : zs.toNat < sgs.cps.toList.length := by rw [sgs_cl]; rw [sgs_len] at zs1; omega
      refine ⟨_, atI_in zs0 (by rw [sgs_cl]; rw [sgs_len] at zs1; omega), of_decide_eq_true (List.all_eq_true.mp sgs_all _ (List.getElem_mem hz))⟩
    refine ⟨sgs, zs, c, rfl, rfl, by rw [sgs_len, hS]; decide, hc, ?_⟩
    try dsimp only
    refine ⟨_, rfl, _, rfl, a, us, rfl, .inr (SqT.of e_a), _, _, rfl, rfl, r, _, rfl, by omega, by omega, rl, fun zat G3 zat0 zat1 rl o3 => ?_⟩
    have av := av.off o3 rl
    have e_a := o3 _ _ e_a ne_a
    have dus := dus.off (Off.offL o3 hm)
    have oac := oac.trans o3
    clear o3
    obtain ⟨at_, rfl⟩ : ∃ m : Nat, (m : Int) = zat := ⟨zat.toNat, by omega⟩
    try dsimp only
    refine ⟨by rw [hS]; show 3 ≤ 16777216; decide, fun x0 hn => ?_⟩
    have t4 := Same.upd_new (o := .tup [V.str (Str.ofString "move"), V.int 0, V.int 1]) hn
    have o4 : Off r _ _ := t4.off
    have e_x0 : (upd G3 x0 (.tup [V.str (Str.ofString "move"), V.int 0, V.int 1])) x0 = some (.tup [V.str (Str.ofString "move"), V.int 0, V.int 1]) := upd_same
    have nn_x0 := av_new av hn
    have ne_x0 := mem1 nn_x0
    have rl := rl.same t4
    clear hn
    try dsimp only
    generalize upd G3 x0 (.tup [V.str (Str.ofString "move"), V.int 0, V.int 1]) = G4 at t4 o4 e_x0 rl
    have av := av.off o4 rl
    have e_a := o4 _ _ e_a ne_a
    have dus := dus.off (Off.offL o4 hm)
    have oac := oac.trans o4
    clear t4 o4
    have da : DxAll rs G4 [V.ref x0] [PyData.tuple [PyData.str (Str.ofString "move"), PyData.int 0, PyData.int 1]] := .cons (.tup e_x0 nn_x0 (.cons (.str _) (.cons (.int _) (.cons (.int _) (.nil))))) .nil
    clear e_x0 nn_x0 ne_x0
    refine ⟨by rw [hS]; show 3 ≤ 16777216; decide, fun x1 hn => ?_⟩
    have t5 := Same.upd_new (o := .tup [V.str (Str.ofString "COPY"), V.int 0, V.int 1]) hn
    have o5 : Off r _ _ := t5.off
    have e_x1 : (upd G4 x1 (.tup [V.str (Str.ofString "COPY"), V.int 0, V.int 1])) x1 = some (.tup [V.str (Str.ofString "COPY"), V.int 0, V.int 1]) := upd_same
    have nn_x1 := av_new av hn
    have ne_x1 := mem1 nn_x1
    have rl := rl.same t5
    clear hn
    try dsimp only
    generalize upd G4 x1 (.tup [V.str (Str.ofString "COPY"), V.int 0, V.int 1]) = G5 at t5 o5 e_x1 rl
    have av := av.off o5 rl
    have e_a := o5 _ _ e_a ne_a
    have dus := dus.off (Off.offL o5 hm)
    have da := da.off (Off.offL o5 hm)
    have oac := oac.trans o5
    clear t5 o5
    have da : DxAll rs G5 [V.ref x0, V.ref x1] [PyData.tuple [PyData.str (Str.ofString "move"), PyData.int 0, PyData.int 1], PyData.tuple [PyData.str (Str.ofString "COPY"), PyData.int 0, PyData.int 1]] := da.app (.cons (.tup e_x1 nn_x1 (.cons (.str _) (.cons (.int _) (.cons (.int _) (.nil))))) .nil)
    clear e_x1 nn_x1 ne_x1
    refine ⟨by rw [hS]; show 3 ≤ 16777216; decide, fun x2 hn => ?_⟩
    have t6 := Same.upd_new (o := .tup [V.str (Str.ofString ""), V.int 0, V.int 1]) hn
    have o6 : Off r _ _ := t6.off
    have e_x2 : (upd G5 x2 (.tup [V.str (Str.ofString ""), V.int 0, V.int 1])) x2 = some (.tup [V.str (Str.ofString ""), V.int 0, V.int 1]) := upd_same
    have nn_x2 := av_new av hn
    have ne_x2 := mem1 nn_x2
    have rl := rl.same t6
    clear hn
    try dsimp only
    generalize upd G5 x2 (.tup [V.str (Str.ofString ""), V.int 0, V.int 1]) = G6 at t6 o6 e_x2 rl
    have av := av.off o6 rl
    have e_a := o6 _ _ e_a ne_a
    have dus := dus.off (Off.offL o6 hm)
    have da := da.off (Off.offL o6 hm)
    have oac := oac.trans o6
    clear t6 o6
    have da : DxAll rs G6 [V.ref x0, V.ref x1, V.ref x2] [PyData.tuple [PyData.str (Str.ofString "move"), PyData.int 0, PyData.int 1], PyData.tuple [PyData.str (Str.ofString "COPY"), PyData.int 0, PyData.int 1], PyData.tuple [PyData.str (Str.ofString ""), PyData.int 0, PyData.int 1]] := da.app (.cons (.tup e_x2 nn_x2 (.cons (.str _) (.cons (.int _) (.cons (.int _) (.nil))))) .nil)
    clear e_x2 nn_x2 ne_x2
    refine ⟨by rw [hS]; show 3 ≤ 16777216; decide, fun x3 hn => ?_⟩
    have t7 := Same.upd_new (o := .tup [V.str (Str.ofString "sign"), V.int 0, V.int 1]) hn
    have o7 : Off r _ _ := t7.off
    have e_x3 : (upd G6 x3 (.tup [V.str (Str.ofString "sign"), V.int 0, V.int 1])) x3 = some (.tup [V.str (Str.ofString "sign"), V.int 0, V.int 1]) := upd_same
    have nn_x3 := av_new av hn
    have ne_x3 := mem1 nn_x3
    have rl := rl.same t7
    clear hn
    try dsimp only
    generalize upd G6 x3 (.tup [V.str (Str.ofString "sign"), V.int 0, V.int 1]) = G7 at t7 o7 e_x3 rl
    have av := av.off o7 rl
    have e_a := o7 _ _ e_a ne_a
    have dus := dus.off (Off.offL o7 hm)
    have da := da.off (Off.offL o7 hm)
    have oac := oac.trans o7
    clear t7 o7
    have da : DxAll rs G7 [V.ref x0, V.ref x1, V.ref x2, V.ref x3] [PyData.tuple [PyData.str (Str.ofString "move"), PyData.int 0, PyData.int 1], PyData.tuple [PyData.str (Str.ofString "COPY"), PyData.int 0, PyData.int 1], PyData.tuple [PyData.str (Str.ofString ""), PyData.int 0, PyData.int 1], PyData.tuple [PyData.str (Str.ofString "sign"), PyData.int 0, PyData.int 1]] := da.app (.cons (.tup e_x3 nn_x3 (.cons (.str _) (.cons (.int _) (.cons (.int _) (.nil))))) .nil)
    clear e_x3 nn_x3 ne_x3
    refine ⟨by rw [hS]; show 4 ≤ 16777216; decide, fun x4 hn => ?_⟩
    have t8 := Same.upd_new (o := .tup [V.str (Str.ofString "copy"), V.int 0, V.int 1, V.int 1]) hn
    have o8 : Off r _ _ := t8.off
    have e_x4 : (upd G7 x4 (.tup [V.str (Str.ofString "copy"), V.int 0, V.int 1, V.int 1])) x4 = some (.tup [V.str (Str.ofString "copy"), V.int 0, V.int 1, V.int 1]) := upd_same
    have nn_x4 := av_new av hn
    have ne_x4 := mem1 nn_x4
    have rl := rl.same t8
    clear hn
    try dsimp only
    generalize upd G7 x4 (.tup [V.str (Str.ofString "copy"), V.int 0, V.int 1, V.int 1]) = G8 at t8 o8 e_x4 rl
    have av := av.off o8 rl
    have e_a := o8 _ _ e_a ne_a
    have dus := dus.off (Off.offL o8 hm)
    have da := da.off (Off.offL o8 hm)
    have oac := oac.trans o8
    clear t8 o8
    have da : DxAll rs G8 [V.ref x0, V.ref x1, V.ref x2, V.ref x3, V.ref x4] [PyData.tuple [PyData.str (Str.ofString "move"), PyData.int 0, PyData.int 1], PyData.tuple [PyData.str (Str.ofString "COPY"), PyData.int 0, PyData.int 1], PyData.tuple [PyData.str (Str.ofString ""), PyData.int 0, PyData.int 1], PyData.tuple [PyData.str (Str.ofString "sign"), PyData.int 0, PyData.int 1], PyData.tuple [PyData.str (Str.ofString "copy"), PyData.int 0, PyData.int 1, PyData.int 1]] := da.app (.cons (.tup e_x4 nn_x4 (.cons (.str _) (.cons (.int _) (.cons (.int _) (.cons (.int _) (.nil)))))) .nil)
    clear e_x4 nn_x4 ne_x4
    refine ⟨by rw [hS]; show 3 ≤ 16777216; decide, fun x5 hn => ?_⟩
    have t9 := Same.upd_new (o := .lst [V.str (Str.ofString "copy"), V.int 0, V.int 1]) hn
    have o9 : Off r _ _ := t9.off
    have e_x5 : (upd G8 x5 (.lst [V.str (Str.ofString "copy"), V.int 0, V.int 1])) x5 = some (.lst [V.str (Str.ofString "copy"), V.int 0, V.int 1]) := upd_same
    have nn_x5 := av_new av hn
    have ne_x5 := mem1 nn_x5
    have rl := rl.same t9
    clear hn
    try dsimp only
    generalize upd G8 x5 (.lst [V.str (Str.ofString "copy"), V.int 0, V.int 1]) = G9 at t9 o9 e_x5 rl
    have av := av.off o9 rl
    have e_a := o9 _ _ e_a ne_a
    have dus := dus.off (Off.offL o9 hm)
    have da := da.off (Off.offL o9 hm)
    have oac := oac.trans o9
    clear t9 o9
    have da : DxAll rs G9 [V.ref x0, V.ref x1, V.ref x2, V.ref x3, V.ref x4, V.ref x5] [PyData.tuple [PyData.str (Str.ofString "move"), PyData.int 0, PyData.int 1], PyData.tuple [PyData.str (Str.ofString "COPY"), PyData.int 0, PyData.int 1], PyData.tuple [PyData.str (Str.ofString ""), PyData.int 0, PyData.int 1], PyData.tuple [PyData.str (Str.ofString "sign"), PyData.int 0, PyData.int 1], PyData.tuple [PyData.str (Str.ofString "copy"), PyData.int 0, PyData.int 1, PyData.int 1], PyData.list [PyData.str (Str.ofString "copy"), PyData.int 0, PyData.int 1]] := da.app (.cons (.lst e_x5 nn_x5 (.cons (.str _) (.cons (.int _) (.cons (.int _) (.nil))))) .nil)
    clear e_x5 nn_x5 ne_x5
    refine ⟨by rw [hS]; show 6 ≤ 16777216; decide, fun l1 hn => ?_⟩
    have t10 := Same.upd_new (o := .lst [V.ref x0, V.ref x1, V.ref x2, V.ref x3, V.ref x4, V.ref x5]) hn
    have o10 : Off r _ _ := t10.off
    have e_l1 : (upd G9 l1 (.lst [V.ref x0, V.ref x1, V.ref x2, V.ref x3, V.ref x4, V.ref x5])) l1 = some (.lst [V.ref x0, V.ref x1, V.ref x2, V.ref x3, V.ref x4, V.ref x5]) := upd_same
    have nn_l1 := av_new av hn
    have ne_l1 := mem1 nn_l1
    have rl := rl.same t10
    clear hn
    try dsimp only
    generalize upd G9 l1 (.lst [V.ref x0, V.ref x1, V.ref x2, V.ref x3, V.ref x4, V.ref x5]) = G10 at t10 o10 e_l1 rl
    have av := av.off o10 rl
    have e_a := o10 _ _ e_a ne_a
    have dus := dus.off (Off.offL o10 hm)
    have da := da.off (Off.offL o10 hm)
    have oac := oac.trans o10
    clear t10 o10
    refine ⟨_, rfl, _, rfl, by rw [hS]; show 2 ≤ 16777216; decide, fun y hn => ?_⟩
    have t11 := Same.upd_new (o := .tup [V.str (Str.ofString "sign"), V.str ⟨#[c]⟩]) hn
    have o11 : Off r _ _ := t11.off
    have e_y : (upd G10 y (.tup [V.str (Str.ofString "sign"), V.str ⟨#[c]⟩])) y = some (.tup [V.str (Str.ofString "sign"), V.str ⟨#[c]⟩]) := upd_same
    have nn_y := av_new av hn
    have ne_y := mem1 nn_y
    have rl := rl.same t11
    clear hn
    try dsimp only
    generalize upd G10 y (.tup [V.str (Str.ofString "sign"), V.str ⟨#[c]⟩]) = G11 at t11 o11 e_y rl
    have av := av.off o11 rl
    have e_a := o11 _ _ e_a ne_a
    have e_l1 := o11 _ _ e_l1 ne_l1
    have dus := dus.off (Off.offL o11 hm)
    have da := da.off (Off.offL o11 hm)
    have oac := oac.trans o11
    clear t11 o11
    refine ⟨by rw [hS]; show 1 ≤ 16777216; decide, fun l2 hn => ?_⟩
    have t12 := Same.upd_new (o := .lst [V.ref y]) hn
    have o12 : Off r _ _ := t12.off
    have e_l2 : (upd G11 l2 (.lst [V.ref y])) l2 = some (.lst [V.ref y]) := upd_same
    have nn_l2 := av_new av hn
    have ne_l2 := mem1 nn_l2
    have rl := rl.same t12
    clear hn
    try dsimp only
    generalize upd G11 l2 (.lst [V.ref y]) = G12 at t12 o12 e_l2 rl
    have av := av.off o12 rl
    have e_a := o12 _ _ e_a ne_a
    have e_l1 := o12 _ _ e_l1 ne_l1
    have e_y := o12 _ _ e_y ne_y
    have dus := dus.off (Off.offL o12 hm)
    have da := da.off (Off.offL o12 hm)
    have oac := oac.trans o12
    clear t12 o12
    refine ⟨l2, 6, _, rfl, rfl, e_l2, by decide, by decide, by rw [hS]; show 6 ≤ 16777216; decide, fun l3 hn => ?_⟩
    have t13 := Same.upd_new (o := .lst (List.replicate (6 : Int).toNat [V.ref y]).flatten) hn
    have o13 : Off r _ _ := t13.off
    have e_l3 : (upd G12 l3 (.lst (List.replicate (6 : Int).toNat [V.ref y]).flatten)) l3 = some (.lst (List.replicate (6 : Int).toNat [V.ref y]).flatten) := upd_same
    have nn_l3 := av_new av hn
    have ne_l3 := mem1 nn_l3
    have rl := rl.same t13
    clear hn
    try dsimp only
    generalize upd G12 l3 (.lst (List.replicate (6 : Int).toNat [V.ref y]).flatten) = G13 at t13 o13 e_l3 rl
    have av := av.off o13 rl
    have e_a := o13 _ _ e_a ne_a
    have e_l1 := o13 _ _ e_l1 ne_l1
    have e_y := o13 _ _ e_y ne_y
    have e_l2 := o13 _ _ e_l2 ne_l2
    have dus := dus.off (Off.offL o13 hm)
    have da := da.off (Off.offL o13 hm)
    have oac := oac.trans o13
    clear t13 o13
    refine ⟨l1, l3, _, _, rfl, rfl, e_l1, e_l3, by rw [hS]; show 12 ≤ 16777216; decide, fun l4 hn => ?_⟩
    have t14 := Same.upd_new (o := .lst ([V.ref x0, V.ref x1, V.ref x2, V.ref x3, V.ref x4, V.ref x5] ++ (List.replicate (6 : Int).toNat [V.ref y]).flatten)) hn
    have o14 : Off r _ _ := t14.off
    have e_l4 : (upd G13 l4 (.lst ([V.ref x0, V.ref x1, V.ref x2, V.ref x3, V.ref x4, V.ref x5] ++ (List.replicate (6 : Int).toNat [V.ref y]).flatten))) l4 = some (.lst ([V.ref x0, V.ref x1, V.ref x2, V.ref x3, V.ref x4, V.ref x5] ++ (List.replicate (6 : Int).toNat [V.ref y]).flatten)) := upd_same
    have nn_l4 := av_new av hn
    have ne_l4 := mem1 nn_l4
    have rl := rl.same t14
    clear hn
    try dsimp only
    generalize upd G13 l4 (.lst ([V.ref x0, V.ref x1, V.ref x2, V.ref x3, V.ref x4, V.ref x5] ++ (List.replicate (6 : Int).toNat [V.ref y]).flatten)) = G14 at t14 o14 e_l4 rl
    have av := av.off o14 rl
    have e_a := o14 _ _ e_a ne_a
    have e_l1 := o14 _ _ e_l1 ne_l1
    have e_y := o14 _ _ e_y ne_y
    have e_l2 := o14 _ _ e_l2 ne_l2
    have e_l3 := o14 _ _ e_l3 ne_l3
    have dus := dus.off (Off.offL o14 hm)
    have da := da.off (Off.offL o14 hm)
    have oac := oac.trans o14
    clear t14 o14
    have dy : Dx rs G14 (V.ref y) (PyData.tuple [PyData.str (Str.ofString "sign"), PyData.str ⟨#[c]⟩]) := .tup e_y nn_y (.cons (.str _) (.cons (.str _) .nil))
    have dr : DxAll rs G14 ((List.replicate (6 : Int).toNat [V.ref y]).flatten) [PyData.tuple [PyData.str (Str.ofString "sign"), PyData.str ⟨#[c]⟩], PyData.tuple [PyData.str (Str.ofString "sign"), PyData.str ⟨#[c]⟩], PyData.tuple [PyData.str (Str.ofString "sign"), PyData.str ⟨#[c]⟩], PyData.tuple [PyData.str (Str.ofString "sign"), PyData.str ⟨#[c]⟩], PyData.tuple [PyData.str (Str.ofString "sign"), PyData.str ⟨#[c]⟩], PyData.tuple [PyData.str (Str.ofString "sign"), PyData.str ⟨#[c]⟩]] := show DxAll rs G14 [V.ref y, V.ref y, V.ref y, V.ref y, V.ref y, V.ref y] _ from .cons dy (.cons dy (.cons dy (.cons dy (.cons dy (.cons dy .nil)))))
    have da := da.app dr
    clear e_l1
    clear e_l2
    clear e_l3
    clear e_y
    clear dr dy
    have hps : ∀ d ∈ ([PyData.tuple [PyData.str (Str.ofString "move"), PyData.int 0, PyData.int 1], PyData.tuple [PyData.str (Str.ofString "COPY"), PyData.int 0, PyData.int 1], PyData.tuple [PyData.str (Str.ofString ""), PyData.int 0, PyData.int 1], PyData.tuple [PyData.str (Str.ofString "sign"), PyData.int 0, PyData.int 1], PyData.tuple [PyData.str (Str.ofString "copy"), PyData.int 0, PyData.int 1, PyData.int 1], PyData.list [PyData.str (Str.ofString "copy"), PyData.int 0, PyData.int 1]] : List PyData) ++ [PyData.tuple [PyData.str (Str.ofString "sign"), PyData.str ⟨#[c]⟩], PyData.tuple [PyData.str (Str.ofString "sign"), PyData.str ⟨#[c]⟩], PyData.tuple [PyData.str (Str.ofString "sign"), PyData.str ⟨#[c]⟩], PyData.tuple [PyData.str (Str.ofString "sign"), PyData.str ⟨#[c]⟩], PyData.tuple [PyData.str (Str.ofString "sign"), PyData.str ⟨#[c]⟩], PyData.tuple [PyData.str (Str.ofString "sign"), PyData.str ⟨#[c]⟩]], ptS d := fun d hd => by
      simp only [List.cons_append, List.nil_append, List.mem_cons, List.not_mem_nil, or_false] at hd
      rcases hd with rfl | rfl | rfl | rfl | rfl | rfl | rfl | rfl | rfl | rfl | rfl | rfl
      · exact ptS.t3 (elS.c (by decide +kernel)) (elS.c (by decide +kernel)) (elS.c (by decide +kernel))
      · exact ptS.t3 (elS.c (by decide +kernel)) (elS.c (by decide +kernel)) (elS.c (by decide +kernel))
      · exact ptS.t3 (elS.c (by decide +kernel)) (elS.c (by decide +kernel)) (elS.c (by decide +kernel))
      · exact ptS.t3 (elS_sign) (elS.c (by decide +kernel)) (elS.c (by decide +kernel))
      · exact ptS.t4 (elS_copy) (elS.c (by decide +kernel)) (elS.c (by decide +kernel)) (elS.c (by decide +kernel))
      · exact ptS.l3 (elS_copy) (elS.c (by decide +kernel)) (elS.c (by decide +kernel))
      · exact ptS.t2 elS_sign (elS.ch hc127)
      · exact ptS.t2 elS_sign (elS.ch hc127)
      · exact ptS.t2 elS_sign (elS.ch hc127)
      · exact ptS.t2 elS_sign (elS.ch hc127)
      · exact ptS.t2 elS_sign (elS.ch hc127)
      · exact ptS.t2 elS_sign (elS.ch hc127)
    obtain ⟨L, Ds, e_l4, hLl, da, hps⟩ : ∃ (L : List V) (Ds : List PyData), G14 l4 = some (.lst L) ∧ L.length = 12 ∧ DxAll rs G14 L Ds ∧ ∀ d ∈ Ds, ptS d := ⟨_, _, e_l4, rfl, da, hps⟩
    obtain ⟨j1, rfl⟩ : ∃ j : Nat, (j : Int) = way := ⟨way.toNat, by omega⟩
    obtain ⟨one, hone⟩ : ∃ v, L[j1]? = some v := ⟨_, List.getElem?_eq_getElem (by omega)⟩
    obtain ⟨dO, hdO, dxO⟩ := da.at' hone
    have pO := hps dO (List.mem_of_getElem? hdO)
    refine ⟨_, rfl, l4, L, _, one, rfl, rfl, SqL.of e_l4, atI_nat hone, ?_⟩
    clear e_l4
    clear da
    clear hps hone hdO hLl
    try dsimp only
    refine ⟨_, rfl, _, rfl, _, rfl, a, _, rfl, e_a, fun f1 G15 e_f1 t15 => ?_⟩
    have o15 : Off r _ _ := t15.off
    have rl := rl.same t15
    have av := av.off o15 rl
    have nn_f1 := av_tup av e_f1
    have ne_f1 := mem1 nn_f1
    have e_a := o15 _ _ e_a ne_a
    have dus := dus.off (Off.offL o15 hm)
    have dxO := dxO.off (Off.offL o15 hm)
    have oac := oac.trans o15
    clear t15 o15
    refine ⟨_, rfl, by rw [hS]; show 1 ≤ 16777216; decide, fun f2 hn => ?_⟩
    have t16 := Same.upd_new (o := .tup [one]) hn
    have o16 : Off r _ _ := t16.off
    have e_f2 : (upd G15 f2 (.tup [one])) f2 = some (.tup [one]) := upd_same
    have nn_f2 := av_new av hn
    have ne_f2 := mem1 nn_f2
    have rl := rl.same t16
    clear hn
    try dsimp only
    generalize upd G15 f2 (.tup [one]) = G16 at t16 o16 e_f2 rl
    have av := av.off o16 rl
    have e_a := o16 _ _ e_a ne_a
    have e_f1 := o16 _ _ e_f1 ne_f1
    have dus := dus.off (Off.offL o16 hm)
    have dxO := dxO.off (Off.offL o16 hm)
    have oac := oac.trans o16
    clear t16 o16
    obtain ⟨i1, j1, da⟩ := dus.cut none (some (at_ : Int))
    have la := cutV_length us none (some (at_ : Int))
    refine ⟨f1, f2, _, _, rfl, rfl, e_f1, e_f2, by show _ + 1 ≤ 100000; omega, fun f3 G17 e_f3 t17 => ?_⟩
    have o17 : Off r _ _ := t17.off
    have rl := rl.same t17
    have av := av.off o17 rl
    have nn_f3 := av_tup av e_f3
    have ne_f3 := mem1 nn_f3
    have e_a := o17 _ _ e_a ne_a
    have e_f1 := o17 _ _ e_f1 ne_f1
    have e_f2 := o17 _ _ e_f2 ne_f2
    have dus := dus.off (Off.offL o17 hm)
    have dxO := dxO.off (Off.offL o17 hm)
    have da := da.off (Off.offL o17 hm)
    have oac := oac.trans o17
    clear t17 o17
    clear e_f1
    clear e_f2
    refine ⟨_, rfl, _, rfl, _, rfl, r, 2, rfl, by decide, by decide, rl, fun z2 G18 z20 z21 rl o18 => ?_⟩
    have av := av.off o18 rl
    have e_a := o18 _ _ e_a ne_a
    have e_f3 := o18 _ _ e_f3 ne_f3
    have dus := dus.off (Off.offL o18 hm)
    have dxO := dxO.off (Off.offL o18 hm)
    have da := da.off (Off.offL o18 hm)
    have oac := oac.trans o18
    clear o18
    obtain ⟨i2, j2, db⟩ := dus.cut (some ((at_ : Int) + z2)) none
    have lb := cutV_length us (some ((at_ : Int) + z2)) none
    refine ⟨_, _, rfl, rfl, _, rfl, a, _, rfl, e_a, fun f4 G19 e_f4 t19 => ?_⟩
    have o19 : Off r _ _ := t19.off
    have rl := rl.same t19
    have av := av.off o19 rl
    have nn_f4 := av_tup av e_f4
    have ne_f4 := mem1 nn_f4
    have e_a := o19 _ _ e_a ne_a
    have e_f3 := o19 _ _ e_f3 ne_f3
    have dus := dus.off (Off.offL o19 hm)
    have dxO := dxO.off (Off.offL o19 hm)
    have da := da.off (Off.offL o19 hm)
    have db := db.off (Off.offL o19 hm)
    have oac := oac.trans o19
    clear t19 o19
    refine ⟨f3, f4, _, _, rfl, rfl, e_f3, e_f4, by rw [List.length_append]; show _ + 1 + _ ≤ 100000; omega, fun f5 G20 e_f5 t20 => ?_⟩
    have o20 : Off r _ _ := t20.off
    have rl := rl.same t20
    have av := av.off o20 rl
    have nn_f5 := av_tup av e_f5
    have ne_f5 := mem1 nn_f5
    have e_a := o20 _ _ e_a ne_a
    have e_f3 := o20 _ _ e_f3 ne_f3
    have e_f4 := o20 _ _ e_f4 ne_f4
    have dus := dus.off (Off.offL o20 hm)
    have dxO := dxO.off (Off.offL o20 hm)
    have da := da.off (Off.offL o20 hm)
    have db := db.off (Off.offL o20 hm)
    have oac := oac.trans o20
    clear t20 o20
    have rall : ∀ d ∈ ps.map pD, ptS d := fun d hd => by
      obtain ⟨p, hp, rfl⟩ := List.mem_map.mp hd
      exact pD_ptS (hg p hp) (by omega)
    have rcut : ∀ i j, ∀ d ∈ ((ps.map pD).drop i).take j, ptS d := fun i j d hd => rall d (List.mem_of_mem_drop (List.mem_of_mem_take hd))
    have r1 : ∀ d ∈ [dO], ptS d := fun d hd => by rw [List.mem_singleton.mp hd]; exact pO
    have rapp : ∀ {A B : List PyData}, (∀ d ∈ A, ptS d) → (∀ d ∈ B, ptS d) → ∀ d ∈ A ++ B, ptS d := fun ha hb d hd => (List.mem_append.mp hd).elim (ha d) (hb d)
    have d1 : DxAll rs _ [one] [dO] := .cons dxO .nil
    refine k _ _ _ (.tup e_f5 nn_f5 ((da.app d1).app db)) (fmS.tup (rapp (rapp (rcut _ _) r1) (rcut _ _)) ?_) rl oac
    have := ((da.app d1).app db).len
    try simp only [List.length_append, List.length_cons, List.length_nil] at this ⊢
    omega
end
end K20

set_option Elab.async false
set_option linter.all false
set_option maxRecDepth 100000
set_option maxHeartbeats 1000000
namespace K20
open PySem L2
def spLaw (K : PySem.W.Frag) : Sp := fun vs H Q _ => ∃ (a : Addr) (ns : List Int), vs = [.ref a] ∧ SqL K H a (ns.map V.int) ∧ ∀ H', Q (.bl true) H'
theorem form_signs (n : Nat) (c : Nat) (hc : isl c = true) : formD (.tuple (List.replicate n (.tuple [.str (Str.ofString "sign"), .str ⟨#[c]⟩]))) = decide (n ≤ 300) := by
  have hp : partD (.tuple [.str (Str.ofString "sign"), .str ⟨#[c]⟩]) = true := by
    show (eqS (Str.ofString "sign") (.str (Str.ofString "sign")) && isl c || _) = true
    rw [eqS_str, decide_eq_true rfl, hc]
    rfl
  have hall : (List.replicate n (PyData.tuple [.str (Str.ofString "sign"), .str ⟨#[c]⟩])).all partD = true := List.all_eq_true.mpr fun d hd => by rw [List.eq_of_mem_replicate hd]; exact hp
  have hs : ∀ n : Nat, sumD (List.replicate n (PyData.tuple [.str (Str.ofString "sign"), .str ⟨#[c]⟩])) = (n : Int) := fun n => by
    induction n with
    | zero => rfl
    | succ n ih =>
      unfold sumD at ih ⊢
      rw [List.replicate_succ, List.map_cons, List.sum_cons, ih]
      show 1 + (n : Int) = _
      omega
  show (_ && (decide (sumD _ ≤ 300) && _)) = _
  rw [hall, hs, Bool.true_and]
  have hr : ((List.replicate n (PyData.tuple [.str (Str.ofString "sign"), .str ⟨#[c]⟩])).all fun d => decide (rchD d ≤ (n : Int))) = true := List.all_eq_true.mpr fun d hd => by
    rw [List.eq_of_mem_replicate hd]
    exact decide_eq_true (by show (0 : Int) ≤ _; omega)
  rw [hr, Bool.and_true]
  exact decide_eq_decide.mpr ⟨fun h => by omega, fun h => by omega⟩
theorem copy_part {a b : Int} (ha : 0 ≤ a) (hb : 1 ≤ b) : partD (.tuple [.str (Str.ofString "copy"), .int a, .int b]) = true := by
  show (false || (eqS (Str.ofString "copy") (.str (Str.ofString "copy")) && (true && (true && (decide (0 ≤ a) && decide (1 ≤ b)))))) = true
  rw [eqS_str, decide_eq_true rfl, decide_eq_true ha, decide_eq_true hb]
  rfl
theorem form_one (n : Int) (hn : 1 ≤ n) : formD (.tuple [.tuple [.str (Str.ofString "copy"), .int 0, .int n]]) = decide (n ≤ 300) := by
  show ((partD _ && true) && (decide (sumD _ ≤ 300) && (decide (rchD _ ≤ sumD _) && true))) = _
  rw [copy_part (by decide) hn]
  have hs : sumD [PyData.tuple [.str (Str.ofString "copy"), .int 0, .int n]] = n := by
    show n + 0 = n
    omega
  rw [hs, decide_eq_true (show rchD (.tuple [.str (Str.ofString "copy"), .int 0, .int n]) ≤ n by show 0 + n ≤ n; omega)]
  simp
theorem form_two (n : Int) (hn : 1 ≤ n) : formD (.tuple [.tuple [.str (Str.ofString "sign"), .str (Str.ofString "a")], .tuple [.str (Str.ofString "copy"), .int 0, .int n]]) = decide (n + 1 ≤ 300) := by
  show ((partD _ && (partD _ && true)) && (decide (sumD _ ≤ 300) && (decide (rchD _ ≤ sumD _) && (decide (rchD _ ≤ sumD _) && true)))) = _
  rw [copy_part (by decide) hn]
  have h1 : partD (.tuple [.str (Str.ofString "sign"), .str (Str.ofString "a")]) = true := by decide +kernel
  have hs : sumD [PyData.tuple [.str (Str.ofString "sign"), .str (Str.ofString "a")], PyData.tuple [.str (Str.ofString "copy"), .int 0, .int n]] = n + 1 := by
    show 1 + (n + 0) = n + 1
    omega
  rw [h1, hs, decide_eq_true (show rchD (.tuple [.str (Str.ofString "copy"), .int 0, .int n]) ≤ n + 1 by show 0 + n ≤ n + 1; omega), decide_eq_true (show rchD (.tuple [.str (Str.ofString "sign"), .str (Str.ofString "a")]) ≤ n + 1 by show 0 ≤ n + 1; omega)]
  simp
theorem rep_one (n : Nat) (v : V) : (List.replicate n [v]).flatten = List.replicate n v := by
  induction n with
  | zero => rfl
  | succ n ih => rw [List.replicate_succ, List.flatten_cons, ih]; rfl
theorem dx_rep1 {rs : List Addr} {H : Hp} {v : V} {d : PyData} (h : Dx rs H v d) : ∀ n : Nat, DxAll rs H (List.replicate n v) (List.replicate n d)
  | 0 => .nil
  | n + 1 => .cons h (dx_rep1 h n)
section
variable {P : Program} {w : World} {K : PySem.W.Frag} {mg : Str → Option Value} {base : Heap}
theorem ok_law {fa : Addr} {fd : FuncData} (F : Fun K "law" "law" s_law fa fd) (T : Bu mg) (c__law_reel : Cal P w K mg base 1 "_law_reel" P_law_reel (spReel K)) (c__law_pick : Cal P w K mg base 1 "_law_pick" P_law_pick spPick) (c__law_text : Cal P w K mg base 2 "_law_text" P_law_text spText) (c__law_form : Cal P w K mg base 3 "_law_form" P_law_form spLform)
    (c__law_bent : Cal P w K mg base 2 "_law_bent" P_law_bent spBent) (c__law_bent_more : Cal P w K mg base 2 "_law_bent_more" P_law_bent_more spBent) (c_is_copies : Cal P w K mg base 5 "is_copies" P_is_copies spIscD) (c__law_is_form : Cal P w K mg base 3 "_law_is_form" P_law_is_form spIscD) :
    FnOk P w K mg base CX0 6 fa fd P_law (spLaw K) := by
  refine F.ok sc_law (fun vs H Q E h => ?_) (fun cdv A outer s H vs Q E hr h => ?_)
  · obtain ⟨a, ns, rfl, _⟩ := h
    rfl
  · obtain ⟨a, ns, rfl, hSq, k⟩ := h
    have hS : sizeLine = 16777216 := szl
    refine ⟨_, (@pss_cons _ _ _ _ _ (@ps_for _ _ _ _ _ _ _ _ PassesOwn.never rfl (@pi_range1 _ _ _ _ _ _ rfl T.n_range (@pa_cons _ _ _ _ _ (@pe_callB _ _ _ _ _ _ _ _ _ (call_max2 rfl) (by rfl) T.n_max (by decide +kernel) (@pa_cons _ _ _ _ _ pe_int (@pa_cons _ _ _ _ _ (@pe_callB _ _ _ _ _ _ _ _ _ (call_min2 rfl) (by rfl) T.n_min (by decide +kernel) (@pa_cons _ _ _ _ _ pe_int (@pa_cons _ _ _ _ _ (@pe_callB _ _ _ _ _ _ _ _ _ call_len_seq (by rfl) T.n_len (by decide +kernel) (@pa_cons _ _ _ _ _ (@pv _ 0 _ _ (by rfl) (by first | exact Or.inl rfl | exact Or.inr (Or.inl rfl) | exact Or.inr (Or.inr rfl)) (by decide) (by decide)) pa_nil (by rfl)) (by decide) (by decide) (by rfl) (by rfl)) pa_nil (by rfl)) (by rfl)) (by decide) (by decide) (by rfl) (by rfl)) pa_nil (by rfl)) (by rfl)) (by decide) (by decide) (by rfl) (by rfl)) pa_nil (by rfl)) (by rfl)) (@pg_name _ _ (1) _ sc_law.nd rfl (Or.inl rfl) (by first | exact .inl rfl | exact .inr rfl)) (@pss_cons _ _ _ _ _ (@ps_set _ _ (2) _ _ _ _ sc_law.nd rfl (Or.inr rfl) (@pe_cal _ _ _ _ _ _ _ _ _ _ c__law_reel (hr.mono (by decide)) (by rfl) (@pa_cons _ _ _ _ _ (@pv _ 0 _ _ (by rfl) (by first | exact Or.inl rfl | exact Or.inr (Or.inl rfl) | exact Or.inr (Or.inr rfl)) (by decide) (by decide)) (@pa_cons _ _ _ _ _ (@pv _ 1 _ _ (by rfl) (by first | exact Or.inl rfl | exact Or.inr (Or.inl rfl) | exact Or.inr (Or.inr rfl)) (by decide) (by decide)) pa_nil (by rfl)) (by rfl)) (by decide) (by rfl) (by rfl)) (by rfl) (by first | exact .inl rfl | exact .inr rfl)) (@pss_cons _ _ _ _ _ (@ps_set _ _ (3) _ _ _ _ sc_law.nd rfl (Or.inr rfl) (@pe_cal _ _ _ _ _ _ _ _ _ _ c__law_form (hr.mono (by decide)) (by rfl) (@pa_cons _ _ _ _ _ (@pv _ 2 _ _ (by rfl) (by first | exact Or.inl rfl | exact Or.inr (Or.inl rfl) | exact Or.inr (Or.inr rfl)) (by decide) (by decide)) (@pa_cons _ _ _ _ _ (@pe_cal _ _ _ _ _ _ _ _ _ _ c__law_text (hr.mono (by decide)) (by rfl) (@pa_cons _ _ _ _ _ (@pv _ 2 _ _ (by rfl) (by first | exact Or.inl rfl | exact Or.inr (Or.inl rfl) | exact Or.inr (Or.inr rfl)) (by decide) (by decide)) (@pa_cons _ _ _ _ _ pe_int pa_nil (by rfl)) (by rfl)) (by decide) (by rfl) (by rfl)) pa_nil (by rfl)) (by rfl)) (by decide) (by rfl) (by rfl)) (by rfl) (by first | exact .inl rfl | exact .inr rfl)) (@pss_cons _ _ _ _ _ (@ps_for _ _ _ _ _ _ _ _ PassesOwn.never rfl (@pi_list _ _ _ _ (@pe_op _ _ _ _ _ _ _ _ op_cat (@pe_lst _ _ _ _ (@pa_cons _ _ _ _ _ (@pv _ 3 _ _ (by rfl) (by first | exact Or.inl rfl | exact Or.inr (Or.inl rfl) | exact Or.inr (Or.inr rfl)) (by decide) (by decide)) pa_nil (by rfl))) (@pe_lc _ _ _ _ _ _ ([("turn", 5)]) _ _ (gName 5) _ _ (by rfl) sc_law.nd (@pi_range1 _ _ _ _ _ _ rfl T.n_range (@pa_cons _ _ _ _ _ pe_int pa_nil (by rfl)) (by rfl)) (@blkOk_by (N_law) (defScope s_law) _ ([("turn", 5)]) (by decide +kernel)) (fun _ _ _ _ _ => pg_name (i := 5) sc_law.nd rfl (Or.inl rfl)) (fun _ _ _ _ _ => pts_nil) (fun _ _ _ _ _ => (@pe_cal _ _ _ _ _ _ _ _ _ _ c__law_bent (hr.mono (by decide)) (by rfl) (@pa_cons _ _ _ _ _ (@pv _ 2 _ _ (by rfl) (by first | exact Or.inl rfl | exact Or.inr (Or.inl rfl) | exact Or.inr (Or.inr rfl)) (by decide) (by decide)) (@pa_cons _ _ _ _ _ (@pv _ 3 _ _ (by rfl) (by first | exact Or.inl rfl | exact Or.inr (Or.inl rfl) | exact Or.inr (Or.inr rfl)) (by decide) (by decide)) pa_nil (by rfl)) (by rfl)) (by decide) (by rfl) (by rfl))) (by intro _; rfl)))) (@pg_name _ _ (4) _ sc_law.nd rfl (Or.inl rfl) (by first | exact .inl rfl | exact .inr rfl)) (@pss_cons _ _ _ _ _ (@ps_set _ _ (6) _ _ _ _ sc_law.nd rfl (Or.inl rfl) (@pe_cal _ _ _ _ _ _ _ _ _ _ c_is_copies (hr.mono (by decide)) (by rfl) (@pa_cons _ _ _ _ _ (@pv _ 4 _ _ (by rfl) (by first | exact Or.inl rfl | exact Or.inr (Or.inl rfl) | exact Or.inr (Or.inr rfl)) (by decide) (by decide)) pa_nil (by rfl)) (by decide) (by rfl) (by rfl)) (by rfl) (by first | exact .inl rfl | exact .inr rfl)) (@pss_one _ _ _ (@ps_if _ _ _ _ _ _ _ _ (@PW.pt _ _ _ (@pw_or _ _ _ _ _ _ _ (@pt_not _ _ _ _ (@pt_val _ _ _ (@pe_callB _ _ _ _ _ _ _ _ _ call_isi (by rfl) T.n_isinstance (by decide +kernel) (@pa_cons _ _ _ _ _ (@pv _ 6 _ _ (by rfl) (by first | exact Or.inl rfl | exact Or.inr (Or.inl rfl) | exact Or.inr (Or.inr rfl)) (by decide) (by decide)) (@pa_cons _ _ _ _ _ (@pe_bltn _ _ (V.ty "bool") _ _ (by rfl) T.n_bool (by decide +kernel) rfl (by decide) (by decide)) pa_nil (by rfl)) (by rfl)) (by decide) (by decide) (by rfl) (by rfl)) (by intro _; rfl))) (@pw_or1 _ _ _ _ (@pt_cmpR _ _ _ _ _ _ _ _ op_ne (@pv _ 6 _ _ (by rfl) (by first | exact Or.inl rfl | exact Or.inr (Or.inl rfl) | exact Or.inr (Or.inr rfl)) (by decide) (by decide)) (@pe_cal _ _ _ _ _ _ _ _ _ _ c__law_is_form (hr.mono (by decide)) (by rfl) (@pa_cons _ _ _ _ _ (@pv _ 4 _ _ (by rfl) (by first | exact Or.inl rfl | exact Or.inr (Or.inl rfl) | exact Or.inr (Or.inr rfl)) (by decide) (by decide)) pa_nil (by rfl)) (by decide) (by rfl) (by rfl)) (nomark _))))) (@pss_one _ _ _ (@ps_ret _ _ _ _ pe_bl)) pss_nil))) (by intro _; rfl)) (@pss_cons _ _ _ _ _ (@ps_for _ _ _ _ _ _ _ _ PassesOwn.never rfl (@pi_range1 _ _ _ _ _ _ rfl T.n_range (@pa_cons _ _ _ _ _ pe_int pa_nil (by rfl)) (by rfl)) (@pg_name _ _ (5) _ sc_law.nd rfl (Or.inl rfl) (by first | exact .inl rfl | exact .inr rfl)) (@pss_cons _ _ _ _ _ (@ps_set _ _ (4) _ _ _ _ sc_law.nd rfl (Or.inl rfl) (@pe_cal _ _ _ _ _ _ _ _ _ _ c__law_bent_more (hr.mono (by decide)) (by rfl) (@pa_cons _ _ _ _ _ (@pv _ 2 _ _ (by rfl) (by first | exact Or.inl rfl | exact Or.inr (Or.inl rfl) | exact Or.inr (Or.inr rfl)) (by decide) (by decide)) (@pa_cons _ _ _ _ _ (@pv _ 3 _ _ (by rfl) (by first | exact Or.inl rfl | exact Or.inr (Or.inl rfl) | exact Or.inr (Or.inr rfl)) (by decide) (by decide)) pa_nil (by rfl)) (by rfl)) (by decide) (by rfl) (by rfl)) (by rfl) (by first | exact .inl rfl | exact .inr rfl)) (@pss_cons _ _ _ _ _ (@ps_set _ _ (7) _ _ _ _ sc_law.nd rfl (Or.inl rfl) (@pe_callB _ _ _ _ _ _ _ _ _ (call_repr hr.gd hr.units) (by rfl) T.n_repr (by decide +kernel) (@pa_cons _ _ _ _ _ (@pv _ 4 _ _ (by rfl) (by first | exact Or.inl rfl | exact Or.inr (Or.inl rfl) | exact Or.inr (Or.inr rfl)) (by decide) (by decide)) pa_nil (by rfl)) (by decide) (by decide) (by rfl) (by rfl)) (by rfl) (by first | exact .inl rfl | exact .inr rfl)) (@pss_cons _ _ _ _ _ (@ps_set _ _ (6) _ _ _ _ sc_law.nd rfl (Or.inl rfl) (@pe_cal _ _ _ _ _ _ _ _ _ _ c_is_copies (hr.mono (by decide)) (by rfl) (@pa_cons _ _ _ _ _ (@pv _ 4 _ _ (by rfl) (by first | exact Or.inl rfl | exact Or.inr (Or.inl rfl) | exact Or.inr (Or.inr rfl)) (by decide) (by decide)) pa_nil (by rfl)) (by decide) (by rfl) (by rfl)) (by rfl) (by first | exact .inl rfl | exact .inr rfl)) (@pss_one _ _ _ (@ps_if _ _ _ _ _ _ _ _ (@PW.pt _ _ _ (@pw_or _ _ _ _ _ _ _ (@pt_not _ _ _ _ (@pt_val _ _ _ (@pe_callB _ _ _ _ _ _ _ _ _ call_isi (by rfl) T.n_isinstance (by decide +kernel) (@pa_cons _ _ _ _ _ (@pv _ 6 _ _ (by rfl) (by first | exact Or.inl rfl | exact Or.inr (Or.inl rfl) | exact Or.inr (Or.inr rfl)) (by decide) (by decide)) (@pa_cons _ _ _ _ _ (@pe_bltn _ _ (V.ty "bool") _ _ (by rfl) T.n_bool (by decide +kernel) rfl (by decide) (by decide)) pa_nil (by rfl)) (by rfl)) (by decide) (by decide) (by rfl) (by rfl)) (by intro _; rfl))) (@pw_or _ _ _ _ _ _ _ (@pt_cmpR _ _ _ _ _ _ _ _ op_ne (@pv _ 6 _ _ (by rfl) (by first | exact Or.inl rfl | exact Or.inr (Or.inl rfl) | exact Or.inr (Or.inr rfl)) (by decide) (by decide)) (@pe_cal _ _ _ _ _ _ _ _ _ _ c__law_is_form (hr.mono (by decide)) (by rfl) (@pa_cons _ _ _ _ _ (@pv _ 4 _ _ (by rfl) (by first | exact Or.inl rfl | exact Or.inr (Or.inl rfl) | exact Or.inr (Or.inr rfl)) (by decide) (by decide)) pa_nil (by rfl)) (by decide) (by rfl) (by rfl)) (nomark _)) (@pw_or1 _ _ _ _ (@pt_cmpR _ _ _ _ _ _ _ _ op_ne (@pe_callB _ _ _ _ _ _ _ _ _ (call_repr hr.gd hr.units) (by rfl) T.n_repr (by decide +kernel) (@pa_cons _ _ _ _ _ (@pv _ 4 _ _ (by rfl) (by first | exact Or.inl rfl | exact Or.inr (Or.inl rfl) | exact Or.inr (Or.inr rfl)) (by decide) (by decide)) pa_nil (by rfl)) (by decide) (by decide) (by rfl) (by rfl)) (@pv _ 7 _ _ (by rfl) (by first | exact Or.inl rfl | exact Or.inr (Or.inl rfl) | exact Or.inr (Or.inr rfl)) (by decide) (by decide)) (nomark _)))))) (@pss_one _ _ _ (@ps_ret _ _ _ _ pe_bl)) pss_nil))))) (by intro _; rfl)) (@pss_cons _ _ _ _ _ (@ps_set _ _ (8) _ _ _ _ sc_law.nd rfl (Or.inl rfl) (@pe_op _ _ _ _ _ _ _ _ op_add pe_int (@pe_cal _ _ _ _ _ _ _ _ _ _ c__law_pick (hr.mono (by decide)) (by rfl) (@pa_cons _ _ _ _ _ (@pv _ 2 _ _ (by rfl) (by first | exact Or.inl rfl | exact Or.inr (Or.inl rfl) | exact Or.inr (Or.inr rfl)) (by decide) (by decide)) (@pa_cons _ _ _ _ _ pe_int pa_nil (by rfl)) (by rfl)) (by decide) (by rfl) (by rfl))) (by rfl) (by first | exact .inl rfl | exact .inr rfl)) (@pss_one _ _ _ (@ps_for _ _ _ _ _ _ _ _ PassesOwn.never rfl (@pi_list _ _ _ _ (@pe_lst _ _ _ _ (@pa_cons _ _ _ _ _ (@pe_op _ _ _ _ _ _ _ _ op_repTA (@pe_tup _ _ _ _ _ (@pa_cons _ _ _ _ _ (@pe_tup _ _ _ _ _ (@pa_cons _ _ _ _ _ pe_str (@pa_cons _ _ _ _ _ pe_str pa_nil (by rfl)) (by rfl))) pa_nil (by rfl))) (@pv _ 8 _ _ (by rfl) (by first | exact Or.inl rfl | exact Or.inr (Or.inl rfl) | exact Or.inr (Or.inr rfl)) (by decide) (by decide))) (@pa_cons _ _ _ _ _ (@pe_tup _ _ _ _ _ (@pa_cons _ _ _ _ _ (@pe_tup _ _ _ _ _ (@pa_cons _ _ _ _ _ pe_str (@pa_cons _ _ _ _ _ pe_int (@pa_cons _ _ _ _ _ (@pv _ 8 _ _ (by rfl) (by first | exact Or.inl rfl | exact Or.inr (Or.inl rfl) | exact Or.inr (Or.inr rfl)) (by decide) (by decide)) pa_nil (by rfl)) (by rfl)) (by rfl))) pa_nil (by rfl))) (@pa_cons _ _ _ _ _ (@pe_tup _ _ _ _ _ (@pa_cons _ _ _ _ _ (@pe_tup _ _ _ _ _ (@pa_cons _ _ _ _ _ pe_str (@pa_cons _ _ _ _ _ pe_str pa_nil (by rfl)) (by rfl))) (@pa_cons _ _ _ _ _ (@pe_tup _ _ _ _ _ (@pa_cons _ _ _ _ _ pe_str (@pa_cons _ _ _ _ _ pe_int (@pa_cons _ _ _ _ _ (@pe_op _ _ _ _ _ _ _ _ op_sub (@pv _ 8 _ _ (by rfl) (by first | exact Or.inl rfl | exact Or.inr (Or.inl rfl) | exact Or.inr (Or.inr rfl)) (by decide) (by decide)) pe_int) pa_nil (by rfl)) (by rfl)) (by rfl))) pa_nil (by rfl)) (by rfl))) pa_nil (by rfl)) (by rfl)) (by rfl)))) (@pg_name _ _ (4) _ sc_law.nd rfl (Or.inl rfl) (by first | exact .inl rfl | exact .inr rfl)) (@pss_one _ _ _ (@ps_if _ _ _ _ _ _ _ _ (@pt_cmpR _ _ _ _ _ _ _ _ op_ne (@pe_cal _ _ _ _ _ _ _ _ _ _ c_is_copies (hr.mono (by decide)) (by rfl) (@pa_cons _ _ _ _ _ (@pv _ 4 _ _ (by rfl) (by first | exact Or.inl rfl | exact Or.inr (Or.inl rfl) | exact Or.inr (Or.inr rfl)) (by decide) (by decide)) pa_nil (by rfl)) (by decide) (by rfl) (by rfl)) (@pe_cmpR _ _ _ _ _ _ _ _ op_le (@pv _ 8 _ _ (by rfl) (by first | exact Or.inl rfl | exact Or.inr (Or.inl rfl) | exact Or.inr (Or.inr rfl)) (by decide) (by decide)) pe_int (nomark _)) (nomark _)) (@pss_one _ _ _ (@ps_ret _ _ _ _ pe_bl)) pss_nil)) (by intro _; rfl)))))))) (by intro _; rfl)) (@pss_one _ _ _ (@ps_ret _ _ _ _ (@pe_and _ _ _ _ _ _ _ (@pe_cmpR _ _ _ _ _ _ _ _ op_is_bl (@pe_cal _ _ _ _ _ _ _ _ _ _ c_is_copies (hr.mono (by decide)) (by rfl) (@pa_cons _ _ _ _ _ (@pe_tup _ _ _ _ _ pa_nil) pa_nil (by rfl)) (by decide) (by rfl) (by rfl)) pe_bl (nomark _)) (@pe_and _ _ _ _ _ _ _ (@pe_cmpR _ _ _ _ _ _ _ _ op_is_bl (@pe_cal _ _ _ _ _ _ _ _ _ _ c_is_copies (hr.mono (by decide)) (by rfl) (@pa_cons _ _ _ _ _ pe_non pa_nil (by rfl)) (by decide) (by rfl) (by rfl)) pe_bl (nomark _)) (@pe_one _ _ _ _ _ (@pe_cmpR _ _ _ _ _ _ _ _ op_is_bl (@pe_cal _ _ _ _ _ _ _ _ _ _ c_is_copies (hr.mono (by decide)) (by rfl) (@pa_cons _ _ _ _ _ pe_str pa_nil (by rfl)) (by decide) (by rfl) (by rfl)) pe_bl (nomark _)))))))), ?_⟩
    refine ⟨_, rfl, a, _, rfl, .inl hSq, _, _, rfl, _, _, rfl, _, rfl, by split <;> (try split) <;> omega, by split <;> (try split) <;> omega, ?_⟩
    refine for_range (lo := 0) (fun i σ H' => ∃ v1 v2 v3 v4 v5 v6 v7 v8 : Option V, σ = [some (.ref a), v1, v2, v3, v4, v5, v6, v7, v8] ∧ Same H H') ⟨_, _, _, _, _, _, _, _, rfl, .refl H⟩ ?_ ?_
    · rintro i _ H1 hi ⟨v1, v2, v3, v4, v5, v6, v7, v8, rfl, s1⟩
      rw [Int.zero_add]
      refine ⟨_, rfl, _, rfl, a, ns, i, rfl, sqL_same s1 hSq, fun r H2 hr2 rl2 s2 => ?_⟩
      have hrn : H r = none := s1.free hr2
      have o2 : Off r H H2 := (s1.trans s2).off
      clear hr2 s2 s1
      try dsimp only
      refine ⟨_, rfl, _, rfl, r, 40, rfl, by decide, by decide, rl2, fun x H3 hx hxl rl3 o3 => ?_⟩
      refine ⟨r, x, rfl, by omega, hx, rl3, fun fa2 H4 us ps hfa hfa4 pr4 tld hsum _ rl4 o4 => ?_⟩
      have hcl : (cs x).length = x.length := cs_len x
      have hg : ∀ p ∈ ps, pGood x.length p := fun p hp => by have := tld.good p hp; rwa [hcl] at this
      have hxl : x.length ≤ 40 := by omega
      have oH4 := (o2.trans o3).trans o4
      clear o2 o3 o4 rl2 rl3 hfa tld
      have mem1 : ∀ {z : Addr}, z ∉ [r] → z ≠ r := fun h z => h (by rw [z]; exact List.mem_cons_self)
      have hul := pr4.len
      have hpl := sumL_len hg
      have df4 : Dx [r] H4 (.ref fa2) (.tuple (ps.map pD)) := .tup hfa4 (rl_tup rl4 hfa4) (prts_dx pr4 fun _ _ e => rl_tup rl4 e)
      have fS : fmS (.tuple (ps.map pD)) := fmS.tup (fun d hd => by
        obtain ⟨p, hp, rfl⟩ := List.mem_map.mp hd
        exact pD_ptS (hg p hp) (by omega)) (by rw [List.length_map]; omega)
      have nef := mem1 (rl_tup rl4 hfa4)
      have prK : ∀ {Ha Hb : Hp}, Rl Ha r → Off r Ha Hb → Prts Ha us ps → Prts Hb us ps := fun {Ha Hb} rla o p => p.kept fun q ob e ⟨xs, ex⟩ => o _ _ e (by subst ex; exact mem1 (rl_tup rla e))
      try dsimp only
      refine ⟨_, rfl, by rw [hS]; show 1 ≤ 16777216; decide, fun l0 hl0 => ?_⟩
      have s5 := Same.upd_new (o := .lst [V.ref fa2]) hl0
      have e_l0 : (upd H4 l0 (.lst [V.ref fa2])) l0 = some (.lst [V.ref fa2]) := upd_same
      have ne_l0 := mem1 (rl_new rl4 hl0)
      have rl5 := rl4.same s5
      have hfa5 := s5 _ _ hfa4
      have pr5 : Prts _ us ps := pr4.kept fun q ob e _ => s5 _ _ e
      have df5 := df4.off1 s5.off
      have oH5 := oH4.trans s5.off
      generalize upd H4 l0 (.lst [V.ref fa2]) = H5 at s5 e_l0 rl5 hfa5 pr5 df5 oH5
      clear s5 hl0 hfa4 pr4 df4 oH4 rl4
      refine ⟨8, rfl, by decide, by decide, fun D hD => ?_⟩
      have ne_D := mem1 (rl_new rl5 hD)
      refine lc_range (lo := 0) (n := 8) (fun j H' => Rl H' r ∧ Off r H5 H' ∧ ∃ (vs : List V) (ds : List PyData), H' D = some (.lst vs) ∧ vs.length = j ∧ DxAll [r, D] H' vs ds ∧ ∀ d ∈ ds, fmS d) ⟨rl5.same (Same.upd_new hD), (Same.upd_new hD).off, [], [], upd_same, rfl, .nil, fun d hd => nomatch hd⟩ ?_ ?_
      · rintro j H6 hj ⟨rl6, o6, vs, ds, hD6, hvl, dv, hds⟩
        have hfa6 := o6 _ _ hfa5 nef
        have av6 : Av r [r, D] H6 := ⟨List.mem_cons_self, fun b hb => by
          simp only [List.mem_cons, List.not_mem_nil, or_false] at hb
          rcases hb with rfl | rfl
          · obtain ⟨n, z, hp⟩ := id rl6
            exact ⟨_, hp⟩
          · exact ⟨_, hD6⟩⟩
        refine ⟨rfl, _, rfl, _, rfl, [r, D], r, fa2, us, ps, x.length, rfl, av6, rl6, hfa6, prK rl5 o6 pr5, hg, hxl, hsum, fun v d H7 dx7 fv rl7 o7 => ?_⟩
        have hD7 := o7 _ _ hD6 ne_D
        have oD : OffL [r, D] H7 (upd H7 D (.lst (vs ++ [v]))) := fun b o e nb => by rw [upd_ne (fun z => nb (by rw [z]; exact List.mem_cons_of_mem _ List.mem_cons_self))]; exact e
        refine ⟨vs, hD7, by rw [hvl, hS]; omega, rl7.upd_ne ne_D, fun b ob hb nb => ?_, vs ++ [v], ds ++ [d], upd_same, by rw [List.length_append, hvl]; rfl, ((dv.off (Off.offL o7 List.mem_cons_self)).app (.cons dx7 .nil)).off oD, fun e he => ?_⟩
        · rw [upd_ne (ne_of_none hb hD)]
          exact o7 _ _ (o6 _ _ hb nb) nb
        · rcases List.mem_append.mp he with q | q
          · exact hds e q
          · rw [List.mem_singleton.mp q]; exact fv
      rintro H6 ⟨rl6, o6, vs, ds, hD6, hvl, dv, hds⟩
      have hfa6 := o6 _ _ hfa5 nef
      have pr6 := prK rl5 o6 pr5
      have df6 := df5.off1 o6
      have e_l06 := o6 _ _ e_l0 ne_l0
      have oH6 := oH5.trans o6
      clear e_l0 o6 hD df5 pr5 hfa5 oH5 rl5 prK
      refine ⟨l0, D, _, _, rfl, rfl, e_l06, hD6, by rw [hS]; show 1 + _ ≤ 16777216; omega, fun l1 hl1 => ?_⟩
      have s7 := Same.upd_new (o := .lst ([V.ref fa2] ++ vs)) hl1
      have e_l1 : (upd H6 l1 (.lst ([V.ref fa2] ++ vs))) l1 = some (.lst ([V.ref fa2] ++ vs)) := upd_same
      have rl7 := rl6.same s7
      have hth : ∀ v ∈ [V.ref fa2] ++ vs, ∃ (rs : List Addr) (d : PyData), Dx rs (upd H6 l1 (.lst ([V.ref fa2] ++ vs))) v d ∧ fmS d := fun v hv => by
        rcases List.mem_append.mp hv with q | q
        · rw [List.mem_singleton.mp q]
          exact ⟨_, _, df6.off (Same.offL s7), fS⟩
        · obtain ⟨i, hi⟩ := List.getElem?_of_mem q
          obtain ⟨d, hd, dd⟩ := dv.at' hi
          exact ⟨_, d, dd.off (Same.offL s7), hds d (List.mem_of_getElem? hd)⟩
      have pr7 : Prts _ us ps := pr6.kept fun q ob e _ => s7 _ _ e
      have hfa7 := s7 _ _ hfa6
      have oH7 := oH6.trans s7.off
      generalize upd H6 l1 (.lst ([V.ref fa2] ++ vs)) = H7 at s7 e_l1 rl7 hth pr7 hfa7 oH7
      generalize [V.ref fa2] ++ vs = things at e_l1 hth
      clear s7 hl1 e_l06 dv hds hD6 hvl ne_D ne_l0 rl6 pr6 df6 hfa6 oH6
      refine ⟨l1, rfl, ⟨_, SqL.of e_l1⟩, ?_⟩
      refine for_list (K := K) (a := l1) (xs := things) (fun j σ H' => ∃ w4 w6 : Option V, σ = [some (.ref a), some (.int (i : Int)), some (.ref r), some (.ref fa2), w4, v5, w6, v7, v8] ∧ Same H7 H') ⟨_, _, rfl, .refl _⟩ (fun j σ H' _ h => by
        obtain ⟨_, _, _, sm⟩ := h
        exact SqL.of (sm _ _ e_l1)) ?_ ?_
      · rintro j v _ H8 hj ⟨w4, w6, rfl, s8⟩
        obtain ⟨rs, d, dx, fv⟩ := hth v (List.mem_of_getElem? hj)
        have dx8 := dx.off (Same.offL s8)
        refine ⟨_, rfl, rs, v, d, rfl, dx8, fv.2, fun H9 s9 => ?_⟩
        have dx9 := dx8.off (Same.offL s9)
        refine ⟨_, rfl, _, _, _, _, rfl, .bl _, kit_bool_bool, _, rfl, ?_⟩
        refine ite2 (fun h => by cases h) (fun _ => ?_)
        refine ⟨_, rfl, _, rfl, rs, v, d, rfl, dx9, fv.2, fun H10 s10 => ⟨rfl, _, rfl, ?_⟩⟩
        refine ite2 (fun h => by simp at h) (fun _ => ?_)
        exact ⟨_, _, rfl, s8.trans (s9.trans s10)⟩
      rintro _ H8 ⟨w4, w6, rfl, s8⟩
      have rl8 := rl7.same s8
      have hfa8 := s8 _ _ hfa7
      have pr8 : Prts H8 us ps := pr7.kept fun q ob e _ => s8 _ _ e
      have oH8 := oH7.trans s8.off
      clear s8 hth e_l1 rl7 hfa7 pr7 oH7
      refine ⟨3, rfl, by decide, by decide, for_range (lo := 0) (n := 3) (fun j σ H' => ∃ w4 w5 w6 w7 : Option V, σ = [some (.ref a), some (.int (i : Int)), some (.ref r), some (.ref fa2), w4, w5, w6, w7, v8] ∧ Rl H' r ∧ Off r H H' ∧ H' fa2 = some (.tup us) ∧ Prts H' us ps) ⟨_, _, _, _, rfl, rl8, oH8, hfa8, pr8⟩ ?_ ?_⟩
      · rintro j _ H9 hj ⟨w4, w5, w6, w7, rfl, rl9, o9, hfa9, pr9⟩
        have av9 : Av r [r] H9 := ⟨List.mem_cons_self, fun b hb => by
          rw [List.mem_singleton.mp hb]
          obtain ⟨n, z, hp⟩ := id rl9
          exact ⟨_, hp⟩⟩
        refine ⟨_, rfl, _, rfl, [r], r, fa2, us, ps, x.length, rfl, av9, rl9, hfa9, pr9, hg, hxl, hsum, fun v d H10 dx10 fv rl10 o10 => ?_⟩
        have hfa10 := o10 _ _ hfa9 nef
        have pr10 : Prts H10 us ps := pr9.kept fun q ob e ⟨xs, ex⟩ => o10 _ _ e (by subst ex; exact mem1 (rl_tup rl9 e))
        obtain ⟨m1, m2, m3, m4⟩ := fv.1.shown
        try dsimp only
        refine ⟨_, rfl, v, d, rfl, dx10.dp, m1, m2, m3, m4, ?_⟩
        refine ⟨_, rfl, [r], v, d, rfl, dx10, fv.2, fun H11 s11 => ?_⟩
        have dx11 := dx10.off (Same.offL s11)
        refine ⟨_, rfl, _, _, _, _, rfl, .bl _, kit_bool_bool, _, rfl, ?_⟩
        refine ite2 (fun h => by cases h) (fun _ => ?_)
        refine ⟨_, rfl, _, rfl, [r], v, d, rfl, dx11, fv.2, fun H12 s12 => ⟨rfl, _, rfl, ?_⟩⟩
        refine ite2 (fun h => by simp at h) (fun _ => ?_)
        have dx12 := dx11.off (Same.offL s12)
        refine ⟨_, rfl, v, d, rfl, dx12.dp, m1, m2, m3, m4, _, rfl, rfl, _, rfl, ?_⟩
        refine ite2 (fun h => by simp at h) (fun _ => ?_)
        have s1012 := s11.trans s12
        exact ⟨_, _, _, _, rfl, rl10.same s1012, (o9.trans o10).trans s1012.off, s1012 _ _ hfa10, pr10.kept fun q ob e _ => s1012 _ _ e⟩
      rintro _ H9 ⟨w4, w5, w6, w7, rfl, rl9, o9, hfa9, pr9⟩
      clear hfa8 pr8 oH8 rl8 hfa9 pr9 hg hsum fS
      refine ⟨_, rfl, r, 3, rfl, by decide, by decide, rl9, fun z H10 z0 z1 rl10 o10 => ⟨_, _, rfl, rfl, ?_⟩⟩
      have o10 := o9.trans o10
      clear o9 rl9
      try dsimp only
      refine ⟨by rw [hS]; show 2 ≤ 16777216; decide, fun t1 hn => ?_⟩
      have s11 := Same.upd_new (o := .tup [V.str (Str.ofString "sign"), V.str (Str.ofString "z")]) hn
      have e_t1 : (upd H10 t1 (.tup [V.str (Str.ofString "sign"), V.str (Str.ofString "z")])) t1 = some (.tup [V.str (Str.ofString "sign"), V.str (Str.ofString "z")]) := upd_same
      clear hn
      try dsimp only
      generalize upd H10 t1 (.tup [V.str (Str.ofString "sign"), V.str (Str.ofString "z")]) = G11 at s11 e_t1
      have o10 := o10.trans s11.off
      clear s11
      have d1 : Dx [] G11 (.ref t1) (.tuple [.str (Str.ofString "sign"), .str ⟨#[122]⟩]) := .tup e_t1 (fun h => nomatch h) (.cons (.str _) (.cons (show Dx [] _ (V.str ⟨#[122]⟩) _ from .str _) .nil))
      refine ⟨by rw [hS]; show 1 ≤ 16777216; decide, fun T1 hn => ?_⟩
      have s12 := Same.upd_new (o := .tup [V.ref t1]) hn
      have e_T1 : (upd G11 T1 (.tup [V.ref t1])) T1 = some (.tup [V.ref t1]) := upd_same
      clear hn
      try dsimp only
      generalize upd G11 T1 (.tup [V.ref t1]) = G12 at s12 e_T1
      have o10 := o10.trans s12.off
      have d1 := d1.off (Same.offL s12)
      clear s12
      refine ⟨_, rfl, T1, _, _, rfl, rfl, e_T1, by omega, by omega, Nat.le_refl _, by show 1 * _ ≤ _; omega, fun B1 G13 e_B1 s13 => ?_⟩
      have o10 := o10.trans s13.off
      have d1 := d1.off (Same.offL s13)
      clear s13
      obtain ⟨mm, hmm⟩ : ∃ mm : Nat, (mm : Int) = 299 + z := ⟨(299 + z).toNat, by omega⟩
      rw [← hmm] at e_B1 ⊢
      have hmm1 : 299 ≤ mm ∧ mm ≤ 301 := by omega
      rw [Int.toNat_natCast, rep_one] at e_B1
      have dB : Dx [] G13 (.ref B1) _ := .tup e_B1 (fun h => nomatch h) (dx_rep1 d1 mm)
      refine ⟨_, rfl, by rw [hS]; show 3 ≤ 16777216; decide, fun c1 hn => ?_⟩
      have s14 := Same.upd_new (o := .tup [V.str (Str.ofString "copy"), V.int 0, V.int (mm : Int)]) hn
      have e_c1 : (upd G13 c1 (.tup [V.str (Str.ofString "copy"), V.int 0, V.int (mm : Int)])) c1 = some (.tup [V.str (Str.ofString "copy"), V.int 0, V.int (mm : Int)]) := upd_same
      clear hn
      try dsimp only
      generalize upd G13 c1 (.tup [V.str (Str.ofString "copy"), V.int 0, V.int (mm : Int)]) = G14 at s14 e_c1
      have o10 := o10.trans s14.off
      have d1 := d1.off (Same.offL s14)
      have dB := dB.off (Same.offL s14)
      clear s14
      have d2 : Dx [] G14 (.ref c1) (.tuple [.str (Str.ofString "copy"), .int 0, .int (mm : Int)]) := .tup e_c1 (fun h => nomatch h) (.cons (.str _) (.cons (.int _) (.cons (.int _) .nil)))
      refine ⟨by rw [hS]; show 1 ≤ 16777216; decide, fun C1 hn => ?_⟩
      have s15 := Same.upd_new (o := .tup [V.ref c1]) hn
      have e_C1 : (upd G14 C1 (.tup [V.ref c1])) C1 = some (.tup [V.ref c1]) := upd_same
      clear hn
      try dsimp only
      generalize upd G14 C1 (.tup [V.ref c1]) = G15 at s15 e_C1
      have o10 := o10.trans s15.off
      have d1 := d1.off (Same.offL s15)
      have dB := dB.off (Same.offL s15)
      have d2 := d2.off (Same.offL s15)
      clear s15
      have dC : Dx [] G15 (.ref C1) _ := .tup e_C1 (fun h => nomatch h) (.cons d2 .nil)
      refine ⟨by rw [hS]; show 2 ≤ 16777216; decide, fun a1 hn => ?_⟩
      have s16 := Same.upd_new (o := .tup [V.str (Str.ofString "sign"), V.str (Str.ofString "a")]) hn
      have e_a1 : (upd G15 a1 (.tup [V.str (Str.ofString "sign"), V.str (Str.ofString "a")])) a1 = some (.tup [V.str (Str.ofString "sign"), V.str (Str.ofString "a")]) := upd_same
      clear hn
      try dsimp only
      generalize upd G15 a1 (.tup [V.str (Str.ofString "sign"), V.str (Str.ofString "a")]) = G16 at s16 e_a1
      have o10 := o10.trans s16.off
      have d1 := d1.off (Same.offL s16)
      have dB := dB.off (Same.offL s16)
      have d2 := d2.off (Same.offL s16)
      have dC := dC.off (Same.offL s16)
      clear s16
      have d3 : Dx [] G16 (.ref a1) (.tuple [.str (Str.ofString "sign"), .str (Str.ofString "a")]) := .tup e_a1 (fun h => nomatch h) (.cons (.str _) (.cons (.str _) .nil))
      refine ⟨_, rfl, _, _, rfl, rfl, by rw [hS]; show 3 ≤ 16777216; decide, fun c2 hn => ?_⟩
      have s17 := Same.upd_new (o := .tup [V.str (Str.ofString "copy"), V.int 0, V.int ((mm : Int) - 1)]) hn
      have e_c2 : (upd G16 c2 (.tup [V.str (Str.ofString "copy"), V.int 0, V.int ((mm : Int) - 1)])) c2 = some (.tup [V.str (Str.ofString "copy"), V.int 0, V.int ((mm : Int) - 1)]) := upd_same
      clear hn
      try dsimp only
      generalize upd G16 c2 (.tup [V.str (Str.ofString "copy"), V.int 0, V.int ((mm : Int) - 1)]) = G17 at s17 e_c2
      have o10 := o10.trans s17.off
      have d1 := d1.off (Same.offL s17)
      have dB := dB.off (Same.offL s17)
      have d2 := d2.off (Same.offL s17)
      have dC := dC.off (Same.offL s17)
      have d3 := d3.off (Same.offL s17)
      clear s17
      have d4 : Dx [] G17 (.ref c2) (.tuple [.str (Str.ofString "copy"), .int 0, .int ((mm : Int) - 1)]) := .tup e_c2 (fun h => nomatch h) (.cons (.str _) (.cons (.int _) (.cons (.int _) .nil)))
      refine ⟨by rw [hS]; show 2 ≤ 16777216; decide, fun C2 hn => ?_⟩
      have s18 := Same.upd_new (o := .tup [V.ref a1, V.ref c2]) hn
      have e_C2 : (upd G17 C2 (.tup [V.ref a1, V.ref c2])) C2 = some (.tup [V.ref a1, V.ref c2]) := upd_same
      clear hn
      try dsimp only
      generalize upd G17 C2 (.tup [V.ref a1, V.ref c2]) = G18 at s18 e_C2
      have o10 := o10.trans s18.off
      have d1 := d1.off (Same.offL s18)
      have dB := dB.off (Same.offL s18)
      have d2 := d2.off (Same.offL s18)
      have dC := dC.off (Same.offL s18)
      have d3 := d3.off (Same.offL s18)
      have d4 := d4.off (Same.offL s18)
      clear s18
      have dE : Dx [] G18 (.ref C2) _ := .tup e_C2 (fun h => nomatch h) (.cons d3 (.cons d4 .nil))
      refine ⟨by rw [hS]; show 3 ≤ 16777216; decide, fun l2 hn => ?_⟩
      have s19 := Same.upd_new (o := .lst [V.ref B1, V.ref C1, V.ref C2]) hn
      have e_l2 : (upd G18 l2 (.lst [V.ref B1, V.ref C1, V.ref C2])) l2 = some (.lst [V.ref B1, V.ref C1, V.ref C2]) := upd_same
      clear hn
      try dsimp only
      generalize upd G18 l2 (.lst [V.ref B1, V.ref C1, V.ref C2]) = G19 at s19 e_l2
      have o10 := o10.trans s19.off
      have d1 := d1.off (Same.offL s19)
      have dB := dB.off (Same.offL s19)
      have d2 := d2.off (Same.offL s19)
      have dC := dC.off (Same.offL s19)
      have d3 := d3.off (Same.offL s19)
      have d4 := d4.off (Same.offL s19)
      have dE := dE.off (Same.offL s19)
      clear s19
      have okE2 : ∀ a b : PyData, elS a → elS b → okP (.tuple [a, b]) := fun a b ha hb => (ptS.t2 ha hb).2
      have okE3 : ∀ a b c : PyData, elS a → elS b → elS c → okP (.tuple [a, b, c]) := fun a b c ha hb hc => (ptS.t3 ha hb hc).2
      have e_z : elS (.str ⟨#[122]⟩) := elS.ch (by decide)
      have e_0 : elS (.int 0) := elS.nu (by decide) (by decide)
      have e_m : elS (.int (mm : Int)) := elS.nu (by omega) (by omega)
      have e_m1 : elS (.int ((mm : Int) - 1)) := elS.nu (by omega) (by omega)
      have e_a : elS (.str (Str.ofString "a")) := elS.c (by decide +kernel)
      have things : ∀ v ∈ [V.ref B1, V.ref C1, V.ref C2], ∃ d, Dx [] G19 v d ∧ okF d ∧ formD d = decide ((mm : Int) ≤ 300) := fun v hv => by
        simp only [List.mem_cons, List.not_mem_nil, or_false] at hv
        rcases hv with rfl | rfl | rfl
        · refine ⟨_, dB, fun ds e => ?_, (form_signs mm 122 (by decide)).trans (decide_eq_decide.mpr ⟨fun h => by omega, fun h => by omega⟩)⟩
          cases e
          exact ⟨by rw [List.length_replicate]; omega, fun d hd => by rw [List.eq_of_mem_replicate hd]; exact okE2 _ _ elS_sign e_z⟩
        · refine ⟨_, dC, fun ds e => ?_, form_one _ (by omega)⟩
          cases e
          exact ⟨by show 1 ≤ 1000; decide, fun d hd => by rw [List.mem_singleton.mp hd]; exact okE3 _ _ _ elS_copy e_0 e_m⟩
        · refine ⟨_, dE, fun ds e => ?_, (form_two _ (by omega)).trans (decide_eq_decide.mpr ⟨fun h => by omega, fun h => by omega⟩)⟩
          cases e
          exact ⟨by show 2 ≤ 1000; decide, fun d hd => by
            simp only [List.mem_cons, List.not_mem_nil, or_false] at hd
            rcases hd with rfl | rfl
            · exact okE2 _ _ elS_sign e_a
            · exact okE3 _ _ _ elS_copy e_0 e_m1⟩
      refine ⟨l2, rfl, ⟨_, SqL.of e_l2⟩, ?_⟩
      refine for_list (D := { nx := _, rt := Q, bk := fun _ _ => True, ct := fun _ _ => True }) (K := K) (a := l2) (xs := [V.ref B1, V.ref C1, V.ref C2]) (fun j σ H' => ∃ w4 : Option V, σ = [some (.ref a), some (.int (i : Int)), some (.ref r), some (.ref fa2), w4, w5, w6, w7, some (.int (mm : Int))] ∧ Same G19 H') ⟨_, rfl, .refl _⟩ (fun j σ H' _ h => by
        obtain ⟨_, _, sm⟩ := h
        exact SqL.of (sm _ _ e_l2)) ?_ ?_
      · rintro j v _ H20 hj ⟨w4, rfl, s20⟩
        obtain ⟨d, dx, of, hf⟩ := things v (List.mem_of_getElem? hj)
        refine ⟨_, rfl, [], v, d, rfl, dx.off (Same.offL s20), of, fun H21 s21 => ?_⟩
        rw [hf]
        refine ⟨_, rfl, _, _, rfl, rfl, rfl, _, rfl, ?_⟩
        refine ite2 (fun h => by simp at h) (fun _ => ?_)
        exact ⟨_, rfl, s20.trans s21⟩
      · rintro _ H20 ⟨w4, rfl, s20⟩
        have oE := o10.trans s20.off
        exact ⟨_, _, _, _, _, _, _, _, rfl, fun b ob e => oE b ob e (fun z => by rw [z, hrn] at e; cases e)⟩
    · rintro _ H2 ⟨v1, v2, v3, v4, v5, v6, v7, v8, rfl, s2⟩
      refine ⟨by rw [hS]; show 0 ≤ 16777216; decide, fun e he => ?_⟩
      have dE : Dx [] (upd H2 e (.tup [])) (.ref e) (.tuple []) := .tup upd_same (fun h => nomatch h) .nil
      refine ⟨[], _, _, rfl, dE, fun ds e => by cases e; exact ⟨by decide, fun d hd => nomatch hd⟩, fun H3 s3 => ⟨_, _, rfl, rfl, _, rfl, ?_⟩⟩
      refine ite2 (fun _ => ?_) (fun h => absurd (by decide +kernel) h)
      refine ⟨[], _, _, rfl, .non, fun ds e => (by cases e), fun H4 s4 => ⟨_, _, rfl, rfl, _, rfl, ?_⟩⟩
      refine ite2 (fun _ => ?_) (fun h => absurd (by decide +kernel) h)
      refine ⟨[], _, _, rfl, .str _, fun ds e => (by cases e), fun H5 s5 => ⟨_, _, rfl, rfl, ?_⟩⟩
      exact k H5
end
end K20

set_option Elab.async false
set_option linter.all false
set_option maxRecDepth 100000
set_option maxHeartbeats 4000000
namespace L2
open PySem
theorem funN_mk {K : PySem.W.Frag} {h : Heap} {mg : Str → Option Value} {x : Str} {st : Stmt} {ps : List Str} {f : Addr} {oc : Value} {od an : Option Addr} {osl : Array (Option Value)} {kV doc pm cdv ct : Value} (X : K.In h) (G : h.Ns mainGlobals mg)
    (hb : ∀ (kV doc pm : Value) (an : Option Addr) (cdv ct : Value) (us : List Value), us.length = ps.length → bindArgs (PySem.W.fnOf x x (defArgs st) (defBody st) (defScope st) .none kV doc pm an cdv ct) ⟨us, []⟩ = pure (ps.zip us))
    (a : PySem.W.nsIn K mainGlobals x = some (some (.ref f))) (l : K.lookup f = some ⟨oc, od, .func (PySem.W.fnOf x x (defArgs st) (defBody st) (defScope st) .none kV doc pm an cdv ct), osl⟩)
    (c : PySem.W.codeIn K cdv x = true) (k : PySem.W.keepIn K (.ref f) = true) : FunN K mg x st ps := by
  have F := fun_mk (st := st) l c k
  exact ⟨f, _, F, PySem.W.mg_of X G a, F.binds hb⟩
theorem fun1_mk {K : PySem.W.Frag} {h : Heap} {mg : Str → Option Value} {x : Str} {st : Stmt} {f fa : Addr} {oc : Value} {od an : Option Addr} {osl : Array (Option Value)} {kV doc pm cdv ct : Value} (X : K.In h) (G : h.Ns mainGlobals mg) (hfa : mg x = some (.ref fa))
    (a : PySem.W.nsIn K mainGlobals x = some (some (.ref f))) (l : K.lookup f = some ⟨oc, od, .func (PySem.W.fnOf x x (defArgs st) (defBody st) (defScope st) .none kV doc pm an cdv ct), osl⟩)
    (c : PySem.W.codeIn K cdv x = true) (k : PySem.W.keepIn K (.ref f) = true) : ∃ (kV doc pm : Value) (an : Option Addr) (cdv ct : Value), Fun K x x st fa (PySem.W.fnOf x x (defArgs st) (defBody st) (defScope st) .none kV doc pm an cdv ct) := by
  have e := hfa.symm.trans (PySem.W.mg_of X G a)
  cases e
  exact ⟨_, _, _, _, _, _, fun_mk (st := st) l c k⟩
theorem int_mk {K : PySem.W.Frag} {h : Heap} {mg : Str → Option Value} {x : Str} {n : Int} {t : Tok} (X : K.In h) (G : h.Ns mainGlobals mg) (a : PySem.W.nsIn K mainGlobals x = some (some (.int n t))) : ∃ t, mg x = some (.int n t) := ⟨t, PySem.W.mg_of X G a⟩
end L2
namespace K20
open PySem L2
theorem fin {l : PySem.W.OpenLaw} {w : World} {K : PySem.W.Frag} {mg : Str → Option Value} {fa : Addr} {kV doc pm : Value} {an : Option Addr} {cdv ct : Value} (T : Bu mg)
    (F_is_letter : FunN K mg "is_letter" s_is_letter P_is_letter)
    (F_is_one_letter : FunN K mg "is_one_letter" s_is_one_letter P_is_one_letter)
    (F_is_whole : FunN K mg "is_whole" s_is_whole P_is_whole)
    (F_is_copies : FunN K mg "is_copies" s_is_copies P_is_copies)
    (F_is_part : FunN K mg "is_part" s_is_part P_is_part)
    (F_is_sign : FunN K mg "is_sign" s_is_sign P_is_sign)
    (F_is_copy : FunN K mg "is_copy" s_is_copy P_is_copy)
    (F_length_of : FunN K mg "length_of" s_length_of P_length_of)
    (F_reach_of : FunN K mg "reach_of" s_reach_of P_reach_of)
    (F__law_reel : FunN K mg "_law_reel" s_law_reel P_law_reel)
    (F__law_pick : FunN K mg "_law_pick" s_law_pick P_law_pick)
    (F__law_whole : FunN K mg "_law_whole" s_law_whole P_law_whole)
    (F__law_text : FunN K mg "_law_text" s_law_text P_law_text)
    (F__law_length : FunN K mg "_law_length" s_law_length P_law_length)
    (F__law_from : FunN K mg "_law_from" s_law_from P_law_from)
    (F__law_followed : FunN K mg "_law_followed" s_law_followed P_law_followed)
    (F__law_parts : FunN K mg "_law_parts" s_law_parts P_law_parts)
    (F__law_form : FunN K mg "_law_form" s_law_form P_law_form)
    (F__law_is_part : FunN K mg "_law_is_part" s_law_is_part P_law_is_part)
    (F__law_is_form : FunN K mg "_law_is_form" s_law_is_form P_law_is_form)
    (F__law_bent : FunN K mg "_law_bent" s_law_bent P_law_bent)
    (F__law_bent_more : FunN K mg "_law_bent_more" s_law_bent_more P_law_bent_more)
    (FL : Fun K "law" "law" s_law fa (PySem.W.fnOf "law" "law" (defArgs s_law) (defBody s_law) (defScope s_law) .none kV doc pm an cdv ct)) :
    ∃ fd : FuncData, (∀ (s : Shared) (u : Value), BindsTo s fd ⟨[u], []⟩ [("script", u)]) ∧ ∀ base : Heap, K.In base → base.Ns mainGlobals mg → FnOk l.prog w K mg base CX0 6 fa fd ["script"] (spLaw K) := by
  refine ⟨PySem.W.fnOf "law" "law" (defArgs s_law) (defBody s_law) (defScope s_law) .none kV doc pm an cdv ct, fun s u => .of_eq rfl, fun base _ _ => ?_⟩
  have pick := ok_pick (P := l.prog) (w := w) (base := base) F__law_pick T
  have reel := ok_reel (P := l.prog) (w := w) (base := base) F__law_reel T
  have text := ok_text F__law_text T pick
  have llen := ok_llen (P := l.prog) (w := w) (base := base) F__law_length T
  have fromL := ok_fromL F__law_from T llen
  have lfo := ok_lfo (P := l.prog) (w := w) (base := base) F__law_followed T
  have lpa := ok_lpa F__law_parts T pick
  have lform := ok_lform F__law_form T lpa fromL lfo llen
  have isl := ok_isLet (P := l.prog) (w := w) (base := base) F_is_letter T
  have one := ok_one F_is_one_letter T isl
  have wh := ok_wh (P := l.prog) (w := w) (base := base) F_is_whole T
  have sg := ok_sg F_is_sign T one
  have cy := ok_cy F_is_copy T wh
  have pt := ok_pt F_is_part T sg cy
  have len := ok_lenD (P := l.prog) (w := w) (base := base) F_length_of T
  have rch := ok_rchD (P := l.prog) (w := w) (base := base) F_reach_of T
  have isc := ok_iscD F_is_copies T pt len rch
  have lwh := ok_lwh (P := l.prog) (w := w) (base := base) F__law_whole T
  have lpt := ok_lpt F__law_is_part T lwh
  have llenD := ok_llenD (P := l.prog) (w := w) (base := base) F__law_length T
  have lfm := ok_lfm F__law_is_form T lpt llenD
  have bent := ok_bent F__law_bent T pick llenD
  have more := ok_more F__law_bent_more T pick
  exact ok_law FL T reel pick text lform bent more isc lfm
end K20
open PySem PySem.W PyProof.Rows
set_option maxRecDepth 100000 in
set_option maxHeartbeats 0 in
theorem PySem.Challenge.cw_touchpin_k20_what_is_a_form_holds : PySem.Challenge.rw_touchpin_k20_what_is_a_form.Holds := by
  w_on; o_law; k_head; (case hw => w_witness2)
  k_fill
  refine L2.walk_ofK (l := PySem.Challenge.rw_touchpin_k20_what_is_a_form) (n := 63) (k := 6) (x := "script") (CX := L2.CX0) (sp := K20.spLaw) rfl (by decide) rfl ⟨rfl, rfl, by decide, by decide⟩ (fun w h Y => PySem.W.kIn_of Y) ?F ?S ?C
  case F =>
    intro w mg fa h KX G hmg
    have b_isinstance : mg "isinstance" = none := by
      refine' PySem.W.mg_none_of KX G ?z
      (case z => k_is)
    have b_str : mg "str" = none := by
      refine' PySem.W.mg_none_of KX G ?z
      (case z => k_is)
    have b_int : mg "int" = none := by
      refine' PySem.W.mg_none_of KX G ?z
      (case z => k_is)
    have b_bool : mg "bool" = none := by
      refine' PySem.W.mg_none_of KX G ?z
      (case z => k_is)
    have b_tuple : mg "tuple" = none := by
      refine' PySem.W.mg_none_of KX G ?z
      (case z => k_is)
    have b_list : mg "list" = none := by
      refine' PySem.W.mg_none_of KX G ?z
      (case z => k_is)
    have b_len : mg "len" = none := by
      refine' PySem.W.mg_none_of KX G ?z
      (case z => k_is)
    have b_range : mg "range" = none := by
      refine' PySem.W.mg_none_of KX G ?z
      (case z => k_is)
    have b_min : mg "min" = none := by
      refine' PySem.W.mg_none_of KX G ?z
      (case z => k_is)
    have b_max : mg "max" = none := by
      refine' PySem.W.mg_none_of KX G ?z
      (case z => k_is)
    have b_sum : mg "sum" = none := by
      refine' PySem.W.mg_none_of KX G ?z
      (case z => k_is)
    have b_any : mg "any" = none := by
      refine' PySem.W.mg_none_of KX G ?z
      (case z => k_is)
    have b_all : mg "all" = none := by
      refine' PySem.W.mg_none_of KX G ?z
      (case z => k_is)
    have b_repr : mg "repr" = none := by
      refine' PySem.W.mg_none_of KX G ?z
      (case z => k_is)
    have b_sorted : mg "sorted" = none := by
      refine' PySem.W.mg_none_of KX G ?z
      (case z => k_is)
    have b_MOST_SIGNS : ∃ t, mg "MOST_SIGNS" = some (.int 300 t) := by
      refine' L2.int_mk KX G ?z
      (case z => k_is)
    have F_is_letter : L2.FunN (L2.KOf KX) mg "is_letter" K20.s_is_letter K20.P_is_letter := by
      dsimp only [L2.KOf]
      refine' L2.funN_mk KX G (fun _ _ _ _ _ _ us hl => match us, hl with | [_], _ => rfl) ?a ?l ?c ?k
      (case a => k_is); (case l => k_is); (case c => k_is); (case k => k_is)
    have F_is_one_letter : L2.FunN (L2.KOf KX) mg "is_one_letter" K20.s_is_one_letter K20.P_is_one_letter := by
      dsimp only [L2.KOf]
      refine' L2.funN_mk KX G (fun _ _ _ _ _ _ us hl => match us, hl with | [_], _ => rfl) ?a ?l ?c ?k
      (case a => k_is); (case l => k_is); (case c => k_is); (case k => k_is)
    have F_is_whole : L2.FunN (L2.KOf KX) mg "is_whole" K20.s_is_whole K20.P_is_whole := by
      dsimp only [L2.KOf]
      refine' L2.funN_mk KX G (fun _ _ _ _ _ _ us hl => match us, hl with | [_], _ => rfl) ?a ?l ?c ?k
      (case a => k_is); (case l => k_is); (case c => k_is); (case k => k_is)
    have F_is_copies : L2.FunN (L2.KOf KX) mg "is_copies" K20.s_is_copies K20.P_is_copies := by
      dsimp only [L2.KOf]
      refine' L2.funN_mk KX G (fun _ _ _ _ _ _ us hl => match us, hl with | [_], _ => rfl) ?a ?l ?c ?k
      (case a => k_is); (case l => k_is); (case c => k_is); (case k => k_is)
    have F_is_part : L2.FunN (L2.KOf KX) mg "is_part" K20.s_is_part K20.P_is_part := by
      dsimp only [L2.KOf]
      refine' L2.funN_mk KX G (fun _ _ _ _ _ _ us hl => match us, hl with | [_], _ => rfl) ?a ?l ?c ?k
      (case a => k_is); (case l => k_is); (case c => k_is); (case k => k_is)
    have F_is_sign : L2.FunN (L2.KOf KX) mg "is_sign" K20.s_is_sign K20.P_is_sign := by
      dsimp only [L2.KOf]
      refine' L2.funN_mk KX G (fun _ _ _ _ _ _ us hl => match us, hl with | [_], _ => rfl) ?a ?l ?c ?k
      (case a => k_is); (case l => k_is); (case c => k_is); (case k => k_is)
    have F_is_copy : L2.FunN (L2.KOf KX) mg "is_copy" K20.s_is_copy K20.P_is_copy := by
      dsimp only [L2.KOf]
      refine' L2.funN_mk KX G (fun _ _ _ _ _ _ us hl => match us, hl with | [_], _ => rfl) ?a ?l ?c ?k
      (case a => k_is); (case l => k_is); (case c => k_is); (case k => k_is)
    have F_length_of : L2.FunN (L2.KOf KX) mg "length_of" K20.s_length_of K20.P_length_of := by
      dsimp only [L2.KOf]
      refine' L2.funN_mk KX G (fun _ _ _ _ _ _ us hl => match us, hl with | [_], _ => rfl) ?a ?l ?c ?k
      (case a => k_is); (case l => k_is); (case c => k_is); (case k => k_is)
    have F_reach_of : L2.FunN (L2.KOf KX) mg "reach_of" K20.s_reach_of K20.P_reach_of := by
      dsimp only [L2.KOf]
      refine' L2.funN_mk KX G (fun _ _ _ _ _ _ us hl => match us, hl with | [_], _ => rfl) ?a ?l ?c ?k
      (case a => k_is); (case l => k_is); (case c => k_is); (case k => k_is)
    have F__law_reel : L2.FunN (L2.KOf KX) mg "_law_reel" K20.s_law_reel K20.P_law_reel := by
      dsimp only [L2.KOf]
      refine' L2.funN_mk KX G (fun _ _ _ _ _ _ us hl => match us, hl with | [_, _], _ => rfl) ?a ?l ?c ?k
      (case a => k_is); (case l => k_is); (case c => k_is); (case k => k_is)
    have F__law_pick : L2.FunN (L2.KOf KX) mg "_law_pick" K20.s_law_pick K20.P_law_pick := by
      dsimp only [L2.KOf]
      refine' L2.funN_mk KX G (fun _ _ _ _ _ _ us hl => match us, hl with | [_, _], _ => rfl) ?a ?l ?c ?k
      (case a => k_is); (case l => k_is); (case c => k_is); (case k => k_is)
    have F__law_whole : L2.FunN (L2.KOf KX) mg "_law_whole" K20.s_law_whole K20.P_law_whole := by
      dsimp only [L2.KOf]
      refine' L2.funN_mk KX G (fun _ _ _ _ _ _ us hl => match us, hl with | [_], _ => rfl) ?a ?l ?c ?k
      (case a => k_is); (case l => k_is); (case c => k_is); (case k => k_is)
    have F__law_text : L2.FunN (L2.KOf KX) mg "_law_text" K20.s_law_text K20.P_law_text := by
      dsimp only [L2.KOf]
      refine' L2.funN_mk KX G (fun _ _ _ _ _ _ us hl => match us, hl with | [_, _], _ => rfl) ?a ?l ?c ?k
      (case a => k_is); (case l => k_is); (case c => k_is); (case k => k_is)
    have F__law_length : L2.FunN (L2.KOf KX) mg "_law_length" K20.s_law_length K20.P_law_length := by
      dsimp only [L2.KOf]
      refine' L2.funN_mk KX G (fun _ _ _ _ _ _ us hl => match us, hl with | [_], _ => rfl) ?a ?l ?c ?k
      (case a => k_is); (case l => k_is); (case c => k_is); (case k => k_is)
    have F__law_from : L2.FunN (L2.KOf KX) mg "_law_from" K20.s_law_from K20.P_law_from := by
      dsimp only [L2.KOf]
      refine' L2.funN_mk KX G (fun _ _ _ _ _ _ us hl => match us, hl with | [_], _ => rfl) ?a ?l ?c ?k
      (case a => k_is); (case l => k_is); (case c => k_is); (case k => k_is)
    have F__law_followed : L2.FunN (L2.KOf KX) mg "_law_followed" K20.s_law_followed K20.P_law_followed := by
      dsimp only [L2.KOf]
      refine' L2.funN_mk KX G (fun _ _ _ _ _ _ us hl => match us, hl with | [_, _], _ => rfl) ?a ?l ?c ?k
      (case a => k_is); (case l => k_is); (case c => k_is); (case k => k_is)
    have F__law_parts : L2.FunN (L2.KOf KX) mg "_law_parts" K20.s_law_parts K20.P_law_parts := by
      dsimp only [L2.KOf]
      refine' L2.funN_mk KX G (fun _ _ _ _ _ _ us hl => match us, hl with | [_, _], _ => rfl) ?a ?l ?c ?k
      (case a => k_is); (case l => k_is); (case c => k_is); (case k => k_is)
    have F__law_form : L2.FunN (L2.KOf KX) mg "_law_form" K20.s_law_form K20.P_law_form := by
      dsimp only [L2.KOf]
      refine' L2.funN_mk KX G (fun _ _ _ _ _ _ us hl => match us, hl with | [_, _], _ => rfl) ?a ?l ?c ?k
      (case a => k_is); (case l => k_is); (case c => k_is); (case k => k_is)
    have F__law_is_part : L2.FunN (L2.KOf KX) mg "_law_is_part" K20.s_law_is_part K20.P_law_is_part := by
      dsimp only [L2.KOf]
      refine' L2.funN_mk KX G (fun _ _ _ _ _ _ us hl => match us, hl with | [_], _ => rfl) ?a ?l ?c ?k
      (case a => k_is); (case l => k_is); (case c => k_is); (case k => k_is)
    have F__law_is_form : L2.FunN (L2.KOf KX) mg "_law_is_form" K20.s_law_is_form K20.P_law_is_form := by
      dsimp only [L2.KOf]
      refine' L2.funN_mk KX G (fun _ _ _ _ _ _ us hl => match us, hl with | [_], _ => rfl) ?a ?l ?c ?k
      (case a => k_is); (case l => k_is); (case c => k_is); (case k => k_is)
    have F__law_bent : L2.FunN (L2.KOf KX) mg "_law_bent" K20.s_law_bent K20.P_law_bent := by
      dsimp only [L2.KOf]
      refine' L2.funN_mk KX G (fun _ _ _ _ _ _ us hl => match us, hl with | [_, _], _ => rfl) ?a ?l ?c ?k
      (case a => k_is); (case l => k_is); (case c => k_is); (case k => k_is)
    have F__law_bent_more : L2.FunN (L2.KOf KX) mg "_law_bent_more" K20.s_law_bent_more K20.P_law_bent_more := by
      dsimp only [L2.KOf]
      refine' L2.funN_mk KX G (fun _ _ _ _ _ _ us hl => match us, hl with | [_, _], _ => rfl) ?a ?l ?c ?k
      (case a => k_is); (case l => k_is); (case c => k_is); (case k => k_is)
    have FL : ∃ (kV doc pm : Value) (an : Option Addr) (cdv ct : Value), L2.Fun (L2.KOf KX) "law" "law" K20.s_law fa (PySem.W.fnOf "law" "law" (L2.defArgs K20.s_law) (L2.defBody K20.s_law) (L2.defScope K20.s_law) .none kV doc pm an cdv ct) := by
      dsimp only [L2.KOf]
      refine' L2.fun1_mk KX G hmg ?a ?l ?c ?k
      (case a => k_is); (case l => k_is); (case c => k_is); (case k => k_is)
    obtain ⟨kV, doc, pm, an, cdv, ct, FL⟩ := FL
    exact K20.fin ⟨b_isinstance, b_str, b_int, b_bool, b_tuple, b_list, b_len, b_range, b_min, b_max, b_sum, b_any, b_all, b_repr, b_sorted, b_MOST_SIGNS⟩ F_is_letter F_is_one_letter F_is_whole F_is_copies F_is_part F_is_sign F_is_copy F_length_of F_reach_of F__law_reel F__law_pick F__law_whole F__law_text F__law_length F__law_from F__law_followed F__law_parts F__law_form F__law_is_part F__law_is_form F__law_bent F__law_bent_more FL
  case S => exact fun K H a ns hl _ hS => ⟨a, ns, rfl, hS, fun _ => rfl⟩
  case C => exact fun _ _ _ _ z => z
#print axioms PySem.Challenge.cw_touchpin_k20_what_is_a_form_holds

