import PyProof.Rows.All
import Wide.All
import OpenK.AllK
import Wide.FinOn
import PyProof.EqAt
import PyProof.EqKinds
import PyProof.TupleCall
import KE.BitLaws
import PyProof.ExcArgsOwn
import PySem.Challenge.RW_touchpin_k55_forms_written_and_read
set_option Elab.async false
set_option linter.all false
set_option maxRecDepth 100000
/-! THE HAND LAYER, for ints, bools, texts, own classes, lists, tuples, dicts, comprehensions, walks over dicts, enumerate, zip, reversed, texts, calls, loops. Paste it whole ahead of your own text; what your proof does not reach may be deleted. -/
namespace L2
open PySem PySem.Spec PyProof.Rows

/-- a key: an int or a str -/
abbrev Key := Sum Int Str
def keyIs : Key → Value → Bool
  | .inl k, v => Value.isInt k v
  | .inr x, v => Value.isStrOf x v
def keyH (w : World) : Key → Int
  | .inl k => hashInt k
  | .inr x => hashStr w x
theorem keyIs_shape : ∀ {k : Key} {v : Value}, keyIs k v = true → (∃ i t, k = Sum.inl i ∧ v = Value.int i t) ∨ (∃ x t, k = Sum.inr x ∧ v = Value.str x t)
  | .inl i, v, h => by
    obtain ⟨t, e⟩ := Value.isInt_shape (k := i) (v := v) h
    exact .inl ⟨i, t, rfl, e⟩
  | .inr x, v, h => by
    obtain ⟨t, e⟩ := Value.isStrOf_shape (x := x) (v := v) h
    exact .inr ⟨x, t, rfl, e⟩
theorem key_ll (a b : Int) : decide ((Sum.inl a : Key) = Sum.inl b) = (a == b) := by
  by_cases e : a = b
  · subst e; simp
  · have h : ¬ (Sum.inl a : Key) = Sum.inl b := fun q => e (Sum.inl.inj q)
    rw [decide_eq_false h]
    exact (beq_eq_false_iff_ne.mpr e).symm
theorem key_rr (a b : Str) : decide ((Sum.inr a : Key) = Sum.inr b) = decide (a = b) := by
  by_cases e : a = b
  · subst e; simp
  · have h : ¬ (Sum.inr a : Key) = Sum.inr b := fun q => e (Sum.inr.inj q)
    rw [decide_eq_false h, decide_eq_false e]
theorem key_lr (a : Int) (b : Str) : decide ((Sum.inl a : Key) = Sum.inr b) = false := decide_eq_false (fun q => nomatch q)
theorem key_rl (a : Str) (b : Int) : decide ((Sum.inr a : Key) = Sum.inl b) = false := decide_eq_false (fun q => nomatch q)

def mixKind (prog : Program) (w : World) : PySem.KeyKind prog w Key where
  is := keyIs
  hash := keyH w
  inj := fun v a b ha hb => by
    rcases keyIs_shape ha with ⟨i, t, rfl, rfl⟩ | ⟨x, t, rfl, rfl⟩
    · rcases keyIs_shape hb with ⟨j, u, rfl, e⟩ | ⟨y, u, rfl, e⟩
      · injection e with e1 _; rw [e1]
      · exact nomatch e
    · rcases keyIs_shape hb with ⟨j, u, rfl, e⟩ | ⟨y, u, rfl, e⟩
      · exact nomatch e
      · injection e with e1 _; rw [e1]
  byValue := fun k v h => by
    rcases keyIs_shape h with ⟨i, t, rfl, rfl⟩ | ⟨x, t, rfl, rfl⟩ <;> rfl
  pyHash := fun hv h => by
    rcases keyIs_shape hv with ⟨i, t, rfl, rfl⟩ | ⟨x, t, rfl, rfl⟩
    · exact wpAny_pyHash_int h
    · exact wpAny_pyHash_str h
  eqBool := fun hu hv h => by
    rcases keyIs_shape hu with ⟨i, t, rfl, rfl⟩ | ⟨x, t, rfl, rfl⟩
    · rcases keyIs_shape hv with ⟨j, u, rfl, rfl⟩ | ⟨y, u, rfl, rfl⟩
      · rw [key_ll] at h; exact wpAny_eqBool_int h
      · rw [key_lr] at h; exact SeqAt.EqAt.int_str i t y u _ _ _ _ h
    · rcases keyIs_shape hv with ⟨j, u, rfl, rfl⟩ | ⟨y, u, rfl, rfl⟩
      · rw [key_rl] at h; exact SeqAt.EqAt.str_int x t j u _ _ _ _ h
      · rw [key_rr] at h; exact wpAny_eqBool_str h
  «strs» := fun k x t v h => by
    rcases keyIs_shape h with ⟨i, u, rfl, e⟩ | ⟨y, u, rfl, e⟩
    · exact nomatch e
    · injection e with e1 _
      subst e1
      cases v <;> rfl

end L2

namespace L2
open PySem PySem.Spec PyProof.Rows

/-- a value, without the heap -/
inductive V where
  | non | bl (b : Bool) | int (i : Int) | str (x : Str) | byt (b : Array UInt8) | flt (b : UInt64) | ref (a : Addr) | ty (n : String)
  deriving DecidableEq

def RelV : V → Value → Prop
  | .non, u => u = Value.none
  | .bl b, u => u = Value.bool b
  | .int i, u => ∃ t, u = Value.int i t
  | .str x, u => ∃ t, u = Value.str x t
  | .byt b, u => ∃ t, u = Value.bytes b t
  | .flt b, u => ∃ t, u = Value.float b t
  | .ref a, u => u = Value.ref a
  | .ty n, u => u = Value.type n

abbrev Vals : List V → List Value → Prop := Paired RelV
theorem Vals.length {xs : List V} {us : List Value} (r : Vals xs us) : xs.length = us.length := Paired.length r
theorem Vals.get : ∀ {xs : List V} {us : List Value} {i : Nat} {x : V}, Vals xs us → xs[i]? = some x → ∃ u, us[i]? = some u ∧ RelV x u
  | _, _, _, _, .nil, e => by simp at e
  | _, _, 0, _, .cons r _, e => by simp at e; subst e; exact ⟨_, rfl, r⟩
  | _, _, i + 1, x, .cons _ t, e => by
    obtain ⟨u, h1, h2⟩ := Vals.get (i := i) (x := x) t (by simpa using e)
    exact ⟨u, by simpa using h1, h2⟩
theorem Vals.set {x : V} {u : Value} (r : RelV x u) : ∀ {xs : List V} {us : List Value} (i : Nat), Vals xs us → Vals (xs.set i x) (us.set i u)
  | _, _, _, .nil => .nil
  | _, _, 0, .cons _ t => .cons r t
  | _, _, i + 1, .cons q t => .cons q (Vals.set r i t)
theorem Vals.append : ∀ {xs ys : List V} {us ws : List Value}, Vals xs us → Vals ys ws → Vals (xs ++ ys) (us ++ ws)
  | _, _, _, _, .nil, s => s
  | _, _, _, _, .cons r t, s => .cons r (Vals.append t s)
theorem Vals.take : ∀ {xs : List V} {us : List Value} (n : Nat), Vals xs us → Vals (xs.take n) (us.take n)
  | _, _, 0, _ => .nil
  | _, _, _ + 1, .nil => .nil
  | _, _, n + 1, .cons r t => .cons r (Vals.take n t)
theorem Vals.drop : ∀ {xs : List V} {us : List Value} (n : Nat), Vals xs us → Vals (xs.drop n) (us.drop n)
  | _, _, 0, r => r
  | _, _, _ + 1, .nil => .nil
  | _, _, n + 1, .cons _ t => Vals.drop n t
def RelO : Option V → Option Value → Prop
  | some v, some u => RelV v u
  | none, none => True
  | _, _ => False
def KV {κ : Type} : List (κ × V) → List (κ × Value) → Prop := Paired fun (p : κ × V) (q : κ × Value) => p.1 = q.1 ∧ RelV p.2 q.2

/-- a key of a dict (00_mix): an int or a text -/
def kV : Key → V
  | .inl i => .int i
  | .inr x => .str x

/-- what stands at a tracked address -/
inductive HO where
  /-- a list -/
  | lst (xs : List V)
  /-- a tuple (never changes) -/
  | tup (xs : List V)
  /-- a dict whose keys are ints and texts; one whose keys are tuples of ints and texts (the empty one is both) -/
  | dK (kvs : List (Key × V)) | dT (kvs : List (List Key × V))
  /-- a set of ints: its members, its size -/
  | set (S : Int → Bool) (n : Nat)
  /-- an instance of the class at C, its dict at dx, its attributes -/
  | ins (C dx : Addr) (fs : List (Str × V))
  /-- the dict of the instance at x -/
  | own (x : Addr)
  /-- the dict of an exception -/
  | xd (fs : List (Str × V))
  /-- a bound method, f of x -/
  | met (f x : Addr)
  /-- a range object lo, lo + 1, .. below hi -/
  | rng (lo hi : Int)
  /-- a thing that is known to the object (the script; a dict while a loop walks it): read, never written while it is so -/
  | frz (o : Obj) (u : HO)
  /-- a code object's table -/
  | tbl (ps : Array Value)
  /-- any other thing, by what is true of its one object (a def of one's own: SetO a S n := HO.ext fun h => ..) -/
  | ext (φ : Heap → Prop)

abbrev Hp := Addr → Option HO
def upd (H : Hp) (a : Addr) (o : HO) : Hp := fun b => if b = a then some o else H b
theorem upd_same {H : Hp} {a : Addr} {o : HO} : upd H a o a = some o := by unfold upd; rw [if_pos rfl]
theorem upd_ne {H : Hp} {a b : Addr} {o : HO} (h : b ≠ a) : upd H a o b = H b := by unfold upd; rw [if_neg h]
theorem upd_upd {H : Hp} {a : Addr} {o u : HO} : upd (upd H a o) a u = upd H a u := by
  funext b; unfold upd; split <;> rfl
/-- two objects of different content stand apart -/
theorem ne_of {H : Hp} {a b : Addr} {o u : HO} (h : H a = some o) (h' : H b = some u) (d : o ≠ u) : a ≠ b := by
  intro e; subst e; rw [h] at h'; exact d (Option.some.inj h')
theorem ne_of_none {H : Hp} {a b : Addr} {o : HO} (h : H a = some o) (h' : H b = none) : a ≠ b := by
  intro e; subst e; rw [h] at h'; cases h'

section
variable (P : Program) (w : World)
def ObjOk (H : Hp) (h : Heap) (a : Addr) : HO → Prop
  | .lst xs => xs.length ≤ sizeLine ∧ ∃ (its : List Value) (n : Nat), Vals xs its ∧ h.get? a = some { cls := .type "list", data := .seq its.toArray n }
  | .tup xs => xs.length ≤ sizeLine ∧ ∃ its : List Value, Vals xs its ∧ IsTup h a its.toArray
  | .dK kvs => kvs.length ≤ sizeLine ∧ (a == sysModules) = false ∧ ∃ vs, KV kvs vs ∧ h.DictOf (mixKind P w) a vs
  | .dT kvs => kvs.length ≤ sizeLine ∧ (a == sysModules) = false ∧ ∃ xs : List (List Key × Addr × Value),
      Paired (fun (p : List Key × V) (q : List Key × Addr × Value) => p.1 = q.1 ∧ H q.2.1 = some (.tup (p.1.map kV)) ∧ RelV p.2 q.2.2) kvs xs ∧
      ∃ o es ep, h.get? a = some o ∧ o.ExactDict ∧ o.data = .dict es ep ∧ es.toList = xs.map (entryOfKey (tupleKind (mixKind P w))) ∧ (xs.map (·.1)).Nodup
  | .set S n => h.SetOf (intKind P w) a S n
  | .ins C dx fs => H dx = some (.own a) ∧ fs.length ≤ 1000 ∧ dx ≠ a ∧ h.get? a = some (PySem.W.instObj C dx) ∧
      ∃ mA, h.Ns1 dx mA ∧ (∀ f, RelO (fs.lookup f) (mA f)) ∧ PySem.Within mA (fs.map (·.1))
  | .own _ => ∃ o, h.get? a = some o
  | .xd fs => ∃ mA, h.Ns1 a mA ∧ ∀ f, RelO (fs.lookup f) (mA f)
  | .rng lo hi => ∃ t u v, h.get? a = some { cls := .type "range", data := .fields #[.int lo t, .int hi u, .int 1 v] }
  | .frz o u => h.get? a = some o ∧ ObjOk H h a u
  | .tbl ps => h.get? a = some { cls := .none, data := .fields ps }
  | .met f x => h.get? a = some (PySem.W.methodObj (.ref f) (.ref x))
  | .ext φ => φ h ∧ (∃ o, h.get? a = some o) ∧ ∀ h1 h2 : Heap, φ h1 → (∀ o, h1.get? a = some o → h2.get? a = some o) → φ h2
/-- the abstract heap is held -/
def HOk (H : Hp) (h : Heap) : Prop := ∀ a o, H a = some o → ObjOk P w H h a o
end

section
variable {P : Program} {w : World} {H H' : Hp} {h h' : Heap} {a : Addr} {o : HO}
theorem ObjOk.lt (x : ObjOk P w H h a o) : a < h.objs.size := by
  cases o with
  | lst xs => obtain ⟨_, _, _, _, e⟩ := x; exact Heap.lt_size e
  | tup xs => obtain ⟨_, _, _, p⟩ := x; exact p.lt
  | dK kvs => obtain ⟨_, _, _, _, o, _, _, e, _⟩ := x; exact Heap.lt_size e
  | dT kvs => obtain ⟨_, _, _, _, o, _, _, e, _⟩ := x; exact Heap.lt_size e
  | set S n => obtain ⟨o, _, _, _, e, _⟩ := x; exact Heap.lt_size e
  | ins C dx fs => obtain ⟨_, _, _, e, _⟩ := x; exact Heap.lt_size e
  | own y => obtain ⟨_, e⟩ := x; exact Heap.lt_size e
  | xd fs => obtain ⟨_, ⟨_, _, _, e, _⟩, _⟩ := x; exact Heap.lt_size e
  | rng lo hi => obtain ⟨_, _, _, e⟩ := x; exact Heap.lt_size e
  | frz ob u => obtain ⟨e, _⟩ := x; exact Heap.lt_size e
  | tbl ps => exact Heap.lt_size (show h.get? a = some _ from x)
  | met f y => exact Heap.lt_size (show h.get? a = some _ from x)
  | ext φ => obtain ⟨_, ⟨_, e⟩, _⟩ := x; exact Heap.lt_size e
theorem Paired.mapP {α β : Type} {F G : α → β → Prop} : ∀ {l₁ : List α} {l₂ : List β}, Paired F l₁ l₂ → (∀ a b, F a b → G a b) → Paired G l₁ l₂
  | _, _, .nil, _ => .nil
  | _, _, .cons r t, f => .cons (f _ _ r) (Paired.mapP t f)
/-- what an object's description leans on: its own object, its own dict, the tuples -/
theorem ObjOk.stay (x : ObjOk P w H h a o) (k : ∀ b u, (b = a ∨ H b = some (.own a)) → h.get? b = some u → h'.get? b = some u)
    (ho : ∀ b, H b = some (.own a) → H' b = some (.own a)) (ht : ∀ b xs, H b = some (.tup xs) → H' b = some (.tup xs)) : ObjOk P w H' h' a o := by
  induction o with
  | lst xs => obtain ⟨z, its, n, r, e⟩ := x; exact ⟨z, its, n, r, k _ _ (.inl rfl) e⟩
  | tup xs => obtain ⟨z, its, r, ob, e, c⟩ := x; exact ⟨z, its, r, ob, k _ _ (.inl rfl) e, c⟩
  | dK kvs => obtain ⟨z, y, vs, r, ob, es, ep, e, c⟩ := x; exact ⟨z, y, vs, r, ob, es, ep, k _ _ (.inl rfl) e, c⟩
  | dT kvs =>
    obtain ⟨z, y, xs, r, ob, es, ep, e, c⟩ := x
    exact ⟨z, y, xs, Paired.mapP r fun p q z => ⟨z.1, ht _ _ z.2.1, z.2.2⟩, ob, es, ep, k _ _ (.inl rfl) e, c⟩
  | set S n => obtain ⟨ob, es, ep, t, e, c⟩ := x; exact ⟨ob, es, ep, t, k _ _ (.inl rfl) e, c⟩
  | ins C dx fs =>
    obtain ⟨d, z, ne, e, mA, ⟨od, es, ep, e2, c⟩, r⟩ := x
    exact ⟨ho _ d, z, ne, k _ _ (.inl rfl) e, mA, ⟨od, es, ep, k _ _ (.inr d) e2, c⟩, r⟩
  | own y => obtain ⟨ob, e⟩ := x; exact ⟨ob, k _ _ (.inl rfl) e⟩
  | xd fs => obtain ⟨mA, ⟨od, es, ep, e, c⟩, r⟩ := x; exact ⟨mA, ⟨od, es, ep, k _ _ (.inl rfl) e, c⟩, r⟩
  | rng lo hi => obtain ⟨t, u, v, e⟩ := x; exact ⟨t, u, v, k _ _ (.inl rfl) e⟩
  | frz ob u ih => obtain ⟨e, q⟩ := x; exact ⟨k _ _ (.inl rfl) e, ih q⟩
  | tbl ps =>
    have e : h.get? a = some { cls := .none, data := .fields ps } := x
    show h'.get? a = some { cls := .none, data := .fields ps }
    exact k a _ (.inl rfl) e
  | met f y =>
    have e : h.get? a = some (PySem.W.methodObj (.ref f) (.ref y)) := x
    show h'.get? a = some (PySem.W.methodObj (.ref f) (.ref y))
    exact k a _ (.inl rfl) e
  | ext φ => obtain ⟨p, ⟨o, e⟩, st⟩ := x; exact ⟨st _ _ p fun o q => k _ _ (.inl rfl) q, ⟨o, k _ _ (.inl rfl) e⟩, st⟩
theorem HOk.lt (x : HOk P w H h) (e : H a = some o) : a < h.objs.size := (x a o e).lt
theorem HOk.fresh (x : HOk P w H h) (e : h.objs.size ≤ a) : H a = none := by
  cases q : H a with
  | none => rfl
  | some u => exact absurd (Nat.lt_of_lt_of_le (x.lt q) e) (Nat.lt_irrefl _)
/-- every object of the heap is kept -/
theorem HOk.kept (x : HOk P w H h) (k : ∀ b u, h.get? b = some u → h'.get? b = some u) : HOk P w H h' := fun a o e =>
  (x a o e).stay (fun b u _ q => k b u q) (fun _ q => q) fun _ _ q => q
/-- a new object is laid and tracked -/
theorem HOk.laid (x : HOk P w H h) (k : ∀ b u, h.get? b = some u → h'.get? b = some u) (hp : h.objs.size ≤ a) (new : ObjOk P w (upd H a o) h' a o) : HOk P w (upd H a o) h' := fun b u e => by
  have hn := x.fresh hp
  by_cases hb : b = a
  · subst hb; rw [upd_same] at e; cases e; exact new
  · rw [upd_ne hb] at e
    exact (x b u e).stay (fun c v _ q => k c v q) (fun c q => by rw [upd_ne (ne_of_none q hn)]; exact q) fun c xs q => by rw [upd_ne (ne_of_none q hn)]; exact q
end

/-- what may be read as u: it is u, or a known u -/
def Rd (H : Hp) (a : Addr) (u : HO) : Prop := H a = some u ∨ ∃ o, H a = some (.frz o u)
theorem Rd.of {H : Hp} {a : Addr} {u : HO} (h : H a = some u) : Rd H a u := .inl h
theorem Rd.ok {P : Program} {w : World} {H : Hp} {h : Heap} {a : Addr} {u : HO} (r : Rd H a u) (x : HOk P w H h) : ObjOk P w H h a u := by
  rcases r with r | ⟨o, r⟩
  · exact x a u r
  · obtain ⟨_, q⟩ := x a _ r
    exact q
/-- what may be written -/
def Mut : Option HO → Prop
  | some (.lst _) => True
  | some (.dK _) => True
  | some (.dT _) => True
  | some (.set _ _) => True
  | some (.ins _ _ _) => True
  | some (.ext _) => True
  | _ => False
section
variable {P : Program} {w : World} {H : Hp} {h h' : Heap} {x e : Addr} {o' : HO}
/-- the object at e is changed: x itself, or the dict of the instance x -/
theorem HOk.write (ok : HOk P w H h) (mu : Mut (H x)) (he : e = x ∨ H e = some (.own x)) (k : ∀ b u, b ≠ e → h.get? b = some u → h'.get? b = some u) (heo : ∃ u, h'.get? e = some u)
    (new : ObjOk P w (upd H x o') h' x o') : HOk P w (upd H x o') h' := fun b u q => by
  have nown : ∀ c y, H c = some (.own y) → c ≠ x := fun c y r z => by subst z; rw [r] at mu; exact mu
  have ntup : ∀ c xs, H c = some (.tup xs) → c ≠ x := fun c xs r z => by subst z; rw [r] at mu; exact mu
  by_cases hb : b = x
  · subst hb; rw [upd_same] at q; cases q; exact new
  · rw [upd_ne hb] at q
    by_cases hbe : b = e
    · have q' : H b = some (.own x) := by
        rcases he with z | z
        · exact absurd (hbe.trans z) hb
        · rw [hbe]; exact z
      rw [q] at q'; cases q'
      obtain ⟨v, hv⟩ := heo
      exact ⟨v, by rw [hbe]; exact hv⟩
    · refine (ok b u q).stay (fun c v hc r => k c v ?_ r) (fun c r => by rw [upd_ne (nown c b r)]; exact r) fun c xs r => by rw [upd_ne (ntup c xs r)]; exact r
      rcases hc with rfl | hc
      · exact hbe
      · rintro rfl
        rcases he with z | z
        · exact nown c b hc z
        · rw [hc] at z; cases z; exact hb rfl
end

/-! ### kept unless tracked; of the frames at fs (the callers') the slots may change (an exception that passes writes there); of the records at ex (iterators) nothing is said -/
structure Un (fs ex : List Addr) (H H' : Hp) (h h' : Heap) : Prop where
  keep : ∀ b o, h.get? b = some o → H b = none → b ∉ fs → b ∉ ex → h'.get? b = some o
  slot : ∀ b o, h.get? b = some o → H b = none → b ∈ fs → b ∉ ex → ∃ sl, h'.get? b = some { o with slots := sl }
  free : ∀ b o, h.get? b = some o → H b = none → b ∉ ex → H' b = none
  there : ∀ b o, h.get? b = some o → b ∉ ex → ∃ o', h'.get? b = some o'
  tups : ∀ b xs, H b = some (.tup xs) → H' b = some (.tup xs)
  frzs : ∀ b o u, H b = some (.frz o u) → H' b = some (.frz o u)
  tbls : ∀ b ps, H b = some (.tbl ps) → ∃ more, H' b = some (.tbl (ps ++ more))
section
variable {fs fs' ex ex' : List Addr} {H H1 H2 : Hp} {h h1 h2 h' : Heap} {a x e : Addr} {o : HO}
theorem Un.any (u : Un fs ex H H1 h h1) {b : Addr} {ob : Obj} (q : h.get? b = some ob) (n : H b = none) (hx : b ∉ ex) : ∃ sl, h1.get? b = some { ob with slots := sl } := by
  by_cases hb : b ∈ fs
  · exact u.slot b ob q n hb hx
  · exact ⟨ob.slots, u.keep b ob q n hb hx⟩
theorem Un.trans (a : Un fs ex H H1 h h1) (b : Un fs ex H1 H2 h1 h2) : Un fs ex H H2 h h2 where
  keep := fun c ob q n hc hx => b.keep c ob (a.keep c ob q n hc hx) (a.free c ob q n hx) hc hx
  slot := fun c ob q n hc hx => by
    obtain ⟨sl, e1⟩ := a.slot c ob q n hc hx
    obtain ⟨sl', e2⟩ := b.slot c _ e1 (a.free c ob q n hx) hc hx
    exact ⟨sl', e2⟩
  free := fun c ob q n hx => by
    obtain ⟨o', e1⟩ := a.there c ob q hx
    exact b.free c o' e1 (a.free c ob q n hx) hx
  there := fun c ob q hx => by
    obtain ⟨o', e1⟩ := a.there c ob q hx
    exact b.there c o' e1 hx
  tups := fun c xs q => b.tups c xs (a.tups c xs q)
  frzs := fun c ob xs q => b.frzs c ob xs (a.frzs c ob xs q)
  tbls := fun c ps q => by
    obtain ⟨m1, e1⟩ := a.tbls c ps q
    obtain ⟨m2, e2⟩ := b.tbls c _ e1
    exact ⟨m1 ++ m2, by rw [e2, Array.append_assoc]⟩
theorem Un.kept (k : ∀ b u, h.get? b = some u → h'.get? b = some u) : Un fs ex H H h h' :=
  ⟨fun b ob q _ _ _ => k b ob q, fun b ob q _ _ _ => ⟨ob.slots, k b ob q⟩, fun _ _ _ n _ => n, fun b ob q _ => ⟨ob, k b ob q⟩, fun _ _ q => q, fun _ _ _ q => q, fun _ ps q => ⟨#[], by rw [q]; simp⟩⟩
theorem Un.refl : Un fs ex H H h h := Un.kept fun _ _ q => q
theorem Un.laid (k : ∀ b u, h.get? b = some u → h'.get? b = some u) (hp : h.objs.size ≤ a) (hn : H a = none) : Un fs ex H (upd H a o) h h' where
  keep := fun b u q _ _ _ => k b u q
  slot := fun b u q _ _ _ => ⟨u.slots, k b u q⟩
  free := fun b u q n _ => by rw [upd_ne (Nat.ne_of_lt (Nat.lt_of_lt_of_le (Heap.lt_size q) hp))]; exact n
  there := fun b u q _ => ⟨u, k b u q⟩
  tups := fun b xs q => by rw [upd_ne (ne_of_none q hn)]; exact q
  frzs := fun b u xs q => by rw [upd_ne (ne_of_none q hn)]; exact q
  tbls := fun b ps q => ⟨#[], by rw [upd_ne (ne_of_none q hn), q]; simp⟩
theorem Un.write (mu : Mut (H x)) (he : e = x ∨ H e = some (.own x)) (k : ∀ b u, b ≠ e → h.get? b = some u → h'.get? b = some u) (heo : ∃ u, h'.get? e = some u) : Un fs ex H (upd H x o) h h' := by
  have hx : ∀ b, H b = none → b ≠ x := fun b n z => by subst z; rw [n] at mu; exact mu
  have hb : ∀ b, H b = none → b ≠ e := fun b n z => by
    subst z
    rcases he with r | r
    · exact hx b n r
    · rw [n] at r; cases r
  have hm : ∀ b u, H b = some u → ¬ Mut (some u) → b ≠ x := fun b u q nm z => by subst z; rw [q] at mu; exact nm mu
  refine ⟨fun b u q n _ _ => k b u (hb b n) q, fun b u q n _ _ => ⟨u.slots, k b u (hb b n) q⟩, fun b u q n _ => by rw [upd_ne (hx b n)]; exact n, fun b u q _ => ?_,
    fun b xs q => by rw [upd_ne (hm b _ q fun z => z)]; exact q, fun b u xs q => by rw [upd_ne (hm b _ q fun z => z)]; exact q, fun b ps q => ⟨#[], by rw [upd_ne (hm b _ q fun z => z), q]; simp⟩⟩
  by_cases hbe : b = e
  · subst hbe; exact heo
  · exact ⟨u, k b u hbe q⟩
theorem Un.mono (u : Un fs ex H H1 h h1) (hs : ∀ b ∈ fs, b ∈ fs') (hx : ∀ b ∈ ex, b ∈ ex') : Un fs' ex' H H1 h h1 :=
  ⟨fun b ob q n hb he => u.keep b ob q n (fun z => hb (hs b z)) fun z => he (hx b z), fun _ _ q n _ he => u.any q n fun z => he (hx _ z), fun b ob q n he => u.free b ob q n fun z => he (hx b z), fun b ob q he => u.there b ob q fun z => he (hx b z), u.tups, u.frzs, u.tbls⟩
end

/-! ### the heap without what is tracked -/
def trk (h : Heap) (H : Hp) : List Addr := (List.range h.objs.size).filter fun a => (H a).isSome
def hidT (h : Heap) (H : Hp) : Heap := PySem.W.hideAll h (trk h H)
theorem hidT_size (h : Heap) (H : Hp) : (hidT h H).objs.size = h.objs.size := PySem.W.hideAll_size _ _
theorem hidT_get {h : Heap} {H : Hp} {b : Addr} {o : Obj} (e : h.get? b = some o) (n : H b = none) : (hidT h H).get? b = some o :=
  PySem.W.hideAll_get _ e fun hm => by
    have q : (H b).isSome = true := (List.mem_filter.mp hm).2
    rw [n] at q; simp at q
theorem of_hidT {h : Heap} {H : Hp} {b : Addr} {o : Obj} (e : (hidT h H).get? b = some o) : h.get? b = some o ∧ H b = none := by
  have e' : h.get? b = some o := PySem.W.of_hideAll (trk h H) e
  refine ⟨e', ?_⟩
  cases q : H b with
  | none => rfl
  | some x =>
    have hm : b ∈ trk h H := List.mem_filter.mpr ⟨List.mem_range.mpr (Heap.lt_size e'), by simp [q]⟩
    have z : (hidT h H).get? b = none := PySem.W.hideAll_none (trk h H) hm
    rw [z] at e; cases e

/-! ### OpenK's ledger, filled with every new object but one -/
def allNews (g h : Heap) (L : Addr) : List (Addr × Obj) := (List.range h.objs.size).filterMap fun a => if a = L ∨ (g.get? a).isSome = true then none else (h.get? a).map fun o => (a, o)
def rest (g h : Heap) (L d : Addr) : List (Addr × Obj) := (allNews g h L).filter fun p => decide (p.1 ≠ d)
end L2

namespace L2
open PySem PySem.Spec PyProof.Rows

/-- the module's facts, over the base: the heap at the law's entry without what is tracked there -/
structure Mod (K : PySem.W.Frag) (mg : Str → Option Value) (base : Heap) : Prop where
  kin : K.In base
  glob : base.Ns mainGlobals mg
  blt : ∃ mb, base.Ns builtinsNs mb ∧ ∀ x : Str, x ≠ "__name__" → mb x = bootBuiltins x
  nolimit : base.NoLimit

/-- the context: a def's body (or a comprehension's block) running. base: fixed through the whole law; s₀, H₀: the entry; outer: the frames whose slots others may change (a def's callers); stack: all frames that run;
   ex: iterators that were made ahead of the entry and are walked here (a comprehension's); fn: the names whose cells were made at the entry (a def: all; a comprehension's block: its own); calm: not within an except suite; pn: pins that every state bears; xe: what is wanted of an exception that leaves the code -/
structure Cx where
  prog : Program
  w : World
  K : PySem.W.Frag
  mg : Str → Option Value
  base : Heap
  A : Around
  N : List Str
  s_0 : Shared
  H_0 : Hp
  env : Env
  outer : List Env
  stack : List Env
  ex : List Addr
  fn : Str → Bool
  calm : Bool
  pn : List (Addr × Obj)
  xe : Value → Shared → Prop
/-- the callers' frames -/
def frs (l : List Env) : List Addr := l.filterMap (·.frame)
abbrev Cx.fs (X : Cx) : List Addr := frs X.outer

def Vis (sc : Scope) (x : Str) : Prop := sc.names.lookup x = some .local ∨ sc.names.lookup x = some .cell ∨ sc.names.lookup x = some .free
def Loc (sc : Scope) (x : Str) : Prop := sc.names.lookup x = some .local ∨ sc.names.lookup x = some .cell
def Look (env : Env) (h : Heap) (m : Str → Option Value) (x : Str) (u : Value) : Prop :=
  (env.kindOf x = some .local ∧ m x = some u) ∨ ((env.kindOf x = some .cell ∨ env.kindOf x = some .free) ∧ ∃ c, env.cells.lookup x = some c ∧ h.IsCell c (some u))

structure Cx.Ok (X : Cx) : Prop where
  mod : Mod X.K X.mg X.base
  kind : X.env.scope.kind = .function
  glob : X.env.globals = mainGlobals
  blt : X.env.builtins = builtinsNs
  above : X.s_0.heap.objs.size ≤ X.env.locals
  inj : ∀ x y c, X.env.cells.lookup x = some c → X.env.cells.lookup y = some c → x = y
  has : ∀ x, (X.env.kindOf x = some .cell ∨ X.env.kindOf x = some .free) → ∃ c, X.env.cells.lookup x = some c
  cab : ∀ x c, X.fn x = true → X.env.cells.lookup x = some c → X.s_0.heap.objs.size ≤ c
  hd : X.calm = true → X.A.handled = none
  frames : X.A.frames = some X.stack
  stk : X.stack = X.outer ∨ (X.stack = X.env :: X.outer ∧ X.env.frame = some X.env.locals)
  exf : ∀ b ∈ X.ex, b ≠ X.env.locals ∧ ∀ x c, X.env.cells.lookup x = some c → c ≠ b
  bs : ∀ b o, X.base.get? b = some o → X.s_0.heap.get? b = some o ∧ X.H_0 b = none
  bsz : X.base.objs.size ≤ X.s_0.heap.objs.size
  noex : ∀ b o, X.base.get? b = some o → b ∉ X.ex
  exfs : ∀ b ∈ X.ex, b ∉ X.fs
  funs : X.s_0.heap.FunFrames X.base X.outer
  frf : ∀ b ∈ X.fs, X.H_0 b = none

structure Inv (X : Cx) (pins : List (Addr × Obj)) (σ : List (Option V)) (H : Hp) (s : Shared) : Prop where
  ok : X.Ok
  os : s.os = X.s_0.os
  bare : AllBare s.gens
  base : Un X.fs X.ex X.H_0 H X.s_0.heap s.heap
  loc : ∃ m, s.heap.Ns X.env.locals m ∧ ∀ (i : Nat) (x : Str) (v : V), X.N[i]? = some x → σ[i]? = some (some v) → Vis X.env.scope x → ∃ u, RelV v u ∧ Look X.env s.heap m x u
  cell : ∀ x c, X.env.cells.lookup x = some c → ∃ v, s.heap.IsCell c v
  free : H X.env.locals = none
  freeC : ∀ x c, X.env.cells.lookup x = some c → H c = none
  pin : ∀ p ∈ X.pn ++ pins, s.heap.get? p.1 = some p.2 ∧ H p.1 = none ∧ p.1 ≠ X.env.locals ∧ p.1 ∉ X.fs ∧ ∀ v, p.2.data ≠ .cell v
  hok : HOk X.prog X.w H s.heap
  len : σ.length = X.N.length

section
variable {X : Cx} {pins : List (Addr × Obj)} {σ : List (Option V)} {H H' : Hp} {s : Shared} {h' : Heap}

theorem Cx.Ok.nofr (ok : X.Ok) {b : Addr} {o : Obj} (e : X.base.get? b = some o) : b ∉ X.fs := fun hb => by
  have := (ok.funs.mem hb).1
  rw [e] at this; cases this
theorem Inv.bs (I : Inv X pins σ H s) : ∀ b o, X.base.get? b = some o → s.heap.get? b = some o ∧ H b = none := fun b o e =>
  ⟨I.base.keep b o (I.ok.bs b o e).1 (I.ok.bs b o e).2 (I.ok.nofr e) (I.ok.noex b o e), I.base.free b o (I.ok.bs b o e).1 (I.ok.bs b o e).2 (I.ok.noex b o e)⟩
theorem Inv.bk (I : Inv X pins σ H s) : ∀ b o, X.base.get? b = some o → s.heap.get? b = some o := fun b o e => (I.bs b o e).1
theorem Inv.mod (I : Inv X pins σ H s) : Mod X.K X.mg X.base := I.ok.mod
theorem Inv.kIn (I : Inv X pins σ H s) : X.K.In s.heap := I.ok.mod.kin.keeps I.bk
theorem Inv.nolimit (I : Inv X pins σ H s) : s.heap.NoLimit := I.ok.mod.nolimit.keeps I.bk
/-- the frame over the base: for OpenK's rules (K.In X.base is I.mod.kin) -/
theorem Inv.fr (I : Inv X pins σ H s) : ∃ m, Fr X.base X.env.locals s.heap m :=
  let ⟨m, hn, _⟩ := I.loc
  ⟨m, hn, I.bk, Nat.le_trans I.ok.bsz I.ok.above⟩
theorem Inv.lt (I : Inv X pins σ H s) : X.env.locals < s.heap.objs.size := let ⟨_, hn, _⟩ := I.loc; hn.lt
theorem Inv.sz (I : Inv X pins σ H s) : X.s_0.heap.objs.size ≤ s.heap.objs.size := Nat.le_trans I.ok.above (Nat.le_of_lt I.lt)
theorem Inv.nofs (I : Inv X pins σ H s) {a : Addr} (h : s.heap.objs.size ≤ a) : a ∉ X.fs := fun hb => by
  obtain ⟨_, o, ho, _⟩ := I.ok.funs.mem hb
  exact absurd (Nat.lt_of_lt_of_le (Heap.lt_size ho) (Nat.le_trans I.sz h)) (Nat.lt_irrefl _)
theorem Inv.cne (I : Inv X pins σ H s) : ∀ x c, X.env.cells.lookup x = some c → c ≠ X.env.locals := fun x c e z => by
  obtain ⟨v, o, ho, hd⟩ := I.cell x c e
  obtain ⟨m, ⟨o', es, ep, ho', hd', _⟩, _⟩ := I.loc
  rw [z, ho'] at ho; cases ho; rw [hd'] at hd; cases hd
theorem Inv.funs (I : Inv X pins σ H s) : s.heap.FunFrames X.base X.outer := by
  have all : ∀ (l : List Env), (∀ b ∈ frs l, b ∈ X.fs) → X.s_0.heap.FunFrames X.base l → s.heap.FunFrames X.base l := by
    intro l
    induction l with
    | nil => intro _ _; trivial
    | cons env r ih =>
      intro hs hl
      obtain ⟨hk, ⟨L, o, hf, hn, ho, hd⟩, hr⟩ := hl
      have hL : L ∈ X.fs := hs L (by unfold frs; rw [List.filterMap_cons, hf]; exact List.mem_cons_self)
      obtain ⟨sl, e⟩ := I.base.slot L o ho (I.ok.frf L hL) hL fun z => I.ok.exfs L z hL
      exact ⟨hk, ⟨L, _, hf, hn, e, hd⟩, ih (fun b hb => hs b (by unfold frs; rw [List.filterMap_cons, hf]; exact List.mem_cons_of_mem _ hb)) hr⟩
  exact all X.outer (fun _ hb => hb) I.ok.funs

/-- the frames that run, for a call -/
theorem Inv.stack (I : Inv X pins σ H s) : s.heap.FunFrames X.base X.stack := by
  rcases I.ok.stk with e | ⟨e, hf⟩
  · rw [e]; exact I.funs
  · rw [e]
    obtain ⟨m, hn, _⟩ := I.loc
    refine .cons (by rw [I.ok.kind]; decide) hf hn ?_ I.funs
    exact Heap.get?_none_of_le (Nat.le_trans I.ok.bsz I.ok.above)
theorem Inv.stkSub (I : Inv X pins σ H s) : ∀ b ∈ frs X.stack, b ∈ X.env.locals :: X.fs := fun b hb => by
  rcases I.ok.stk with e | ⟨e, hf⟩
  · rw [e] at hb; exact List.mem_cons_of_mem _ hb
  · rw [e] at hb
    unfold frs at hb
    rw [List.filterMap_cons, hf] at hb
    exact hb
theorem Inv.stkFree (I : Inv X pins σ H s) : ∀ b ∈ frs X.stack, H b = none := fun b hb => by
  rcases List.mem_cons.mp (I.stkSub b hb) with e | hb
  · rw [e]; exact I.free
  · obtain ⟨_, o, ho, _⟩ := I.ok.funs.mem hb
    exact I.base.free b o ho (I.ok.frf b hb) fun z => I.ok.exfs b z hb

/-- THE STEP: the untracked objects but the frame and the records at ch are kept (the callers' frames up to slots), the frame's map is kept, the new abstract heap is held -/
theorem Inv.step {g' : Array GenState} {t' : Nat} {d' : Drawn} {ch : List Addr} (I : Inv X pins σ H s)
    (hch : ∀ b ∈ ch, (b ∈ X.ex ∨ X.s_0.heap.objs.size ≤ b) ∧ b ≠ X.env.locals ∧ (∀ x c, X.env.cells.lookup x = some c → c ≠ b) ∧ ∀ p ∈ X.pn ++ pins, p.1 ≠ b)
    (keep : ∀ b o, b ≠ X.env.locals → b ∉ X.fs → b ∉ ch → s.heap.get? b = some o → H b = none → h'.get? b = some o)
    (slot : ∀ b o, b ≠ X.env.locals → b ∈ X.fs → b ∉ ch → s.heap.get? b = some o → H b = none → ∃ sl, h'.get? b = some { o with slots := sl }) (free : ∀ b o, b ∉ ch → s.heap.get? b = some o → H b = none → H' b = none)
    (there : ∀ b o, b ∉ ch → s.heap.get? b = some o → ∃ o', h'.get? b = some o')
    (tups : ∀ b xs, H b = some (.tup xs) → H' b = some (.tup xs)) (frzs : ∀ b o u, H b = some (.frz o u) → H' b = some (.frz o u)) (tbls : ∀ b ps, H b = some (.tbl ps) → ∃ more, H' b = some (.tbl (ps ++ more)))
    (ns : ∀ m, s.heap.Ns X.env.locals m → h'.Ns X.env.locals m) (hok : HOk X.prog X.w H' h') (hg : AllBare g') :
    Inv X pins σ H' { s with heap := h', gens := g', drawn := d', toks := t' } := by
  have neL : ∀ b o, X.s_0.heap.get? b = some o → b ≠ X.env.locals := fun b o e => Nat.ne_of_lt (Nat.lt_of_lt_of_le (Heap.lt_size e) I.ok.above)
  have neC : ∀ b o, X.s_0.heap.get? b = some o → b ∉ X.ex → b ∉ ch := fun b o e hx hb => by
    rcases (hch b hb).1 with z | z
    · exact hx z
    · exact absurd (Nat.lt_of_lt_of_le (Heap.lt_size e) z) (Nat.lt_irrefl _)
  have cellK : ∀ x c, X.env.cells.lookup x = some c → ∀ v, s.heap.IsCell c v → h'.IsCell c v := fun x c e v ⟨o, ho, hd⟩ => by
    have nch : c ∉ ch := fun z => (hch c z).2.2.1 x c e rfl
    by_cases hc : c ∈ X.fs
    · obtain ⟨sl, q⟩ := slot c o (I.cne x c e) hc nch ho (I.freeC x c e)
      exact ⟨_, q, hd⟩
    · exact ⟨o, keep c o (I.cne x c e) hc nch ho (I.freeC x c e), hd⟩
  refine ⟨I.ok, I.os, hg, ⟨fun b o e n hb hx => ?_, fun b o e n hb hx => ?_, fun b o e n hx => ?_, fun b o e hx => ?_, fun b xs e => tups b xs (I.base.tups b xs e), fun b o xs e => frzs b o xs (I.base.frzs b o xs e), fun b ps e => ?_⟩, ?_, fun x c e => ?_, ?_, fun x c e => ?_, fun p hp => ?_, hok, I.len⟩
  · exact keep b o (neL b o e) hb (neC b o e hx) (I.base.keep b o e n hb hx) (I.base.free b o e n hx)
  · obtain ⟨sl, e1⟩ := I.base.slot b o e n hb hx
    obtain ⟨sl', e2⟩ := slot b _ (neL b o e) hb (neC b o e hx) e1 (I.base.free b o e n hx)
    exact ⟨sl', e2⟩
  · obtain ⟨o', e1⟩ := I.base.there b o e hx
    exact free b o' (neC b o e hx) e1 (I.base.free b o e n hx)
  · obtain ⟨o', e1⟩ := I.base.there b o e hx
    exact there b o' (neC b o e hx) e1
  · obtain ⟨m1, e1⟩ := I.base.tbls b ps e
    obtain ⟨m2, e2⟩ := tbls b _ e1
    exact ⟨m1 ++ m2, by rw [e2, Array.append_assoc]⟩
  · obtain ⟨m, hn, hl⟩ := I.loc
    refine ⟨m, ns m hn, fun i x v e1 e2 e3 => ?_⟩
    obtain ⟨u, r, l⟩ := hl i x v e1 e2 e3
    refine ⟨u, r, ?_⟩
    rcases l with l | ⟨k, c, e, z⟩
    · exact .inl l
    · exact .inr ⟨k, c, e, cellK x c e _ z⟩
  · obtain ⟨v, z⟩ := I.cell x c e
    exact ⟨v, cellK x c e v z⟩
  · obtain ⟨m, ⟨o, _, _, ho, _⟩, _⟩ := I.loc
    exact free _ o (fun z => (hch _ z).2.1 rfl) ho I.free
  · obtain ⟨v, o, ho, hd⟩ := I.cell x c e
    exact free c o (fun z => (hch c z).2.2.1 x c e rfl) ho (I.freeC x c e)
  · obtain ⟨e, n, ne, nf, d⟩ := I.pin p hp
    have nch : p.1 ∉ ch := fun z => (hch p.1 z).2.2.2 p hp rfl
    exact ⟨keep p.1 p.2 ne nf nch e n, free p.1 p.2 nch e n, ne, nf, d⟩
/-- .. where the frame's own object is kept too -/
theorem Inv.un {t' : Nat} (I : Inv X pins σ H s) (u : Un X.fs [] H H' s.heap h') (hok : HOk X.prog X.w H' h') : Inv X pins σ H' { s with heap := h', toks := t' } := by
  obtain ⟨m, ⟨o, es, ep, ho, r⟩, _⟩ := id I.loc
  obtain ⟨sl, hL⟩ := u.any ho I.free (by simp)
  exact I.step (g' := s.gens) (d' := s.drawn) (ch := []) (fun _ z => nomatch z) (fun b o _ hb _ e n => u.keep b o e n hb (by simp)) (fun b o _ hb _ e n => u.slot b o e n hb (by simp)) (fun b o _ e n => u.free b o e n (by simp)) (fun b o _ e => u.there b o e (by simp)) u.tups u.frzs u.tbls (fun m' hm => by
    obtain ⟨o', es', ep', ho', r'⟩ := hm
    rw [ho] at ho'; cases ho'
    exact ⟨_, es', ep', hL, r'⟩) hok I.bare
/-- behind a call (or a comprehension's block): the slots of this frame may have changed too, the records at ch may have turned -/
theorem Inv.call {g' : Array GenState} {t' : Nat} {d' : Drawn} {ch : List Addr} (I : Inv X pins σ H s) (u : Un (frs X.stack) ch H H' s.heap h') (hok : HOk X.prog X.w H' h') (hg : AllBare g')
    (hch : ∀ b ∈ ch, (b ∈ X.ex ∨ X.s_0.heap.objs.size ≤ b) ∧ b ≠ X.env.locals ∧ (∀ x c, X.env.cells.lookup x = some c → c ≠ b) ∧ ∀ p ∈ X.pn ++ pins, p.1 ≠ b) :
    Inv X pins σ H' { s with heap := h', gens := g', drawn := d', toks := t' } := by
  obtain ⟨m, ⟨o, es, ep, ho, r⟩, _⟩ := id I.loc
  obtain ⟨sl, hL⟩ := u.any ho I.free fun z => (hch _ z).2.1 rfl
  exact I.step (ch := ch) hch (fun b o hL hb hc e n => u.keep b o e n (fun z => (List.mem_cons.mp (I.stkSub b z)).elim hL hb) hc) (fun b o _ _ hc e n => u.any e n hc) (fun b o hc e n => u.free b o e n hc) (fun b o hc e => u.there b o e hc) u.tups u.frzs u.tbls (fun m' hm => by
    obtain ⟨o', es', ep', ho', r'⟩ := hm
    rw [ho] at ho'; cases ho'
    exact ⟨_, es', ep', hL, r'⟩) hok hg
/-- an untracked record of ours (an iterator) has turned -/
theorem Inv.turned {t' : Nat} {it : Addr} (I : Inv X pins σ H s) (k : ∀ b o, b ≠ it → s.heap.get? b = some o → h'.get? b = some o) (hn : H it = none) (hL : it ≠ X.env.locals)
    (h1 : it ∈ X.ex ∨ X.s_0.heap.objs.size ≤ it) (h2 : ∀ x c, X.env.cells.lookup x = some c → c ≠ it) (h3 : ∀ p ∈ X.pn ++ pins, p.1 ≠ it) : Inv X pins σ H { s with heap := h', toks := t' } := by
  have nit : ∀ b u, H b = some u → b ≠ it := fun b u e z => by rw [z, hn] at e; cases e
  refine I.step (g' := s.gens) (d' := s.drawn) (ch := [it]) (fun b hb => ?_) (fun b o _ _ hc e _ => k b o (fun z => hc (by simp [z])) e) (fun b o _ _ hc e _ => ⟨o.slots, k b o (fun z => hc (by simp [z])) e⟩) (fun _ _ _ _ n => n)
    (fun b o hc e => ⟨o, k b o (fun z => hc (by simp [z])) e⟩) (fun _ _ e => e) (fun _ _ _ e => e) (fun b ps e => ⟨#[], by rw [e]; simp⟩) (fun m hm => ?_) (fun b u e => ?_) I.bare
  · have e : b = it := by simpa using hb
    subst e
    exact ⟨h1, hL, h2, h3⟩
  · obtain ⟨o, es, ep, ho, r⟩ := hm
    exact ⟨o, es, ep, k _ o (Ne.symm hL) ho, r⟩
  · refine (I.hok b u e).stay (fun c v hc q => k c v ?_ q) (fun _ q => q) fun _ _ q => q
    rcases hc with z | z
    · rw [z]; exact nit b u e
    · exact nit c _ z
theorem Inv.tok (I : Inv X pins σ H s) (t : Nat) : Inv X pins σ H { s with toks := t } := I.un (h' := s.heap) (t' := t) Un.refl I.hok
/-- all objects kept -/
theorem Inv.kept {t' : Nat} (I : Inv X pins σ H s) (k : ∀ b u, s.heap.get? b = some u → h'.get? b = some u) : Inv X pins σ H { s with heap := h', toks := t' } := I.un (Un.kept k) (I.hok.kept k)
/-- a new object laid and tracked -/
theorem Inv.laid {a : Addr} {o : HO} {t' : Nat} (I : Inv X pins σ H s) (k : ∀ b u, s.heap.get? b = some u → h'.get? b = some u) (hp : s.heap.objs.size ≤ a) (new : ObjOk X.prog X.w (upd H a o) h' a o) :
    Inv X pins σ (upd H a o) { s with heap := h', toks := t' } := I.un (Un.laid k hp (I.hok.fresh hp)) (I.hok.laid k hp new)
/-- an object written -/
theorem Inv.write {x e : Addr} {o : HO} {t' : Nat} (I : Inv X pins σ H s) (mu : Mut (H x)) (he : e = x ∨ H e = some (.own x)) (k : ∀ b u, b ≠ e → s.heap.get? b = some u → h'.get? b = some u) (heo : ∃ u, h'.get? e = some u)
    (new : ObjOk X.prog X.w (upd H x o) h' x o) : Inv X pins σ (upd H x o) { s with heap := h', toks := t' } := I.un (Un.write mu he k heo) (I.hok.write mu he k heo new)
/-- forgetting slots, pins -/
theorem Inv.weak {σ' : List (Option V)} (I : Inv X pins σ H s) (hl : σ'.length = σ.length) (w : ∀ (i : Nat) v, σ'[i]? = some (some v) → σ[i]? = some (some v)) : Inv X pins σ' H s :=
  ⟨I.ok, I.os, I.bare, I.base, let ⟨m, hn, hl'⟩ := I.loc; ⟨m, hn, fun i x v e1 e2 e3 => hl' i x v e1 (w i v e2) e3⟩, I.cell, I.free, I.freeC, I.pin, I.hok, hl.trans I.len⟩
theorem Inv.pins_of {pins' : List (Addr × Obj)} (I : Inv X pins σ H s) (h : ∀ p ∈ pins', s.heap.get? p.1 = some p.2 ∧ H p.1 = none ∧ p.1 ≠ X.env.locals ∧ p.1 ∉ X.fs ∧ ∀ v, p.2.data ≠ .cell v) : Inv X pins' σ H s :=
  ⟨I.ok, I.os, I.bare, I.base, I.loc, I.cell, I.free, I.freeC, fun p hp => (List.mem_append.mp hp).elim (fun z => I.pin p (List.mem_append_left _ z)) (h p), I.hok, I.len⟩

theorem nodup_ix {N : List Str} (hN : N.Nodup) {i j : Nat} {x : Str} (a : N[i]? = some x) (b : N[j]? = some x) : i = j := by
  obtain ⟨h1, e1⟩ := List.getElem?_eq_some_iff.mp a
  obtain ⟨h2, e2⟩ := List.getElem?_eq_some_iff.mp b
  exact (List.getElem_inj hN).mp (e1.trans e2.symm)

/-- a name is stored; what changed -/
theorem store_ok2 {M : Model} {A : Around} {E : Value → Shared → Prop} {i : Nat} {x : Str} {v : V} {u : Value} {Q : Unit → Shared → Prop} (I : Inv X pins σ H s) (hN : X.N.Nodup) (hi : X.N[i]? = some x) (hx : Loc X.env.scope x) (r : RelV v u)
    (h : ∀ s', Inv X pins (σ.set i (some v)) H s' → (∃ a, Heap.SameBut a s.heap s'.heap ∧ (a = X.env.locals ∨ X.env.cells.lookup x = some a)) → Q () s') (hf : X.fn x = true ∨ X.env.scope.names.lookup x = some .local := by first | exact .inl rfl | exact .inr rfl | assumption) : wpAny M A (storeName X.env x u) Q E s := by
  obtain ⟨m, hn, hl⟩ := id I.loc
  have hcls : (X.env.scope.kind == .class || (X.env.scope.kind == .module && X.env.locals != X.env.globals)) = false := by rw [I.ok.kind]; rfl
  have hiσ : i < σ.length := by rw [I.len]; exact (List.getElem?_eq_some_iff.mp hi).1
  have cne := I.cne
  have tracked : ∀ {a : Addr} {h' : Heap}, (∃ o, s.heap.get? a = some o ∧ H a = none) → Heap.SameBut a s.heap h' → HOk X.prog X.w H h' := fun {a h'} ha hs b ob e => by
    obtain ⟨_, _, hfree⟩ := ha
    refine (I.hok b ob e).stay (fun c w' hc q => (hs.2 c ?_).trans q) (fun _ q => q) fun _ _ q => q
    rintro rfl
    rcases hc with rfl | hc
    · rw [hfree] at e; cases e
    · rw [hfree] at hc; cases hc
  rcases hx with hk | hk
  · refine wpAny_storeName_local hk hn (fun h' hn' hs => ?_) hcls
    obtain ⟨oL, _, _, hoL, _⟩ := id hn
    refine h _ ⟨I.ok, I.os, I.bare, ⟨fun b o e n hb hx => ?_, fun b o e n hb hx => ?_, I.base.free, fun b o e hx => ?_, I.base.tups, I.base.frzs, I.base.tbls⟩, ⟨_, hn', fun j y v' e1 e2 e3 => ?_⟩, fun y c e => ?_, I.free, I.freeC, fun p hp => ?_, tracked ⟨oL, hoL, I.free⟩ hs, by simpa using I.len⟩ ⟨_, hs, .inl rfl⟩
    · exact (hs.2 b (Nat.ne_of_lt (Nat.lt_of_lt_of_le (Heap.lt_size e) I.ok.above))).trans (I.base.keep b o e n hb hx)
    · obtain ⟨sl, e1⟩ := I.base.slot b o e n hb hx
      exact ⟨sl, (hs.2 b (Nat.ne_of_lt (Nat.lt_of_lt_of_le (Heap.lt_size e) I.ok.above))).trans e1⟩
    · obtain ⟨o', e1⟩ := I.base.there b o e hx
      exact ⟨o', (hs.2 b (Nat.ne_of_lt (Nat.lt_of_lt_of_le (Heap.lt_size e) I.ok.above))).trans e1⟩
    · by_cases hj : j = i
      · subst hj
        rw [hi] at e1; cases e1
        rw [List.getElem?_set_self hiσ] at e2
        cases e2
        exact ⟨u, r, .inl ⟨hk, by simp⟩⟩
      · rw [List.getElem?_set_ne (Ne.symm hj)] at e2
        obtain ⟨u', r', q⟩ := hl j y v' e1 e2 e3
        refine ⟨u', r', ?_⟩
        rcases q with ⟨k, e⟩ | ⟨k, c, e, z⟩
        · refine .inl ⟨k, ?_⟩
          have : y ≠ x := fun e => hj (nodup_ix hN e1 (e ▸ hi))
          simp [this, e]
        · exact .inr ⟨k, c, e, z.sameBut hs (cne y c e)⟩
    · obtain ⟨w', z⟩ := I.cell y c e
      exact ⟨w', z.sameBut hs (cne y c e)⟩
    · obtain ⟨e, n, ne, nf, d⟩ := I.pin p hp
      exact ⟨(hs.2 p.1 ne).trans e, n, ne, nf, d⟩
  · have hfn : X.fn x = true := by
      rcases hf with z | z
      · exact z
      · rw [z] at hk; cases hk
    obtain ⟨c, hc⟩ := I.ok.has x (.inl hk)
    obtain ⟨w', z⟩ := I.cell x c hc
    refine wpAny_storeName_cell I.ok.kind hk hc z (fun h' hc' hs => ?_)
    obtain ⟨oc, hoc, hocd⟩ := id z
    refine h { s with heap := h' } ⟨I.ok, I.os, I.bare, ⟨fun b o e n hb hx => ?_, fun b o e n hb hx => ?_, I.base.free, fun b o e hx => ?_, I.base.tups, I.base.frzs, I.base.tbls⟩, ⟨m, hn.sameBut hs (Ne.symm (cne x c hc)), fun j y v' e1 e2 e3 => ?_⟩, fun y c' e => ?_, I.free, I.freeC, fun p hp => ?_, tracked ⟨oc, hoc, I.freeC x c hc⟩ hs, by simpa using I.len⟩ ⟨c, hs, .inr hc⟩
    · exact (hs.2 b (Nat.ne_of_lt (Nat.lt_of_lt_of_le (Heap.lt_size e) (I.ok.cab x c hfn hc)))).trans (I.base.keep b o e n hb hx)
    · obtain ⟨sl, e1⟩ := I.base.slot b o e n hb hx
      exact ⟨sl, (hs.2 b (Nat.ne_of_lt (Nat.lt_of_lt_of_le (Heap.lt_size e) (I.ok.cab x c hfn hc)))).trans e1⟩
    · obtain ⟨o', e1⟩ := I.base.there b o e hx
      exact ⟨o', (hs.2 b (Nat.ne_of_lt (Nat.lt_of_lt_of_le (Heap.lt_size e) (I.ok.cab x c hfn hc)))).trans e1⟩
    · by_cases hj : j = i
      · subst hj
        rw [hi] at e1; cases e1
        rw [List.getElem?_set_self hiσ] at e2
        cases e2
        exact ⟨u, r, .inr ⟨.inl hk, c, hc, hc'⟩⟩
      · rw [List.getElem?_set_ne (Ne.symm hj)] at e2
        obtain ⟨u', r', q⟩ := hl j y v' e1 e2 e3
        refine ⟨u', r', ?_⟩
        rcases q with q | ⟨k, c', e, z'⟩
        · exact .inl q
        · refine .inr ⟨k, c', e, z'.sameBut hs ?_⟩
          rintro rfl
          exact hj (nodup_ix hN e1 (I.ok.inj _ _ _ e hc ▸ hi))
    · by_cases hcc : c' = c
      · subst hcc; exact ⟨_, hc'⟩
      · obtain ⟨w2, z2⟩ := I.cell y c' e
        exact ⟨w2, z2.sameBut hs hcc⟩
    · obtain ⟨e, n, ne, nf, d⟩ := I.pin p hp
      refine ⟨(hs.2 p.1 ?_).trans e, n, ne, nf, d⟩
      intro q
      rw [q, hoc] at e
      have q' : oc = p.2 := Option.some.inj e
      exact d w' (by rw [← q']; exact hocd)
theorem store_ok {M : Model} {A : Around} {E : Value → Shared → Prop} {i : Nat} {x : Str} {v : V} {u : Value} {Q : Unit → Shared → Prop} (I : Inv X pins σ H s) (hN : X.N.Nodup) (hi : X.N[i]? = some x) (hx : Loc X.env.scope x) (r : RelV v u)
    (h : ∀ s', Inv X pins (σ.set i (some v)) H s' → Q () s') (hf : X.fn x = true ∨ X.env.scope.names.lookup x = some .local := by first | exact .inl rfl | exact .inr rfl | assumption) : wpAny M A (storeName X.env x u) Q E s :=
  store_ok2 I hN hi hx r (fun s' I' _ => h s' I') hf
/-- behind a call or a block, the state as it is -/
theorem Inv.call' {s' : Shared} {ch : List Addr} (I : Inv X pins σ H s) (ho : s'.os = s.os) (u : Un (frs X.stack) ch H H' s.heap s'.heap) (hok : HOk X.prog X.w H' s'.heap) (hg : AllBare s'.gens)
    (hch : ∀ b ∈ ch, (b ∈ X.ex ∨ X.s_0.heap.objs.size ≤ b) ∧ b ≠ X.env.locals ∧ (∀ x c, X.env.cells.lookup x = some c → c ≠ b) ∧ ∀ p ∈ X.pn ++ pins, p.1 ≠ b) : Inv X pins σ H' s' := by
  obtain ⟨h', g', d', t', o'⟩ := s'
  have e : o' = s.os := ho
  subst e
  exact I.call (g' := g') (t' := t') (d' := d') u hok hg hch
end

/-! ### the judgements -/
/-- an exception: its class, its own dict's address (where it has one), the abstract heap behind it -/
abbrev XK := Value → Option Addr → Hp → Prop
abbrev St := List (Option V)
abbrev VK := V → Hp → Prop
/-- an expression's reading; a test's; an argument list's -/
abbrev TE := St → Hp → VK → Prop
abbrev TT := St → Hp → (Bool → Hp → Prop) → Prop
abbrev TA := St → Hp → (List V → Hp → Prop) → Prop
/-- what is wanted behind a statement -/
structure Ends where
  nx : St → Hp → Prop
  rt : VK
  bk : St → Hp → Prop := fun _ _ => False
  ct : St → Hp → Prop := fun _ _ => False
abbrev TS := Ends → St → Hp → Prop

def EP (X : Cx) (pins : List (Addr × Obj)) (σ : St) (Q : VK) (u : Value) (s' : Shared) : Prop := ∃ v H', Inv X pins σ H' s' ∧ RelV v u ∧ Q v H'
def TP (X : Cx) (pins : List (Addr × Obj)) (σ : St) (Q : Bool → Hp → Prop) (b : Bool) (s' : Shared) : Prop := ∃ H', Inv X pins σ H' s' ∧ Q b H'
def AP (X : Cx) (pins : List (Addr × Obj)) (σ : St) (Q : List V → Hp → Prop) (us : List Value) (s' : Shared) : Prop := ∃ vs H', Inv X pins σ H' s' ∧ Vals vs us ∧ Q vs H'
def SP (X : Cx) (pins : List (Addr × Obj)) (D : Ends) (f : Flow) (s' : Shared) : Prop :=
  match f with
  | .next => ∃ σ' H', Inv X pins σ' H' s' ∧ D.nx σ' H'
  | .brk => ∃ σ' H', Inv X pins σ' H' s' ∧ D.bk σ' H'
  | .cont => ∃ σ' H', Inv X pins σ' H' s' ∧ D.ct σ' H'
  | .ret u => ∃ v σ' H', Inv X pins σ' H' s' ∧ RelV v u ∧ D.rt v H'

def PE (X : Cx) (e : Expr) (t : TE) : Prop :=
  ∀ (pins : List (Addr × Obj)) (s : Shared) (σ : St) (H : Hp) (Q : VK), Inv X pins σ H s → t σ H Q → wpAny (model X.prog X.w) X.A (eval e X.env) (EP X pins σ Q) X.xe s
def PT (X : Cx) (e : Expr) (t : TT) : Prop :=
  ∀ (pins : List (Addr × Obj)) (s : Shared) (σ : St) (H : Hp) (Q : Bool → Hp → Prop), Inv X pins σ H s → t σ H Q → wpAny (model X.prog X.w) X.A (isTrue e X.env (eval e X.env)) (TP X pins σ Q) X.xe s
/-- a test whatever its 'whole' is (and, or) -/
def PW (X : Cx) (e : Expr) (t : TT) : Prop :=
  ∀ (whole : Sem Value) (pins : List (Addr × Obj)) (s : Shared) (σ : St) (H : Hp) (Q : Bool → Hp → Prop), Inv X pins σ H s → t σ H Q → wpAny (model X.prog X.w) X.A (isTrue e X.env whole) (TP X pins σ Q) X.xe s
theorem PW.pt {X : Cx} {e : Expr} {t : TT} (h : PW X e t) : PT X e t := h _
/-- an argument list (no star), from the left -/
def PA (X : Cx) (es : List Expr) (t : TA) : Prop :=
  ∀ (pos : Pos) (pins : List (Addr × Obj)) (s : Shared) (σ : St) (H : Hp) (Q : List V → Hp → Prop), Inv X pins σ H s → t σ H Q → wpAny (model X.prog X.w) X.A (spliced (backTo pos (starEach es X.env))) (AP X pins σ Q) X.xe s
def PS (X : Cx) (st : Stmt) (t : TS) : Prop :=
  ∀ (pins : List (Addr × Obj)) (s : Shared) (σ : St) (H : Hp) (D : Ends), Inv X pins σ H s → t D σ H → wpAny (model X.prog X.w) X.A (exec st X.env) (SP X pins D) X.xe s
def PSs (X : Cx) (st : List Stmt) (t : TS) : Prop :=
  ∀ (pins : List (Addr × Obj)) (s : Shared) (σ : St) (H : Hp) (D : Ends), Inv X pins σ H s → t D σ H → wpAny (model X.prog X.w) X.A (execs st X.env) (SP X pins D) X.xe s
/-- weaken the end -/
theorem thn {α : Type} {t : Sem α} {Q Q' : α → Shared → Prop} {M : Model} {A : Around} {E : Value → Shared → Prop} {s : Shared} (h : wpAny M A t Q E s) (hQ : ∀ a s, Q a s → Q' a s) : wpAny M A t Q' E s := wpAny_mono h hQ fun _ _ x => x
end L2

namespace L2
open PySem PySem.Spec PyProof.Rows
section
variable {X : Cx}

/-! ### names and constants -/
def tVar (i : Nat) : TE := fun σ H Q => ∃ v, σ[i]? = some (some v) ∧ Q v H
def tC (v : V) : TE := fun _ H Q => Q v H
theorem pe_var {i : Nat} {x : Str} {pos : Pos} (hN : X.N[i]? = some x) (hv : Vis X.env.scope x) (hd : (x == ("__debug__" : Str)) = false := by decide) (hcd : (x == ("__classdict__" : Str)) = false := by decide) : PE X (.Name x pos) (tVar i) := by
  intro pins s σ H Q I h
  obtain ⟨v, e, h⟩ := h
  obtain ⟨m, hn, hl⟩ := I.loc
  obtain ⟨u, r, l⟩ := hl i x v hN e hv
  have fin : EP X pins σ Q u s := ⟨v, H, I, r, h⟩
  rcases l with ⟨hk, hm⟩ | ⟨hk, c, hc, hcell⟩
  · exact wpAny_Name (wpAny_loadName_local I.ok.kind hk hn hm fin) hd
  · rcases hk with hk | hk
    · exact wpAny_Name (wpAny_loadName_cell I.ok.kind hk hc hcell fin) hd
    · exact wpAny_Name (wpAny_loadName_free I.ok.kind hk hc hcell fin hcd) hd
theorem pe_int {i j pos} : PE X (.Constant (.int i) j pos) (tC (.int i)) := fun _ _ _ H _ I h => wpAny_Constant_int ⟨.int i, H, I.tok _, ⟨_, rfl⟩, h⟩
theorem pe_bl {b j pos} : PE X (.Constant (.bool b) j pos) (tC (.bl b)) := fun _ _ _ H _ I h => Constant_bool ⟨.bl b, H, I, rfl, h⟩
theorem pe_non {j pos} : PE X (.Constant .none j pos) (tC .non) := fun _ _ _ H _ I h => Constant_none ⟨.non, H, I, rfl, h⟩
theorem pe_str {x j pos} : PE X (.Constant (.str x) j pos) (tC (.str x)) := fun _ _ _ H _ I h => Calls.Constant_str ⟨.str x, H, I.tok _, ⟨_, rfl⟩, h⟩

/-- a global name of the def -/
def Gl (X : Cx) (x : Str) : Prop := X.env.kindOf x = some .globalImplicit
theorem ld_glob {E : Value → Shared → Prop} {pins : List (Addr × Obj)} {s : Shared} {σ : St} {H : Hp} {x : Str} {u : Value} {pos : Pos} {Q : Value → Shared → Prop} (I : Inv X pins σ H s) (hg : Gl X x) (hm : X.mg x = some u) (h : Q u s)
    (hd : (x == ("__debug__" : Str)) = false := by decide) : wpAny (model X.prog X.w) X.A (eval (.Name x pos) X.env) Q E s :=
  Calls.Name_function_global I.ok.kind hg (Calls.loadGlobal_global (by rw [I.ok.glob]; exact I.mod.glob.keeps I.bk) hm h) hd
theorem ld_blt {E : Value → Shared → Prop} {pins : List (Addr × Obj)} {s : Shared} {σ : St} {H : Hp} {x : Str} {u : Value} {pos : Pos} {Q : Value → Shared → Prop} (I : Inv X pins σ H s) (hg : Gl X x) (hm : X.mg x = none) (hv : bootBuiltins x = some u) (h : Q u s)
    (hn : x ≠ "__name__" := by decide) (hd : (x == ("__debug__" : Str)) = false := by decide) : wpAny (model X.prog X.w) X.A (eval (.Name x pos) X.env) Q E s := by
  obtain ⟨mb, h1, h2⟩ := I.mod.blt
  exact Calls.Name_function_global I.ok.kind hg (Calls.loadGlobal_builtin (by rw [I.ok.glob]; exact I.mod.glob.keeps I.bk) hm (by rw [I.ok.blt]; exact h1.keeps I.bk) ((h2 x hn).trans hv) h) hd
/-- a module's constant, a class, a function, as a value -/
theorem pe_glob {x : Str} {v : V} {u : Value} {pos : Pos} (hg : Gl X x) (hm : X.mg x = some u) (r : RelV v u) (hd : (x == ("__debug__" : Str)) = false := by decide) : PE X (.Name x pos) (tC v) :=
  fun _ _ _ H _ I h => ld_glob I hg hm ⟨v, H, I, r, h⟩ hd
theorem pe_bltn {x : Str} {v : V} {u : Value} {pos : Pos} (hg : Gl X x) (hm : X.mg x = none) (hv : bootBuiltins x = some u) (r : RelV v u) (hn : x ≠ "__name__" := by decide) (hd : (x == ("__debug__" : Str)) = false := by decide) : PE X (.Name x pos) (tC v) :=
  fun _ _ _ H _ I h => ld_blt I hg hm hv ⟨v, H, I, r, h⟩ hn hd

/-! ### arithmetic -/
variable {a b : Expr} {ta tb : TE} {pos : Pos}
/-! ### comparisons -/
/-- a comparison as a value, as a test -/
def tB (t : TE) : TT := fun σ H Q => t σ H fun x H1 => ∃ c, x = .bl c ∧ Q c H1
/-- an expression whose value is a bool, as a test -/
theorem pt_val {e : Expr} {t : TE} (h : PE X e t) (he : ∀ whole, isTrue e X.env whole = (do let v ← whole; standAt e.pos; holding [v] (truthy v)) := by intro _; rfl) : PT X e (tB t) := by
  intro pins s σ H Q I hw
  refine isTrue_plain (thn (h pins s σ H _ I hw) fun v s1 ⟨x, H1, I1, r1, q1⟩ => ?_) (he _)
  obtain ⟨d, rfl, q⟩ := q1
  cases r1
  exact wpAny_truthy_bool ⟨H1, I1, q⟩

/-! ### and, or, not -/
variable {tA tB' : TT} {rest : List Expr}
def tAnd (t u : TT) : TT := fun σ H Q => t σ H fun c H1 => if c = true then u σ H1 Q else Q false H1
def tOr (t u : TT) : TT := fun σ H Q => t σ H fun c H1 => if c = true then Q true H1 else u σ H1 Q
def tNot (t : TT) : TT := fun σ H Q => t σ H fun c H1 => Q (!c) H1
theorem pw_and1 (ha : PT X a tA) : PW X (.BoolOp .And [a] pos) tA := by
  intro wh pins s σ H Q I h
  refine isTrue_and (thn (ha pins s σ H Q I h) fun c s1 e => ?_)
  cases c with
  | true => exact isTrue_and_nil e
  | false => exact e
theorem pw_or1 (ha : PT X a tA) : PW X (.BoolOp .Or [a] pos) tA := by
  intro wh pins s σ H Q I h
  refine isTrue_or (thn (ha pins s σ H Q I h) fun c s1 e => ?_)
  cases c with
  | false => exact isTrue_or_nil e
  | true => exact e
theorem pw_and (ha : PT X a tA) (hb : PW X (.BoolOp .And (b :: rest) pos) tB') : PW X (.BoolOp .And (a :: b :: rest) pos) (tAnd tA tB') := by
  intro wh pins s σ H Q I h
  refine isTrue_and (thn (ha pins s σ H _ I h) fun c s1 ⟨H1, I1, q1⟩ => ?_)
  cases c with
  | true => exact hb wh pins s1 σ H1 Q I1 q1
  | false => exact ⟨H1, I1, q1⟩
theorem pw_or (ha : PT X a tA) (hb : PW X (.BoolOp .Or (b :: rest) pos) tB') : PW X (.BoolOp .Or (a :: b :: rest) pos) (tOr tA tB') := by
  intro wh pins s σ H Q I h
  refine isTrue_or (thn (ha pins s σ H _ I h) fun c s1 ⟨H1, I1, q1⟩ => ?_)
  cases c with
  | true => exact ⟨H1, I1, q1⟩
  | false => exact hb wh pins s1 σ H1 Q I1 q1
theorem pt_not (ha : PT X a tA) : PT X (.UnaryOp .Not a pos) (tNot tA) := by
  intro pins s σ H Q I h
  exact isTrue_not (ha pins s σ H (fun c H1 => Q (!c) H1) I h)
/-- .. as values (bools) -/
def tAndV (ta tb : TE) : TE := fun σ H Q => ta σ H fun x H1 => ∃ c, x = .bl c ∧ if c = true then tb σ H1 Q else Q (.bl false) H1
theorem pe_one {op} {t : TE} (h : PE X a t) : PE X (.BoolOp op [a] pos) t := fun pins s σ H Q I hw => BoolOp_one (h pins s σ H Q I hw)
theorem pe_and (ha : PE X a ta) (hb : PE X (.BoolOp .And (b :: rest) pos) tb) : PE X (.BoolOp .And (a :: b :: rest) pos) (tAndV ta tb) := by
  intro pins s σ H Q I h
  refine BoolOp_and (thn (ha pins s σ H _ I h) fun v s1 ⟨x, H1, I1, r1, q1⟩ => ?_)
  obtain ⟨c, rfl, q1⟩ := q1
  cases r1
  refine wpAny_truthy_bool ?_
  cases c with
  | true => exact hb pins s1 σ H1 Q I1 q1
  | false => exact ⟨.bl false, H1, I1, rfl, q1⟩
/-- a if t else b -/
def tIf (t : TT) (ta tb : TE) : TE := fun σ H Q => t σ H fun c H1 => if c = true then ta σ H1 Q else tb σ H1 Q
theorem pe_ifExp {c : Expr} (hc : PT X c tA) (ha : PE X a ta) (hb : PE X b tb) : PE X (.IfExp c a b pos) (tIf tA ta tb) := by
  intro pins s σ H Q I h
  refine wpAny_IfExp (thn (hc pins s σ H _ I h) fun d s1 ⟨H1, I1, q1⟩ => ?_)
  cases d with
  | true => exact ha pins s1 σ H1 Q I1 q1
  | false => exact hb pins s1 σ H1 Q I1 q1
end
end L2

namespace L2
open PySem PySem.Spec PyProof.Rows

/-! ### a list, a tuple that is read: tracked, frozen, or an object of the module -/
def SqL (K : PySem.W.Frag) (H : Hp) (a : Addr) (xs : List V) : Prop :=
  Rd H a (.lst xs) ∨
    ∃ (o : Obj) (its : Array Value) (n : Nat), K.lookup a = some o ∧ o.cls = .type "list" ∧ o.dict = none ∧ o.data = .seq its n ∧ its.size ≤ sizeLine ∧ Vals xs its.toList
def SqT (K : PySem.W.Frag) (H : Hp) (a : Addr) (xs : List V) : Prop :=
  Rd H a (.tup xs) ∨
    ∃ (o : Obj) (its : Array Value) (n : Nat), K.lookup a = some o ∧ o.cls = .type "tuple" ∧ o.data = .seq its n ∧ its.size ≤ sizeLine ∧ Vals xs its.toList
def absV : Value → Option V
  | .none => some .non
  | .bool b => some (.bl b)
  | .int i _ => some (.int i)
  | .str x _ => some (.str x)
  | .bytes b _ => some (.byt b)
  | .float b _ => some (.flt b)
  | .ref a => some (.ref a)
  | .type n => some (.ty n)
  | _ => none
theorem RelV.abs {x : V} {u : Value} (r : RelV x u) : absV u = some x := by
  cases x with
  | non => cases r; rfl
  | bl _ => cases r; rfl
  | int _ => obtain ⟨t, rfl⟩ := r; rfl
  | str _ => obtain ⟨t, rfl⟩ := r; rfl
  | byt _ => obtain ⟨t, rfl⟩ := r; rfl
  | flt _ => obtain ⟨t, rfl⟩ := r; rfl
  | ref _ => cases r; rfl
  | ty _ => cases r; rfl
theorem RelV.inj {x y : V} {u : Value} (r : RelV x u) (q : RelV y u) : x = y := Option.some.inj (r.abs.symm.trans q.abs)
theorem Vals.inj : ∀ {xs ys : List V} {us : List Value}, Vals xs us → Vals ys us → xs = ys
  | _, _, _, .nil, .nil => rfl
  | _, _, _, .cons r t, .cons r' t' => by rw [r.inj r', Vals.inj t t']
section
variable {X : Cx} {pins : List (Addr × Obj)} {σ : St} {H : Hp} {s : Shared} {a : Addr} {xs ys : List V}
theorem SqL.of {K : PySem.W.Frag} (h : H a = some (.lst xs)) : SqL K H a xs := .inl (.inl h)
theorem SqT.of {K : PySem.W.Frag} (h : H a = some (.tup xs)) : SqT K H a xs := .inl (.inl h)
theorem Inv.list (I : Inv X pins σ H s) (h : SqL X.K H a xs) : ∃ its : List Value, Vals xs its ∧ PlainL s.heap a its.toArray ∧ xs.length ≤ sizeLine := by
  rcases h with h | ⟨o, its, n, hk, hc, hd, hs, hz, r⟩
  · obtain ⟨z, its, n, r, e⟩ := h.ok I.hok
    exact ⟨its, r, ⟨_, n, e, rfl, rfl, rfl⟩, z⟩
  · refine ⟨its.toList, r, ⟨o, n, I.kIn a o hk, hc, hd, by simpa using hs⟩, ?_⟩
    have e := r.length
    simp only [Array.length_toList] at e
    omega
theorem Inv.tuple (I : Inv X pins σ H s) (h : SqT X.K H a xs) : ∃ its : List Value, Vals xs its ∧ IsTup s.heap a its.toArray ∧ xs.length ≤ sizeLine := by
  rcases h with h | ⟨o, its, n, hk, hc, hs, hz, r⟩
  · obtain ⟨z, its, r, p⟩ := h.ok I.hok
    exact ⟨its, r, p, z⟩
  · refine ⟨its.toList, r, ⟨o, I.kIn a o hk, hc, n, by simpa using hs⟩, ?_⟩
    have e := r.length
    simp only [Array.length_toList] at e
    omega
theorem Inv.list_inj (I : Inv X pins σ H s) (h : SqL X.K H a xs) (h' : SqL X.K H a ys) : xs = ys := by
  obtain ⟨its, r, ⟨o, n, e, _, _, d⟩, _⟩ := I.list h
  obtain ⟨its', r', ⟨o', n', e', _, _, d'⟩, _⟩ := I.list h'
  rw [e] at e'; cases e'
  rw [d] at d'
  injection d' with d1 _
  have : its = its' := by simpa using congrArg Array.toList d1
  subst this
  exact r.inj r'
theorem Inv.tuple_inj (I : Inv X pins σ H s) (h : SqT X.K H a xs) (h' : SqT X.K H a ys) : xs = ys := by
  obtain ⟨its, r, ⟨o, e, _, n, d⟩, _⟩ := I.tuple h
  obtain ⟨its', r', ⟨o', e', _, n', d'⟩, _⟩ := I.tuple h'
  rw [e] at e'; cases e'
  rw [d] at d'
  injection d' with d1 _
  have : its = its' := by simpa using congrArg Array.toList d1
  subst this
  exact r.inj r'
end

/-! ### another wish about exceptions -/
abbrev Cx.wish (X : Cx) (E : Value → Shared → Prop) : Cx := { X with xe := E }
/-- no exception leaves -/
abbrev Cx.nox (X : Cx) : Cx := X.wish fun _ _ => False
theorem Cx.Ok.wish {X : Cx} (ok : X.Ok) (E : Value → Shared → Prop) : (X.wish E).Ok :=
  ⟨ok.mod, ok.kind, ok.glob, ok.blt, ok.above, ok.inj, ok.has, ok.cab, ok.hd, ok.frames, ok.stk, ok.exf, ok.bs, ok.bsz, ok.noex, ok.exfs, ok.funs, ok.frf⟩
theorem Cx.Ok.unwish {X : Cx} {E : Value → Shared → Prop} (ok : (X.wish E).Ok) : X.Ok :=
  ⟨ok.mod, ok.kind, ok.glob, ok.blt, ok.above, ok.inj, ok.has, ok.cab, ok.hd, ok.frames, ok.stk, ok.exf, ok.bs, ok.bsz, ok.noex, ok.exfs, ok.funs, ok.frf⟩
section
variable {X : Cx} {pins : List (Addr × Obj)} {σ : St} {H : Hp} {s : Shared} {E : Value → Shared → Prop}
theorem Inv.wish (I : Inv X pins σ H s) (E : Value → Shared → Prop) : Inv (X.wish E) pins σ H s := ⟨I.ok.wish E, I.os, I.bare, I.base, I.loc, I.cell, I.free, I.freeC, I.pin, I.hok, I.len⟩
theorem Inv.unwish (I : Inv (X.wish E) pins σ H s) : Inv X pins σ H s := ⟨I.ok.unwish, I.os, I.bare, I.base, I.loc, I.cell, I.free, I.freeC, I.pin, I.hok, I.len⟩
theorem SP.unwish {D : Ends} {f : Flow} {s' : Shared} (h : SP (X.wish E) pins D f s') : SP X pins D f s' := by
  cases f with
  | next => obtain ⟨σ', H', I, q⟩ := h; exact ⟨σ', H', I.unwish, q⟩
  | brk => obtain ⟨σ', H', I, q⟩ := h; exact ⟨σ', H', I.unwish, q⟩
  | cont => obtain ⟨σ', H', I, q⟩ := h; exact ⟨σ', H', I.unwish, q⟩
  | ret u => obtain ⟨v, σ', H', I, r, q⟩ := h; exact ⟨v, σ', H', I.unwish, r, q⟩
theorem PE.nox {e : Expr} {t : TE} (h : PE X.nox e t) : PE X e t := fun pins s σ H Q I hw =>
  wpAny_mono (h pins s σ H Q (I.wish _) hw) (fun _ _ ⟨v, H', I', r, q⟩ => ⟨v, H', I'.unwish, r, q⟩) fun _ _ z => False.elim z
theorem PT.nox {e : Expr} {t : TT} (h : PT X.nox e t) : PT X e t := fun pins s σ H Q I hw =>
  wpAny_mono (h pins s σ H Q (I.wish _) hw) (fun _ _ ⟨H', I', q⟩ => ⟨H', I'.unwish, q⟩) fun _ _ z => False.elim z
theorem PSs.nox {st : List Stmt} {t : TS} (h : PSs X.nox st t) : PSs X st t := fun pins s σ H D I hw =>
  wpAny_mono (h pins s σ H D (I.wish _) hw) (fun _ _ q => q.unwish) fun _ _ z => False.elim z
end

/-! ### blocks and small statements -/
section
variable {X : Cx} {st : Stmt} {rest : List Stmt} {t u : TS} {e : Expr} {te : TE} {pos : Pos}
def tNext : TS := fun D σ H => D.nx σ H
def tSeq (t u : TS) : TS := fun D σ H => t { D with nx := u D } σ H
theorem pss_nil : PSs X [] tNext := fun _ _ σ H _ I h => wpAny_execs_nil ⟨σ, H, I, h⟩
theorem pss_cons (h1 : PS X st t) (h2 : PSs X rest u) : PSs X (st :: rest) (tSeq t u) := by
  intro pins s σ H D I h
  refine wpAny_execs_cons (thn (h1 pins s σ H { D with nx := u D } I h) fun f s1 q => ?_)
  cases f with
  | next =>
    obtain ⟨σ', H', I', q⟩ := q
    exact h2 pins s1 σ' H' D I' q
  | ret v => exact q
  | brk => exact q
  | cont => exact q
theorem pss_one (h1 : PS X st t) : PSs X [st] t := by
  intro pins s σ H D I h
  refine wpAny_execs_cons (thn (h1 pins s σ H D I h) fun f s1 q => ?_)
  cases f with
  | next => exact wpAny_execs_nil q
  | ret v => exact q
  | brk => exact q
  | cont => exact q
/-- in a def's body nothing is shown -/
theorem Inv.quiet {pins : List (Addr × Obj)} {σ : St} {H : Hp} {s : Shared} (I : Inv X pins σ H s) : interactive X.env = false := by simp [interactive, I.ok.kind]
/-- an expression whose value is dropped -/
def tDrop (te : TE) : TS := fun D σ H => te σ H fun _ H1 => D.nx σ H1
theorem ps_expr (he : PE X e te) (hs : swapsWith e none pos.line X.env = pure false := by rfl) : PS X (.Expr e pos) (tDrop te) := by
  intro pins s σ H D I h
  exact wpAny_Expr_any (thn (he pins s σ H _ I h) fun v s1 ⟨x, H1, I1, r1, q1⟩ => ⟨σ, H1, I1, q1⟩) I.quiet hs
def tRet (te : TE) : TS := fun D σ H => te σ H D.rt
theorem ps_ret (he : PE X e te) : PS X (.Return (some e) pos) (tRet te) := by
  intro pins s σ H D I h
  exact wpAny_Return_some (thn (he pins s σ H _ I h) fun v s1 ⟨x, H1, I1, r1, q1⟩ => ⟨x, σ, H1, I1, r1, q1⟩)
def tIfS (c : TT) (t u : TS) : TS := fun D σ H => c σ H fun b H1 => if b = true then t D σ H1 else u D σ H1
theorem ps_if {c : Expr} {a b : List Stmt} {tc : TT} (hc : PT X c tc) (ha : PSs X a t) (hb : PSs X b u) : PS X (.If c a b pos) (tIfS tc t u) := by
  intro pins s σ H D I h
  refine wpAny_If (thn (hc pins s σ H _ I h) fun d s1 ⟨H1, I1, q1⟩ => ?_)
  cases d with
  | true => exact ha pins s1 σ H1 D I1 q1
  | false => exact hb pins s1 σ H1 D I1 q1
/-- code that the proof never comes to -/
def tNever : TS := fun _ _ _ => False
theorem ps_never : PS X st tNever := fun _ _ _ _ _ _ h => h.elim
theorem pss_never {sts : List Stmt} : PSs X sts tNever := fun _ _ _ _ _ _ h => h.elim
end

/-! ### targets -/
abbrev TG := V → St → Hp → (St → Hp → Prop) → Prop
abbrev TGs := List V → St → Hp → (St → Hp → Prop) → Prop
def PG (X : Cx) (target : Expr) (t : TG) : Prop :=
  ∀ (pins : List (Addr × Obj)) (s : Shared) (σ : St) (H : Hp) (v : V) (u : Value) (Q : St → Hp → Prop), Inv X pins σ H s → RelV v u → t v σ H Q →
    wpAny (model X.prog X.w) X.A (assign target X.env u) (fun _ s' => ∃ σ' H', Inv X pins σ' H' s' ∧ Q σ' H') X.xe s
/-- several targets, one after another -/
def PGs (X : Cx) (ts : List Expr) (t : TGs) : Prop :=
  ∀ (pins : List (Addr × Obj)) (s : Shared) (σ : St) (H : Hp) (vs : List V) (us : List Value) (Q : St → Hp → Prop), Inv X pins σ H s → Vals vs us → t vs σ H Q →
    wpAny (model X.prog X.w) X.A (assignInOrder ((assignEach ts X.env).map (·.2)) us) (fun _ s' => ∃ σ' H', Inv X pins σ' H' s' ∧ Q σ' H') X.xe s
/-- o[i] = v, by values -/
abbrev TSet := V → V → V → Hp → (Hp → Prop) → Prop
def PSet (X : Cx) (t : TSet) : Prop :=
  ∀ (pins : List (Addr × Obj)) (s : Shared) (σ : St) (H : Hp) (o i v : V) (ov iv u : Value) (Q : Hp → Prop), Inv X pins σ H s → RelV o ov → RelV i iv → RelV v u → t o i v H Q →
    wpAny (model X.prog X.w) X.A (setItem ov iv u) (fun _ s' => ∃ H', Inv X pins σ H' s' ∧ Q H') X.xe s
/-- a op= b, by values -/
abbrev TIp := V → V → Hp → VK → Prop
def PIp (X : Cx) (op : Operator) (t : TIp) : Prop :=
  ∀ (pins : List (Addr × Obj)) (s : Shared) (σ : St) (H : Hp) (x y : V) (v u : Value) (Q : VK), Inv X pins σ H s → RelV x v → RelV y u → t x y H Q →
    wpAny (model X.prog X.w) X.A (inplaceOp op v u) (EP X pins σ Q) X.xe s
section
variable {X : Cx} {pos : Pos}
def gName (i : Nat) : TG := fun v σ H Q => Q (σ.set i (some v)) H
theorem pg_name {i : Nat} {x : Str} (hN : X.N.Nodup) (hi : X.N[i]? = some x) (hx : Loc X.env.scope x) (hf : X.fn x = true ∨ X.env.scope.names.lookup x = some .local := by first | exact .inl rfl | exact .inr rfl | assumption) : PG X (.Name x pos) (gName i) := by
  intro pins s σ H v u Q I r h
  exact wpAny_assign_Name (store_ok I hN hi hx r (fun s' I' => ⟨_, H, I', h⟩) hf)
def gNil : TGs := fun vs σ H Q => vs = [] ∧ Q σ H
def gCons (t : TG) (u : TGs) : TGs := fun vs σ H Q => ∃ v r, vs = v :: r ∧ t v σ H fun σ' H' => u r σ' H' Q
theorem pgs_nil : PGs X [] gNil := by
  intro pins s σ H vs us Q I r h
  obtain ⟨e, h⟩ := h
  subst e
  cases r
  exact assignInOrder_nil ⟨σ, H, I, h⟩
theorem pgs_cons {e : Expr} {es : List Expr} {t : TG} {u : TGs} (h1 : PG X e t) (h2 : PGs X es u)
    (hs : (assignEach (e :: es) X.env).map (·.2) = assign e X.env :: (assignEach es X.env).map (·.2) := by rfl) : PGs X (e :: es) (gCons t u) := by
  intro pins s σ H vs us Q I r h
  obtain ⟨v, vr, e1, h⟩ := h
  subst e1
  cases r with
  | cons r rr =>
    rw [hs]
    refine assignInOrder_cons (thn (h1 pins s σ H _ _ _ I r h) fun _ s1 ⟨σ1, H1, I1, q1⟩ => ?_)
    exact h2 pins s1 σ1 H1 _ _ Q I1 rr q1
/-- (a, b, ..) = a tuple of that length -/
def gTup (K : PySem.W.Frag) (n : Nat) (t : TGs) : TG := fun v σ H Q => ∃ a xs, v = .ref a ∧ SqT K H a xs ∧ xs.length = n ∧ t xs σ H Q
theorem pg_tup {es : List Expr} {k : Nat} {t : TGs} {n : Nat} (hc : X.calm = true) (h : PGs X es t)
    (hn : (assignEach es X.env).length = n := by rfl) (hst : (assignEach es X.env).findIdx? (·.1) = none := by rfl) : PG X (.Tuple es k pos) (gTup X.K n t) := by
  intro pins s σ H v u Q I r hw
  obtain ⟨a, xs, e1, hq, hl, hw⟩ := hw
  subst e1
  cases r
  obtain ⟨its, rv, ht, hz⟩ := I.tuple hq
  refine assign_Tuple_tuple (I.ok.hd hc) ht (by simp [hn, ← hl, rv.length]) hst fun h' hx => ?_
  have I1 : Inv X pins σ H { s with heap := h' } := I.kept (t' := s.toks) fun b o e => hx b o (Nat.ne_of_lt (Heap.lt_size e)) e
  exact h pins _ σ H xs _ Q I1 (by simpa using rv) hw
/-- o[i] = .. -/
def gSub (to ti : TE) (t : TSet) : TG := fun v σ H Q => to σ H fun o H1 => ti σ H1 fun i H2 => t o i v H2 fun H3 => Q σ H3
theorem pg_sub {o i : Expr} {to ti : TE} {t : TSet} (ho : PE X o to) (hi : PE X i ti) (hs : PSet X t)
    (ha : ∀ v, assign (.Subscript o i pos) X.env v = (do
      let ov ← holding [v] (eval o X.env)
      let iv ← holding [v, ov] (eval i X.env)
      standAt pos
      holding [v, ov, iv] (setItem ov iv v)
      release [v, ov, iv] []) := by intro _; rfl) : PG X (.Subscript o i pos) (gSub to ti t) := by
  intro pins s σ H v u Q I r h
  rw [ha]
  refine wpAny_bind (wpAny_holding (thn (ho pins s σ H _ I h) fun ov s1 ⟨x, H1, I1, r1, q1⟩ => ?_))
  refine wpAny_bind (wpAny_holding (thn (hi pins s1 σ H1 _ I1 q1) fun iv s2 ⟨y, H2, I2, r2, q2⟩ => ?_))
  refine wpAny_bind (wpAny_standAt (wpAny_bind (wpAny_holding (thn (hs pins s2 σ H2 x y v ov iv u _ I2 r1 r2 r q2) fun _ s3 ⟨H3, I3, q3⟩ => ?_))))
  exact wpAny_release ⟨σ, H3, I3, q3⟩
/-- target = value -/
def tAsg (te : TE) (g : TG) : TS := fun D σ H => te σ H fun x H1 => g x σ H1 D.nx
theorem ps_asg {tg e : Expr} {te : TE} {g : TG} (he : PE X e te) (hg : PG X tg g) (hs : swapsWithSole [tg] e pos.line X.env = pure false := by rfl) (hw : swappedStores [tg] e X.env = pure none := by rfl)
    (h1 : (assignEach [tg] X.env).map (·.2) = [assign tg X.env] := by rfl) : PS X (.Assign [tg] e pos) (tAsg te g) := by
  intro pins s σ H D I h
  refine wpAny_Assign_stores (thn (he pins s σ H _ I h) fun v s1 ⟨x, H1, I1, r1, q1⟩ => ?_) hs hw
  rw [h1]
  exact thn (hg pins s1 σ H1 x v _ I1 r1 q1) fun _ s2 q => q
/-- name = value -/
theorem ps_set {i : Nat} {x : Str} {e : Expr} {te : TE} {pos' : Pos} (hN : X.N.Nodup) (hi : X.N[i]? = some x) (hx : Loc X.env.scope x) (he : PE X e te) (hs : swapsWith e (some (.Name x pos')) pos.line X.env = pure false := by rfl) (hf : X.fn x = true ∨ X.env.scope.names.lookup x = some .local := by first | exact .inl rfl | exact .inr rfl | assumption) :
    PS X (.Assign [.Name x pos'] e pos) (tAsg te (gName i)) := by
  intro pins s σ H D I h
  refine wpAny_Assign_Name (thn (he pins s σ H _ I h) fun v s1 ⟨y, H1, I1, r1, q1⟩ => ?_) hs
  exact store_ok I1 hN hi hx r1 (fun s2 I2 => ⟨_, H1, I2, q1⟩) hf
/-- name op= e -/
def tAug (i : Nat) (te : TE) (ti : TIp) : TS := fun D σ H => ∃ x, σ[i]? = some (some x) ∧ te σ H fun y H1 => ti x y H1 fun z H2 => D.nx (σ.set i (some z)) H2
theorem ps_aug {i : Nat} {x : Str} {e : Expr} {te : TE} {op : Operator} {ti : TIp} {pos' : Pos} (hN : X.N.Nodup) (hi : X.N[i]? = some x) (hx : Loc X.env.scope x) (he : PE X e te) (ho : PIp X op ti) (hf : X.fn x = true ∨ X.env.scope.names.lookup x = some .local := by first | exact .inl rfl | exact .inr rfl | assumption) :
    PS X (.AugAssign (.Name x pos') op e pos) (tAug i te ti) := by
  intro pins s σ H D I h
  obtain ⟨v, e1, h⟩ := h
  obtain ⟨m, hn, hl⟩ := I.loc
  have vis : Vis X.env.scope x := by rcases hx with k | k; exact .inl k; exact .inr (.inl k)
  obtain ⟨u, r, l⟩ := hl i x v hi e1 vis
  refine wpAny_AugAssign_Name ?_
  have go : wpAny (model X.prog X.w) X.A (eval e X.env) (fun w s₂ => wpAny (model X.prog X.w) X.A (inplaceOp op u w) (fun r s₃ => wpAny (model X.prog X.w) X.A (storeName X.env x r) (fun _ => SP X pins D .next) X.xe s₃) X.xe s₂) X.xe s := by
    refine thn (he pins s σ H _ I h) fun w s1 ⟨y, H1, I1, r1, q1⟩ => ?_
    refine thn (ho pins s1 σ H1 v y u w _ I1 r r1 q1) fun z s2 ⟨zv, H2, I2, r2, q2⟩ => ?_
    exact store_ok I2 hN hi hx r2 (fun s3 I3 => ⟨_, H2, I3, q2⟩) hf
  rcases l with ⟨hk, hm⟩ | ⟨hk, c, hc, hcell⟩
  · exact wpAny_loadName_local I.ok.kind hk hn hm go
  · rcases hk with hk | hk
    · exact wpAny_loadName_cell I.ok.kind hk hc hcell go
    · rcases hx with k | k
      · have : X.env.scope.names.lookup x = some .free := hk
        rw [k] at this; cases this
      · have : X.env.scope.names.lookup x = some .free := hk
        rw [k] at this; cases this
/-- ints -/
def ipI (f : Int → Int → Int) : TIp := fun x y H Q => ∃ i j, x = .int i ∧ y = .int j ∧ Q (.int (f i j)) H
theorem ip_add : PIp X .Add (ipI fun i j => i + j) := by
  intro pins s σ H x y v u Q I r1 r2 h
  obtain ⟨i, j, e1, e2, q⟩ := h
  subst e1; subst e2
  obtain ⟨t, rfl⟩ := r1
  obtain ⟨t', rfl⟩ := r2
  exact iadd_int ⟨.int _, H, I.tok _, ⟨_, rfl⟩, q⟩
end

/-! ### while -/
section
variable {X : Cx} {pos : Pos}
end

/-! ### what a loop or a comprehension walks -/
/-- at turn i: it yields x (the heap may grow), or it stops -/
structure It where
  go : Nat → Hp → Prop
  yld : Nat → Hp → V → Hp → Prop
  stop : Nat → Hp → Prop
/-- the iterator's own objects may turn: they are not the frame's, not pinned, younger than the entry (or a comprehension's own) -/
def FpOk (X : Cx) (pins : List (Addr × Obj)) (H : Hp) (b : Addr) : Prop :=
  H b = none ∧ b ≠ X.env.locals ∧ b ∉ X.fs ∧ (b ∈ X.ex ∨ X.s_0.heap.objs.size ≤ b) ∧ (∀ x c, X.env.cells.lookup x = some c → c ≠ b) ∧ ∀ p ∈ X.pn ++ pins, p.1 ≠ b
theorem Inv.fpOk {X : Cx} {pins : List (Addr × Obj)} {σ : St} {H H' : Hp} {s : Shared} {b : Addr} (I : Inv X pins σ H s) (hb : s.heap.objs.size ≤ b) (hn : H' b = none) : FpOk X pins H' b := by
  refine ⟨hn, Nat.ne_of_gt (Nat.lt_of_lt_of_le I.lt hb), I.nofs hb, .inr (Nat.le_trans I.sz hb), fun x c e z => ?_, fun p hp z => ?_⟩
  · obtain ⟨v, q⟩ := I.cell x c e
    exact absurd (Nat.lt_of_lt_of_le q.lt (by rw [z]; exact hb)) (Nat.lt_irrefl _)
  · exact absurd (Nat.lt_of_lt_of_le (Heap.lt_size (I.pin p hp).1) (by rw [z]; exact hb)) (Nat.lt_irrefl _)
structure Turn (P : Program) (w : World) (K : PySem.W.Frag) (tg : Expr) (J : It) (fp : List Addr) (it : Addr) (tn : Nat → Heap → Prop) : Prop where
  mem : it ∈ fp
  obj : ∀ i h, tn i h → ∀ b ∈ fp, ∃ o, h.get? b = some o ∧ ∀ v, o.data ≠ .cell v
  keep : ∀ i h h', tn i h → (∀ b ∈ fp, ∀ o, h.get? b = some o → h'.get? b = some o) → tn i h'
  item : ∀ (X : Cx), X.prog = P → X.w = w → X.K = K → X.calm = true → ∀ (i : Nat) (pins : List (Addr × Obj)) (s : Shared) (σ : St) (H : Hp) (E : Value → Shared → Prop), Inv X pins σ H s → (∀ b ∈ fp, FpOk X pins H b) → tn i s.heap → J.go i H →
    wpAny (model P w) X.A (pyNext (.ref it)) (fun r s1 => ∃ u, r = some u ∧
      wpAny (model P w) X.A (letOwnedTupleGo tg (.ref it) u) (fun _ s2 => ∃ x H', Inv X pins σ H' s2 ∧ RelV x u ∧ J.yld i H x H' ∧ tn (i + 1) s2.heap ∧ ∀ b ∈ fp, H' b = none) E s1) E s
  done : ∀ (X : Cx), X.prog = P → X.w = w → X.K = K → X.calm = true → ∀ (i : Nat) (pins : List (Addr × Obj)) (s : Shared) (σ : St) (H : Hp) (E : Value → Shared → Prop), Inv X pins σ H s → (∀ b ∈ fp, FpOk X pins H b) → tn i s.heap → J.stop i H →
    wpAny (model P w) X.A (pyNext (.ref it)) (fun r s1 => r = none ∧ Inv X pins σ H s1) E s
  self : ∀ (A : Around) (i : Nat) (s : Shared) (Q : Value → Shared → Prop) (E : Value → Shared → Prop), tn i s.heap → Q (.ref it) s → wpAny (model P w) A (pyIter (.ref it)) Q E s
abbrev TI := St → Hp → (It → Hp → Prop) → Prop
/-- an iterator has come -/
def PIE (X : Cx) (pins : List (Addr × Obj)) (σ : St) (tg : Expr) (R : It → Hp → Prop) (itv : Value) (s2 : Shared) : Prop :=
  ∃ (it : Addr) (fp : List Addr) (tn : Nat → Heap → Prop) (J : It) (H' : Hp), itv = .ref it ∧ Inv X pins σ H' s2 ∧ Turn X.prog X.w X.K tg J fp it tn ∧ tn 0 s2.heap ∧ (∀ b ∈ fp, FpOk X pins H' b) ∧ R J H'
def PI (X : Cx) (tg iter : Expr) (wi : TI) : Prop :=
  ∀ (pins : List (Addr × Obj)) (s : Shared) (σ : St) (H : Hp) (R : It → Hp → Prop), Inv X pins σ H s → wi σ H R →
    wpAny (model X.prog X.w) X.A (eval iter X.env) (fun v s1 => wpAny (model X.prog X.w) X.A (pyIter v) (PIE X pins σ tg R) X.xe s1) X.xe s

/-- the step ahead of the store is nothing for an iterator that keeps no tuple -/
theorem go_of {M : Model} {A : Around} {E : Value → Shared → Prop} {s : Shared} {tg : Expr} {it : Addr} {u : Value} {o : Obj} {n : String} {vs : Array Value} {Q : Unit → Shared → Prop} (ho : s.heap.get? it = some o) (hc : o.cls = .type n) (hd : o.data = .fields vs)
    (hn : ["enumerate", "zip", "dict_itemiterator", "dict_reverseitemiterator", "odict_iterator", "itertools.zip_longest", "itertools.pairwise"].contains n = false) (hQ : Q () s) : wpAny M A (letOwnedTupleGo tg (.ref it) u) Q E s := by
  unfold letOwnedTupleGo
  cases tg <;> first
    | exact wpAny_pure hQ
    | (cases u <;> first
        | exact wpAny_pure hQ
        | (refine wpAny_bind (wpAny_load ho ?_)
           rw [hc, hd]
           show wpAny M A (if (["enumerate", "zip", "dict_itemiterator", "dict_reverseitemiterator", "odict_iterator", "itertools.zip_longest", "itertools.pairwise"].contains n && vs[0]? == some (rawInt _)) = true then _ else _) Q E s
           rw [if_neg (by intro h; rw [hn, Bool.false_and] at h; cases h)]
           exact wpAny_pure hQ))

/-- the list at a, as it stands at each turn (a loop may append to it) -/
def Itl (K : PySem.W.Frag) (a : Addr) : It :=
  ⟨fun i H => ∃ xs x, SqL K H a xs ∧ xs[i]? = some x, fun i H x H' => H' = H ∧ ∀ xs, SqL K H a xs → xs[i]? = some x, fun i H => ∃ xs, SqL K H a xs ∧ xs.length ≤ i⟩
def Itt (K : PySem.W.Frag) (a : Addr) : It :=
  ⟨fun i H => ∃ xs x, SqT K H a xs ∧ xs[i]? = some x, fun i H x H' => H' = H ∧ ∀ xs, SqT K H a xs → xs[i]? = some x, fun i H => ∃ xs, SqT K H a xs ∧ xs.length ≤ i⟩
/-- lo, lo + 1, .. (n of them) -/
def Itr (lo : Int) (n : Nat) : It := ⟨fun i _ => i < n, fun i H x H' => H' = H ∧ x = .int (lo + i), fun i _ => n ≤ i⟩
theorem turn_list {P : Program} {w : World} {K : PySem.W.Frag} {tg : Expr} (a it : Addr) : Turn P w K tg (Itl K a) [it] it (fun i h => h.IsListIter it a i) where
  mem := by simp
  obj := fun i h st b hb => by
    have e : b = it := by simpa using hb
    subst e
    obtain ⟨o, e, c, d⟩ := st
    exact ⟨o, e, fun v z => by rw [d] at z; cases z⟩
  keep := fun i h h' st k => st.at fun o e => k it (by simp) o e
  item := by
    intro X hP hw hK hc i pins s σ H E I hf st hg
    subst hP hw hK
    obtain ⟨xs, x, hq, hx⟩ := hg
    obtain ⟨its, rv, p, hz⟩ := I.list hq
    obtain ⟨u, hu, ru⟩ := rv.get hx
    obtain ⟨f0, f1, f2, f3, f4, f5⟩ := hf it (by simp)
    refine wpAny_pyNext_list_item st p.isList (x := u) (by simpa using hu) fun h' st' sb => ?_
    have I1 : Inv X pins σ H { s with heap := h' } := I.turned (t' := s.toks) (fun b o hb e => (sb.2 b hb).trans e) f0 f1 f3 f4 f5
    obtain ⟨o, e, c, d⟩ := id st'
    exact ⟨u, rfl, go_of (s := { s with heap := h' }) e c d (by decide) ⟨x, H, I1, ru, ⟨rfl, fun ys hy => by rw [I.list_inj hy hq]; exact hx⟩, st', fun b hb => (hf b hb).1⟩⟩
  done := by
    intro X hP hw hK hc i pins s σ H E I hf st hg
    subst hP hw hK
    obtain ⟨xs, hq, hx⟩ := hg
    obtain ⟨its, rv, p, hz⟩ := I.list hq
    obtain ⟨f0, f1, f2, f3, f4, f5⟩ := hf it (by simp)
    have hl := rv.length
    exact wpAny_pyNext_list_end (I.ok.hd hc) st p.isList (by simp; omega) fun h' eb => ⟨rfl, I.turned (t' := s.toks) (fun b o hb e => eb b o hb e) f0 f1 f3 f4 f5⟩
  self := fun _ _ _ _ _ st h => wpAny_pyIter_listiter st h
theorem turn_tuple {P : Program} {w : World} {K : PySem.W.Frag} {tg : Expr} (a it : Addr) : Turn P w K tg (Itt K a) [it] it (fun i h => h.IsTupleIter it a i) where
  mem := by simp
  obj := fun i h st b hb => by
    have e : b = it := by simpa using hb
    subst e
    obtain ⟨o, e, c, d⟩ := st
    exact ⟨o, e, fun v z => by rw [d] at z; cases z⟩
  keep := fun i h h' st k => st.at fun o e => k it (by simp) o e
  item := by
    intro X hP hw hK hc i pins s σ H E I hf st hg
    subst hP hw hK
    obtain ⟨xs, x, hq, hx⟩ := hg
    obtain ⟨its, rv, p, hz⟩ := I.tuple hq
    obtain ⟨u, hu, ru⟩ := rv.get hx
    obtain ⟨f0, f1, f2, f3, f4, f5⟩ := hf it (by simp)
    refine wpAny_pyNext_tuple_item st (show s.heap.IsTuple a its.toArray from p) (x := u) (by simpa using hu) fun h' st' sb => ?_
    have I1 : Inv X pins σ H { s with heap := h' } := I.turned (t' := s.toks) (fun b o hb e => (sb.2 b hb).trans e) f0 f1 f3 f4 f5
    obtain ⟨o, e, c, d⟩ := id st'
    exact ⟨u, rfl, go_of (s := { s with heap := h' }) e c d (by decide) ⟨x, H, I1, ru, ⟨rfl, fun ys hy => by rw [I.tuple_inj hy hq]; exact hx⟩, st', fun b hb => (hf b hb).1⟩⟩
  done := by
    intro X hP hw hK hc i pins s σ H E I hf st hg
    subst hP hw hK
    obtain ⟨xs, hq, hx⟩ := hg
    obtain ⟨its, rv, p, hz⟩ := I.tuple hq
    obtain ⟨f0, f1, f2, f3, f4, f5⟩ := hf it (by simp)
    have hl := rv.length
    exact wpAny_pyNext_tuple_end (I.ok.hd hc) st (show s.heap.IsTuple a its.toArray from p) (by simp; omega) fun h' eb => ⟨rfl, I.turned (t' := s.toks) (fun b o hb e => eb b o hb e) f0 f1 f3 f4 f5⟩
  self := fun _ _ _ _ _ st h => wpAny_pyIter_tupleiter st h
theorem turn_range {P : Program} {w : World} {K : PySem.W.Frag} {tg : Expr} (it : Addr) (lo : Int) (n : Nat) : Turn P w K tg (Itr lo n) [it] it (fun i h => IsRangeIter h it (lo + (i : Nat) * 1) ((n : Int) - (i : Nat)) 1) where
  mem := by simp
  obj := fun i h st b hb => by
    have e : b = it := by simpa using hb
    subst e
    exact ⟨_, st, fun v z => by
      have z' : Data.fields _ = Data.cell v := z
      cases z'⟩
  keep := fun i h h' st k => k it (by simp) _ st
  item := by
    intro X hP hw hK hc i pins s σ H E I hf st hg
    subst hP hw hK
    obtain ⟨f0, f1, f2, f3, f4, f5⟩ := hf it (by simp)
    have W := Walks.range (prog := X.prog) (w := X.w) (I.ok.hd hc) it lo 1 n
    refine W.item i s _ _ hg st fun v h' tk hv st' kk => ?_
    obtain ⟨t, rfl⟩ := hv
    have I1 : Inv X pins σ H { s with heap := h', toks := tk } := I.turned (fun b o hb e => kk b o (by simpa using hb) e) f0 f1 f3 f4 f5
    refine ⟨_, rfl, go_of (s := { s with heap := h', toks := tk }) (n := "range_iterator") st' rfl rfl (by decide) ⟨.int (lo + i), H, I1, ⟨t, ?_⟩, ⟨rfl, rfl⟩, st', fun b hb => (hf b hb).1⟩⟩
    rw [Int.mul_one]
  done := by
    intro X hP hw hK hc i pins s σ H E I hf st hg
    subst hP hw hK
    obtain ⟨f0, f1, f2, f3, f4, f5⟩ := hf it (by simp)
    exact wpAny_pyNext_range_end (I.ok.hd hc) st (by have : n ≤ i := hg; omega) fun h' eb => ⟨rfl, I.turned (t' := s.toks) (fun b o hb e => eb b o hb e) f0 f1 f3 f4 f5⟩
  self := fun _ _ _ _ _ st h => wpAny_pyIter_rangeiter st h
end L2

namespace L2
open PySem PySem.Spec PyProof.Rows
section
variable {X : Cx} {tg : Expr}
def iList (K : PySem.W.Frag) (tl : TE) : TI := fun σ H R => tl σ H fun x H1 => ∃ a, x = .ref a ∧ (∃ xs, SqL K H1 a xs) ∧ R (Itl K a) H1
def iTup (K : PySem.W.Frag) (tl : TE) : TI := fun σ H R => tl σ H fun x H1 => ∃ a, x = .ref a ∧ (∃ xs, SqT K H1 a xs) ∧ R (Itt K a) H1
theorem pi_list {l : Expr} {tl : TE} (hl : PE X l tl) : PI X tg l (iList X.K tl) := by
  intro pins s σ H R I h
  refine thn (hl pins s σ H _ I h) fun v s1 ⟨x, H1, I1, r1, q1⟩ => ?_
  obtain ⟨a, e, ⟨xs, hq⟩, q⟩ := q1
  subst e
  cases r1
  obtain ⟨its, rv, p, hz⟩ := I1.list hq
  refine wpAny_pyIter_list p.isList ?_
  refine ⟨s1.heap.objs.size, [s1.heap.objs.size], _, _, H1, rfl, I1.kept (t' := s1.toks) fun b o e => Heap.get?_push_of_some _ e, turn_list a _, ⟨_, Heap.get?_push_size _ rfl, rfl, rfl⟩, fun b hb => ?_, q⟩
  have e : b = s1.heap.objs.size := by simpa using hb
  subst e
  exact I1.fpOk (Nat.le_refl _) (I1.hok.fresh (Nat.le_refl _))
theorem pi_tup {l : Expr} {tl : TE} (hl : PE X l tl) : PI X tg l (iTup X.K tl) := by
  intro pins s σ H R I h
  refine thn (hl pins s σ H _ I h) fun v s1 ⟨x, H1, I1, r1, q1⟩ => ?_
  obtain ⟨a, e, ⟨xs, hq⟩, q⟩ := q1
  subst e
  cases r1
  obtain ⟨its, rv, p, hz⟩ := I1.tuple hq
  refine wpAny_pyIter_tuple (show s1.heap.IsTuple a its.toArray from p) ?_
  refine ⟨s1.heap.objs.size, [s1.heap.objs.size], _, _, H1, rfl, I1.kept (t' := s1.toks) fun b o e => Heap.get?_push_of_some _ e, turn_tuple a _, ⟨_, Heap.get?_push_size _ rfl, rfl, rfl⟩, fun b hb => ?_, q⟩
  have e : b = s1.heap.objs.size := by simpa using hb
  subst e
  exact I1.fpOk (Nat.le_refl _) (I1.hok.fresh (Nat.le_refl _))
/-- a range object just made, walked -/
theorem range_it {pins : List (Addr × Obj)} {σ : St} {H : Hp} {s : Shared} {R : It → Hp → Prop} {E : Value → Shared → Prop} {lo hi : Int} {t u v : Tok} {tk : Nat} (I : Inv X pins σ H s) (h1 : -(2 ^ 62) ≤ lo) (h2 : lo < 2 ^ 62) (h3 : -(2 ^ 62) ≤ hi) (h4 : hi < 2 ^ 62)
    (q : R (Itr lo (hi - lo).toNat) H) : wpAny (model X.prog X.w) X.A (pyIter (.ref s.heap.objs.size)) (PIE X pins σ tg R) E { s with heap := s.heap.push { cls := .type "range", data := .fields #[.int lo t, .int hi u, .int 1 v] }, toks := tk } := by
  refine wpAny_pyIter_range (IsRange.new ..) (small_one h1 h2 h3 h4) ?_
  have I1 : Inv X pins σ H { s with heap := s.heap.push { cls := .type "range", data := .fields #[.int lo t, .int hi u, .int 1 v] }, toks := tk } := I.kept fun b o e => Heap.get?_push_of_some _ e
  refine ⟨(s.heap.push { cls := .type "range", data := .fields #[.int lo t, .int hi u, .int 1 v] }).objs.size, [(s.heap.push { cls := .type "range", data := .fields #[.int lo t, .int hi u, .int 1 v] }).objs.size], _, _, H, rfl,
    I1.kept (t' := tk) fun b o e => Heap.get?_push_of_some _ e, turn_range _ lo (hi - lo).toNat, ?_, fun b hb => ?_, q⟩
  · have e1 : lo + ((0 : Nat) : Int) * 1 = lo := by simp
    have e2 : (((hi - lo).toNat : Nat) : Int) - ((0 : Nat) : Int) = Builtin.Range.rangeSize lo hi 1 := by rw [rangeSize_one]; split <;> omega
    show IsRangeIter _ _ (lo + ((0 : Nat) : Int) * 1) ((((hi - lo).toNat : Nat) : Int) - ((0 : Nat) : Int)) 1
    rw [e1, e2]
    exact Heap.get?_push_size _ rfl
  · have e : b = (s.heap.push { cls := .type "range", data := .fields #[.int lo t, .int hi u, .int 1 v] }).objs.size := by simpa using hb
    subst e
    exact I1.fpOk (Nat.le_refl _) (I1.hok.fresh (Nat.le_refl _))
def iRng1 (ta : TA) : TI := fun σ H R => ta σ H fun vs H1 => ∃ j : Int, vs = [.int j] ∧ -(2 ^ 62) ≤ j ∧ j < 2 ^ 62 ∧ R (Itr 0 j.toNat) H1
theorem pi_range1 {a : Expr} {ta : TA} {p pos : Pos} (hg : Gl X "range") (hm : X.mg "range" = none) (ha : PA X [a] ta) (hs : starEach [a] X.env = [(false, eval a X.env)] := by rfl) : PI X tg (.Call (.Name "range" p) [a] [] pos) (iRng1 ta) := by
  intro pins s σ H R I h
  refine Call_ (ld_blt I hg hm boot_range (PyProof.Rows.callWith_type1 (thn (ha pos pins s σ H _ I h) fun us s1 ⟨vs, H1, I1, r1, q1⟩ => ?_) hs rfl))
  obtain ⟨j, e, q1, q2, q⟩ := q1
  subst e
  cases r1 with
  | cons r rr =>
    cases rr
    obtain ⟨t, rfl⟩ := r
    exact call_range_1 (range_it I1 (by omega) (by omega) q1 q2 (by simpa using q))
/-! ### for -/
/-- W: the invariant by the turn and a measure; N: what the body is to reach -/
def tFor (wi : TI) (g : TG) (tb : TS) : TS := fun D σ H => wi σ H fun J H1 => ∃ W : Nat → Nat → St → Hp → Prop, (∃ m, W 0 m σ H1) ∧ ∀ i m σ H, W i m σ H →
  (J.stop i H ∧ D.nx σ H) ∨ (J.go i H ∧ ∃ N : St → Hp → Prop, (∀ σ' H', N σ' H' → ∃ m', m' < m ∧ W (i + 1) m' σ' H') ∧ ∀ x H', J.yld i H x H' → g x σ H' fun σ2 H2 => tb { D with nx := N, ct := N, bk := D.nx } σ2 H2)
/-- the records at fp as they stand -/
def pinsAt (fp : List Addr) (h : Heap) : List (Addr × Obj) := fp.filterMap fun b => (h.get? b).map fun o => (b, o)
theorem mem_pinsAt {fp : List Addr} {h : Heap} {b : Addr} {o : Obj} (hb : b ∈ fp) (e : h.get? b = some o) : (b, o) ∈ pinsAt fp h := List.mem_filterMap.mpr ⟨b, hb, by rw [e]; rfl⟩
theorem of_pinsAt {fp : List Addr} {h : Heap} {p : Addr × Obj} (hp : p ∈ pinsAt fp h) : p.1 ∈ fp ∧ h.get? p.1 = some p.2 := by
  obtain ⟨b, hb, e⟩ := List.mem_filterMap.mp hp
  cases q : h.get? b with
  | none => rw [q] at e; cases e
  | some o =>
    rw [q] at e
    have e' : (b, o) = p := Option.some.inj e
    subst e'
    exact ⟨hb, q⟩
theorem Inv.pinned {pins : List (Addr × Obj)} {σ : St} {H : Hp} {s : Shared} {fp : List Addr} (I : Inv X pins σ H s) (hf : ∀ b ∈ fp, FpOk X pins H b) (ho : ∀ b ∈ fp, ∃ o, s.heap.get? b = some o ∧ ∀ v, o.data ≠ .cell v) : Inv X (pins ++ pinsAt fp s.heap) σ H s :=
  I.pins_of fun p hp => (List.mem_append.mp hp).elim (fun z => I.pin p (List.mem_append_right _ z)) fun z => by
    obtain ⟨hb, e⟩ := of_pinsAt z
    obtain ⟨f0, f1, f2, _⟩ := hf p.1 hb
    obtain ⟨o, e', d⟩ := ho p.1 hb
    rw [e] at e'; cases e'
    exact ⟨e, f0, f1, f2, d⟩
theorem Inv.unpinned {pins pl : List (Addr × Obj)} {σ : St} {H : Hp} {s : Shared} (I : Inv X (pins ++ pl) σ H s) : Inv X pins σ H s := I.pins_of fun p hp => I.pin p (List.mem_append_right _ (List.mem_append_left _ hp))
theorem ps_for {iter : Expr} {body : List Stmt} {wi : TI} {g : TG} {tb : TS} {pos : Pos} (hp : PassesOwn (model X.prog X.w) X.A X.env X.xe) (hc : X.calm = true) (hi : PI X tg iter wi) (hg : PG X tg g) (hb : PSs X body tb)
    (hs : ∀ x, foldedSetIterable iter X.env x = pure x := by intro _; rfl) : PS X (.For tg iter body [] pos) (tFor wi g tb) := by
  intro pins s σ H D I h
  refine wpAny_For (thn (hi pins s σ H _ I h) fun v s1 h1 => thn h1 fun itv s2 h2 => ?_) hs
  obtain ⟨it, fp, tn, J, H2, e, I2, T, st2, f2, W, ⟨m0, w0⟩, turn⟩ := h2
  subst e
  -- what stays true of the iterator's objects through the loop
  have stat : ∀ {H' : Hp}, (∀ b ∈ fp, H' b = none) → ∀ b ∈ fp, FpOk X pins H' b := fun hn b hb => ⟨hn b hb, (f2 b hb).2⟩
  refine codeAny_forLoop_any (fun n s' => ∃ i σ' H', Inv X pins σ' H' s' ∧ tn i s'.heap ∧ (∀ b ∈ fp, H' b = none) ∧ W i n σ' H') ?_ m0 ⟨0, σ, H2, I2, st2, fun b hb => (f2 b hb).1, w0⟩
  rintro n s3 ⟨i, σ3, H3, I3, st3, fr3, w3⟩
  rcases turn i n σ3 H3 w3 with ⟨stop, qn⟩ | ⟨go, N, hN, step⟩
  · refine wpAny_passesOwn hp (thn (T.done X rfl rfl rfl hc i pins s3 σ3 H3 X.xe I3 (stat fr3) st3 stop) fun r s4 ⟨hr, I4⟩ => ?_)
    subst hr
    exact wpAny_execs_nil ⟨σ3, H3, I4, qn⟩
  · refine wpAny_passesOwn hp (thn (T.item X rfl rfl rfl hc i pins s3 σ3 H3 X.xe I3 (stat fr3) st3 go) fun r s4 ⟨u, hr, h4⟩ => ?_)
    subst hr
    refine wpAny_passesOwn hp (thn h4 fun _ s5 ⟨x, H5, I5, r5, y5, st5, fr5⟩ => ?_)
    have I5' := I5.pinned (stat fr5) (T.obj _ _ st5)
    refine wpAny_passesOwn hp (thn (hg _ s5 σ3 H5 x u _ I5' r5 (step x H5 y5)) fun _ s6 ⟨σ6, H6, I6, q6⟩ => ?_)
    refine wpAny_passesOwn hp (thn (hb _ s6 σ6 H6 _ I6 q6) fun f s7 q7 => ?_)
    have again : ∀ {σ7 : St} {H7 : Hp}, Inv X (pins ++ pinsAt fp s5.heap) σ7 H7 s7 → N σ7 H7 → ∃ m, m < n ∧ ∃ i σ' H', Inv X pins σ' H' s7 ∧ tn i s7.heap ∧ (∀ b ∈ fp, H' b = none) ∧ W i m σ' H' := fun {σ7 H7} I7 n7 => by
      obtain ⟨m', hm, w7⟩ := hN σ7 H7 n7
      refine ⟨m', hm, i + 1, σ7, H7, I7.unpinned, T.keep _ _ _ st5 fun b hb o e => (I7.pin (b, o) (List.mem_append_right _ (List.mem_append_right _ (mem_pinsAt hb e)))).1, fun b hb => ?_, w7⟩
      obtain ⟨o, e, d⟩ := T.obj _ _ st5 b hb
      exact (I7.pin (b, o) (List.mem_append_right _ (List.mem_append_right _ (mem_pinsAt hb e)))).2.1
    cases f with
    | next => obtain ⟨σ7, H7, I7, n7⟩ := q7; exact again I7 n7
    | cont => obtain ⟨σ7, H7, I7, n7⟩ := q7; exact again I7 n7
    | brk => obtain ⟨σ7, H7, I7, q7⟩ := q7; exact ⟨σ7, H7, I7.unpinned, q7⟩
    | ret v => obtain ⟨x7, σ7, H7, I7, r7, q7⟩ := q7; exact ⟨x7, σ7, H7, I7.unpinned, r7, q7⟩
end

/-! ### the forms one uses -/
/-- over a list that the body leaves as it is -/
theorem for_list {K : PySem.W.Frag} {a : Addr} {xs : List V} {g : TG} {tb : TS} {D : Ends} {σ : St} {H : Hp} (Pv : Nat → St → Hp → Prop) (h0 : Pv 0 σ H) (hl : ∀ i σ H, i ≤ xs.length → Pv i σ H → SqL K H a xs)
    (hs : ∀ i x σ H, xs[i]? = some x → Pv i σ H → g x σ H fun σ2 H2 => tb { D with nx := Pv (i + 1), ct := Pv (i + 1), bk := D.nx } σ2 H2) (hd : ∀ σ H, Pv xs.length σ H → D.nx σ H) :
    ∃ W : Nat → Nat → St → Hp → Prop, (∃ m, W 0 m σ H) ∧ ∀ i m σ H, W i m σ H →
      ((Itl K a).stop i H ∧ D.nx σ H) ∨ ((Itl K a).go i H ∧ ∃ N : St → Hp → Prop, (∀ σ' H', N σ' H' → ∃ m', m' < m ∧ W (i + 1) m' σ' H') ∧ ∀ x H', (Itl K a).yld i H x H' → g x σ H' fun σ2 H2 => tb { D with nx := N, ct := N, bk := D.nx } σ2 H2) := by
  refine ⟨fun i m σ H => m = xs.length - i ∧ i ≤ xs.length ∧ Pv i σ H, ⟨xs.length, by simp, Nat.zero_le _, h0⟩, ?_⟩
  rintro i m σ H ⟨rfl, hi, p⟩
  have q := hl i σ H hi p
  by_cases hlt : i < xs.length
  · refine .inr ⟨⟨xs, xs[i], q, by simp [hlt]⟩, Pv (i + 1), fun σ' H' p' => ⟨xs.length - (i + 1), by omega, rfl, hlt, p'⟩, fun x H' y => ?_⟩
    obtain ⟨e, y⟩ := y
    subst e
    exact hs i x σ _ (y xs q) p
  · have e : i = xs.length := by omega
    subst e
    exact .inl ⟨⟨xs, q, Nat.le_refl _⟩, hd σ H p⟩
theorem for_tup {K : PySem.W.Frag} {a : Addr} {xs : List V} {g : TG} {tb : TS} {D : Ends} {σ : St} {H : Hp} (Pv : Nat → St → Hp → Prop) (h0 : Pv 0 σ H) (hl : ∀ i σ H, i ≤ xs.length → Pv i σ H → SqT K H a xs)
    (hs : ∀ i x σ H, xs[i]? = some x → Pv i σ H → g x σ H fun σ2 H2 => tb { D with nx := Pv (i + 1), ct := Pv (i + 1), bk := D.nx } σ2 H2) (hd : ∀ σ H, Pv xs.length σ H → D.nx σ H) :
    ∃ W : Nat → Nat → St → Hp → Prop, (∃ m, W 0 m σ H) ∧ ∀ i m σ H, W i m σ H →
      ((Itt K a).stop i H ∧ D.nx σ H) ∨ ((Itt K a).go i H ∧ ∃ N : St → Hp → Prop, (∀ σ' H', N σ' H' → ∃ m', m' < m ∧ W (i + 1) m' σ' H') ∧ ∀ x H', (Itt K a).yld i H x H' → g x σ H' fun σ2 H2 => tb { D with nx := N, ct := N, bk := D.nx } σ2 H2) := by
  refine ⟨fun i m σ H => m = xs.length - i ∧ i ≤ xs.length ∧ Pv i σ H, ⟨xs.length, by simp, Nat.zero_le _, h0⟩, ?_⟩
  rintro i m σ H ⟨rfl, hi, p⟩
  have q := hl i σ H hi p
  by_cases hlt : i < xs.length
  · refine .inr ⟨⟨xs, xs[i], q, by simp [hlt]⟩, Pv (i + 1), fun σ' H' p' => ⟨xs.length - (i + 1), by omega, rfl, hlt, p'⟩, fun x H' y => ?_⟩
    obtain ⟨e, y⟩ := y
    subst e
    exact hs i x σ _ (y xs q) p
  · have e : i = xs.length := by omega
    subst e
    exact .inl ⟨⟨xs, q, Nat.le_refl _⟩, hd σ H p⟩
theorem for_range {lo : Int} {n : Nat} {g : TG} {tb : TS} {D : Ends} {σ : St} {H : Hp} (Pv : Nat → St → Hp → Prop) (h0 : Pv 0 σ H)
    (hs : ∀ i σ H, i < n → Pv i σ H → g (.int (lo + i)) σ H fun σ2 H2 => tb { D with nx := Pv (i + 1), ct := Pv (i + 1), bk := D.nx } σ2 H2) (hd : ∀ σ H, Pv n σ H → D.nx σ H) :
    ∃ W : Nat → Nat → St → Hp → Prop, (∃ m, W 0 m σ H) ∧ ∀ i m σ H, W i m σ H →
      ((Itr lo n).stop i H ∧ D.nx σ H) ∨ ((Itr lo n).go i H ∧ ∃ N : St → Hp → Prop, (∀ σ' H', N σ' H' → ∃ m', m' < m ∧ W (i + 1) m' σ' H') ∧ ∀ x H', (Itr lo n).yld i H x H' → g x σ H' fun σ2 H2 => tb { D with nx := N, ct := N, bk := D.nx } σ2 H2) := by
  refine ⟨fun i m σ H => m = n - i ∧ i ≤ n ∧ Pv i σ H, ⟨n, by simp, Nat.zero_le _, h0⟩, ?_⟩
  rintro i m σ H ⟨rfl, hi, p⟩
  by_cases hlt : i < n
  · refine .inr ⟨hlt, Pv (i + 1), fun σ' H' p' => ⟨n - (i + 1), by omega, rfl, hlt, p'⟩, fun x H' y => ?_⟩
    obtain ⟨e, y⟩ := y
    subst e y
    exact hs i σ _ hlt p
  · have e : i = n := by omega
    subst e
    exact .inl ⟨Nat.le_refl _, hd σ H p⟩
end L2

namespace L2
open PySem PySem.Spec PyProof.Rows

abbrev R2 := V → V → Hp → VK → Prop
/-- a two-place operation on values: f is binaryOp op, inplaceOp op or compareOp op -/
def OpR (X : Cx) (f : Value → Value → Sem Value) (r : R2) : Prop :=
  ∀ (pins : List (Addr × Obj)) (s : Shared) (σ : St) (H : Hp) (x y : V) (v u : Value) (Q : VK), Inv X pins σ H s → RelV x v → RelV y u → r x y H Q →
    wpAny (model X.prog X.w) X.A (f v u) (EP X pins σ Q) X.xe s
/-- a one-place operation -/
def UnR (X : Cx) (f : Value → Sem Value) (r : V → Hp → VK → Prop) : Prop :=
  ∀ (pins : List (Addr × Obj)) (s : Shared) (σ : St) (H : Hp) (x : V) (v : Value) (Q : VK), Inv X pins σ H s → RelV x v → r x H Q →
    wpAny (model X.prog X.w) X.A (f v) (EP X pins σ Q) X.xe s
/-- a call of a value that is known (a builtin, a type) with values -/
def CallR (X : Cx) (f : Value) (r : List V → Hp → VK → Prop) : Prop :=
  ∀ (pins : List (Addr × Obj)) (s : Shared) (σ : St) (H : Hp) (xs : List V) (us : List Value) (Q : VK), Inv X pins σ H s → Vals xs us → r xs H Q →
    wpAny (model X.prog X.w) X.A (call f us) (EP X pins σ Q) X.xe s
/-- a value's truth -/
def TruR (X : Cx) (r : V → Hp → (Bool → Hp → Prop) → Prop) : Prop :=
  ∀ (pins : List (Addr × Obj)) (s : Shared) (σ : St) (H : Hp) (x : V) (v : Value) (Q : Bool → Hp → Prop), Inv X pins σ H s → RelV x v → r x H Q →
    wpAny (model X.prog X.w) X.A (truthy v) (TP X pins σ Q) X.xe s

def tOp (r : R2) (ta tb : TE) : TE := fun σ H Q => ta σ H fun x H1 => tb σ H1 fun y H2 => r x y H2 Q
def tUn (r : V → Hp → VK → Prop) (ta : TE) : TE := fun σ H Q => ta σ H fun x H1 => r x H1 Q
/-- ints in, under C, and a value out -/
def rI (C : Int → Int → Prop) (g : Int → Int → V) : R2 := fun x y H Q => ∃ i j, x = .int i ∧ y = .int j ∧ C i j ∧ Q (g i j) H
def rI0 (g : Int → Int → V) : R2 := fun x y H Q => ∃ i j, x = .int i ∧ y = .int j ∧ Q (g i j) H
def rU (g : Int → V) : V → Hp → VK → Prop := fun x H Q => ∃ i, x = .int i ∧ Q (g i) H

section
variable {X : Cx} {a b c : Expr} {ta tb tc : TE} {pos : Pos}

theorem binT (ha : PE X a ta) (hb : PE X b tb) {pins : List (Addr × Obj)} {s : Shared} {σ : St} {H : Hp} {R : V → V → Hp → Prop} (I : Inv X pins σ H s)
    (h : ta σ H fun x H1 => tb σ H1 fun y H2 => R x y H2) {Q : Value → Shared → Prop} {f : Value → Value → Sem Value}
    (hf : ∀ v u s2 x y H2, Inv X pins σ H2 s2 → RelV x v → RelV y u → R x y H2 → wpAny (model X.prog X.w) X.A (f v u) Q X.xe s2) :
    wpAny (model X.prog X.w) X.A (eval a X.env) (fun v s₁ => wpAny (model X.prog X.w) X.A (eval b X.env) (fun u s₂ => wpAny (model X.prog X.w) X.A (f v u) Q X.xe s₂) X.xe s₁) X.xe s := by
  refine thn (ha pins s σ H _ I h) fun v s1 ⟨x, H1, I1, r1, q1⟩ => ?_
  refine thn (hb pins s1 σ H1 _ I1 q1) fun u s2 ⟨y, H2, I2, r2, q2⟩ => ?_
  exact hf v u s2 x y H2 I2 r1 r2 q2

theorem pe_op {op : Operator} {r : R2} (ho : OpR X (binaryOp op) r) (ha : PE X a ta) (hb : PE X b tb) : PE X (.BinOp a op b pos) (tOp r ta tb) := by
  intro pins s σ H Q I h
  exact wpAny_BinOp (binT ha hb I h fun v u s2 x y H2 I2 rx ry q => ho pins s2 σ H2 x y v u Q I2 rx ry q)
theorem pe_un {op : UnaryOp} {r : V → Hp → VK → Prop} (ho : UnR X (unaryOp op) r) (ha : PE X a ta) : PE X (.UnaryOp op a pos) (tUn r ta) := by
  intro pins s σ H Q I h
  exact UnaryOp_ (thn (ha pins s σ H _ I h) fun v s1 ⟨x, H1, I1, r1, q1⟩ => ho pins s1 σ H1 x v Q I1 r1 q1)
/-! ### ints -/
theorem opI {f : Value → Value → Sem Value} {C : Int → Int → Prop} {g : Int → Int → Int}
    (rule : ∀ (i j : Int) (t u : Tok) (s : Shared) (Q : Value → Shared → Prop) (E : Value → Shared → Prop), C i j → Q (.int (g i j) s.toks) { s with toks := s.toks + 1 } → wpAny (model X.prog X.w) X.A (f (.int i t) (.int j u)) Q E s) :
    OpR X f (rI C fun i j => .int (g i j)) := by
  intro pins s σ H x y v u Q I rx ry h
  obtain ⟨i, j, rfl, rfl, hc, q⟩ := h
  obtain ⟨t, rfl⟩ := rx
  obtain ⟨t', rfl⟩ := ry
  exact rule i j t t' s _ _ hc ⟨.int (g i j), H, I.tok _, ⟨_, rfl⟩, q⟩
theorem opI0 {f : Value → Value → Sem Value} {g : Int → Int → Int}
    (rule : ∀ (i j : Int) (t u : Tok) (s : Shared) (Q : Value → Shared → Prop) (E : Value → Shared → Prop), Q (.int (g i j) s.toks) { s with toks := s.toks + 1 } → wpAny (model X.prog X.w) X.A (f (.int i t) (.int j u)) Q E s) :
    OpR X f (rI0 fun i j => .int (g i j)) := by
  intro pins s σ H x y v u Q I rx ry h
  obtain ⟨i, j, rfl, rfl, q⟩ := h
  obtain ⟨t, rfl⟩ := rx
  obtain ⟨t', rfl⟩ := ry
  exact rule i j t t' s _ _ ⟨.int (g i j), H, I.tok _, ⟨_, rfl⟩, q⟩
theorem opB0 {f : Value → Value → Sem Value} {g : Int → Int → Bool}
    (rule : ∀ (i j : Int) (t u : Tok) (s : Shared) (Q : Value → Shared → Prop) (E : Value → Shared → Prop), Q (.bool (g i j)) s → wpAny (model X.prog X.w) X.A (f (.int i t) (.int j u)) Q E s) :
    OpR X f (rI0 fun i j => .bl (g i j)) := by
  intro pins s σ H x y v u Q I rx ry h
  obtain ⟨i, j, rfl, rfl, q⟩ := h
  obtain ⟨t, rfl⟩ := rx
  obtain ⟨t', rfl⟩ := ry
  exact rule i j t t' s _ _ ⟨.bl (g i j), H, I, rfl, q⟩

def CPow (i j : Int) : Prop := 0 ≤ j ∧ j ≤ 1000000 ∧ i.natAbs < 2 ^ 64
def CMul (i j : Int) : Prop := (-(2 ^ 64) < i ∧ i < 2 ^ 64) ∨ (-(2 ^ 64) < j ∧ j < 2 ^ 64)
theorem CMul.ok {i j : Int} (h : CMul i j) : IntMulOk i j := by
  rcases h with ⟨h1, h2⟩ | ⟨h1, h2⟩
  · exact .of_left (intBits_le_64 h1 h2)
  · exact .of_right (intBits_le_64 h1 h2)
theorem op_add : OpR X (binaryOp .Add) (rI0 fun i j => .int (i + j)) := opI0 fun _ _ _ _ _ _ _ q => add_int q
theorem op_sub : OpR X (binaryOp .Sub) (rI0 fun i j => .int (i - j)) := opI0 fun _ _ _ _ _ _ _ q => sub_int q
theorem op_mul : OpR X (binaryOp .Mult) (rI CMul fun i j => .int (i * j)) := opI fun _ _ _ _ _ _ _ hc q => mul_int q hc.ok
/-- % by a positive divisor of any size -/
theorem op_mod : OpR X (binaryOp .Mod) (rI (fun _ j => 0 < j) fun i j => .int (i % j)) := opI fun i j _ _ _ _ _ hc q => by
  have h1 : (0 : Int) < j := hc
  exact mod_int' (by omega) (by rw [Int.fmod_eq_emod_of_nonneg i (by omega)]; exact q)
theorem op_pow : OpR X (binaryOp .Pow) (rI CPow fun i j => .int (i ^ j.toNat)) := opI fun _ _ _ _ _ _ _ hc q => pow_int_small hc.1 hc.2.1 hc.2.2 q
theorem unI {f : Value → Sem Value} {g : Int → Int}
    (rule : ∀ (i : Int) (t : Tok) (s : Shared) (Q : Value → Shared → Prop) (E : Value → Shared → Prop), Q (.int (g i) s.toks) { s with toks := s.toks + 1 } → wpAny (model X.prog X.w) X.A (f (.int i t)) Q E s) :
    UnR X f (rU fun i => .int (g i)) := by
  intro pins s σ H x v Q I rx h
  obtain ⟨i, rfl, q⟩ := h
  obtain ⟨t, rfl⟩ := rx
  exact rule i t s _ _ ⟨.int (g i), H, I.tok _, ⟨_, rfl⟩, q⟩
theorem un_neg : UnR X (unaryOp .USub) (rU fun i => .int (-i)) := unI fun _ _ _ _ _ q => neg_int q
/-! ### bools among ints: n += (a < b) -/
end

/-! ### comparisons -/
/-- the scalars that == tells apart as data does -/
def scal : V → V → Bool
  | .non, .non => true | .non, .int _ => true | .int _, .non => true | .non, .bl _ => true | .bl _, .non => true | .non, .str _ => true | .str _, .non => true
  | .int _, .int _ => true | .bl _, .bl _ => true | .str _, .str _ => true | .byt _, .byt _ => true
  | .int _, .str _ => true | .str _, .int _ => true | .bl _, .str _ => true | .str _, .bl _ => true
  | _, _ => false
def rEq : R2 := fun x y H Q => scal x y = true ∧ Q (.bl (decide (x = y))) H
def rNe : R2 := fun x y H Q => scal x y = true ∧ Q (.bl (!decide (x = y))) H

theorem dec_int {i j : Int} : decide (V.int i = V.int j) = (i == j) := by
  rw [Bool.eq_iff_iff]
  simp
theorem dec_bl {i j : Bool} : decide (V.bl i = V.bl j) = (i == j) := by
  rw [Bool.eq_iff_iff]
  simp
theorem dec_str {i j : Str} : decide (V.str i = V.str j) = (i == j) := by
  rw [Bool.eq_iff_iff]
  simp
theorem dec_byt {i j : Array UInt8} : decide (V.byt i = V.byt j) = (i.toList == j.toList) := by
  rw [Bool.eq_iff_iff]
  cases i
  cases j
  simp

section
variable {X : Cx} {a b c : Expr} {ta tb tc : TE} {pos : Pos}
theorem fin_bl {pins : List (Addr × Obj)} {σ : St} {H : Hp} {s : Shared} {Q : VK} {k k' : Bool} (I : Inv X pins σ H s) (q : Q (.bl k) H) (e : k = k') : EP X pins σ Q (.bool k') s := by
  subst e
  exact ⟨.bl k, H, I, rfl, q⟩
theorem op_eq : OpR X (compareOp .Eq) rEq := by
  intro pins s σ H x y v u Q I rx ry h
  obtain ⟨hs, q⟩ := h
  cases x with
  | non =>
    cases rx
    cases y with
    | non => cases ry; exact PySem.EqNone.eq_none_none (fin_bl I q (by simp))
    | bl j => cases ry; exact PySem.EqNone.eq_none_bool (fin_bl I q (by simp))
    | int j => obtain ⟨t', rfl⟩ := ry; exact PySem.EqNone.eq_none_int (fin_bl I q (by simp))
    | str j => obtain ⟨t', rfl⟩ := ry; exact PySem.EqNone.eq_none_str (fin_bl I q (by simp))
    | _ => exact absurd (show false = true from hs) Bool.false_ne_true
  | bl i =>
    cases rx
    cases y with
    | non => cases ry; exact PySem.EqNone.eq_bool_none (fin_bl I q (by simp))
    | bl j => cases ry; exact eq_bool (fin_bl I q dec_bl)
    | str j => obtain ⟨t', rfl⟩ := ry; exact PySem.EqMixed.eq_bool_str (fin_bl I q (by simp))
    | _ => exact absurd (show false = true from hs) Bool.false_ne_true
  | int i =>
    obtain ⟨t, rfl⟩ := rx
    cases y with
    | non => cases ry; exact PySem.EqNone.eq_int_none (fin_bl I q (by simp))
    | int j => obtain ⟨t', rfl⟩ := ry; exact eq_int (fin_bl I q dec_int)
    | str j => obtain ⟨t', rfl⟩ := ry; exact PySem.EqMixed.eq_int_str (fin_bl I q (by simp))
    | _ => exact absurd (show false = true from hs) Bool.false_ne_true
  | str i =>
    obtain ⟨t, rfl⟩ := rx
    cases y with
    | non => cases ry; exact PySem.EqNone.eq_str_none (fin_bl I q (by simp))
    | bl j => cases ry; exact PySem.EqMixed.eq_str_bool (fin_bl I q (by simp))
    | int j => obtain ⟨t', rfl⟩ := ry; exact PySem.EqMixed.eq_str_int (fin_bl I q (by simp))
    | str j => obtain ⟨t', rfl⟩ := ry; exact eq_str (fin_bl I q dec_str)
    | _ => exact absurd (show false = true from hs) Bool.false_ne_true
  | byt i =>
    obtain ⟨t, rfl⟩ := rx
    cases y with
    | byt j => obtain ⟨t', rfl⟩ := ry; exact PySem.W.eq_bytes (fin_bl I q dec_byt)
    | _ => exact absurd (show false = true from hs) Bool.false_ne_true
  | _ => cases y <;> exact absurd (show false = true from hs) Bool.false_ne_true
theorem op_ne : OpR X (compareOp .NotEq) rNe := by
  intro pins s σ H x y v u Q I rx ry h
  obtain ⟨hs, q⟩ := h
  cases x with
  | non =>
    cases rx
    cases y with
    | non => cases ry; exact PySem.EqNone.ne_none_none (fin_bl I q (by simp))
    | bl j => cases ry; exact PySem.EqNone.ne_none_bool (fin_bl I q (by simp))
    | int j => obtain ⟨t', rfl⟩ := ry; exact PySem.EqNone.ne_none_int (fin_bl I q (by simp))
    | str j => obtain ⟨t', rfl⟩ := ry; exact PySem.EqNone.ne_none_str (fin_bl I q (by simp))
    | _ => exact absurd (show false = true from hs) Bool.false_ne_true
  | bl i =>
    cases rx
    cases y with
    | non => cases ry; exact PySem.EqNone.ne_bool_none (fin_bl I q (by simp))
    | bl j => cases ry; exact ne_bool (fin_bl I q (congrArg not dec_bl))
    | str j => obtain ⟨t', rfl⟩ := ry; exact PySem.EqMixed.ne_bool_str (fin_bl I q (by simp))
    | _ => exact absurd (show false = true from hs) Bool.false_ne_true
  | int i =>
    obtain ⟨t, rfl⟩ := rx
    cases y with
    | non => cases ry; exact PySem.EqNone.ne_int_none (fin_bl I q (by simp))
    | int j => obtain ⟨t', rfl⟩ := ry; exact ne_int (fin_bl I q (congrArg not dec_int))
    | str j => obtain ⟨t', rfl⟩ := ry; exact PySem.EqMixed.ne_int_str (fin_bl I q (by simp))
    | _ => exact absurd (show false = true from hs) Bool.false_ne_true
  | str i =>
    obtain ⟨t, rfl⟩ := rx
    cases y with
    | non => cases ry; exact PySem.EqNone.ne_str_none (fin_bl I q (by simp))
    | bl j => cases ry; exact PySem.EqMixed.ne_str_bool (fin_bl I q (by simp))
    | int j => obtain ⟨t', rfl⟩ := ry; exact PySem.EqMixed.ne_str_int (fin_bl I q (by simp))
    | str j => obtain ⟨t', rfl⟩ := ry; exact ne_str (fin_bl I q (congrArg not dec_str))
    | _ => exact absurd (show false = true from hs) Bool.false_ne_true
  | byt i =>
    obtain ⟨t, rfl⟩ := rx
    cases y with
    | byt j => obtain ⟨t', rfl⟩ := ry; exact PySem.W.ne_bytes (fin_bl I q (congrArg not dec_byt))
    | _ => exact absurd (show false = true from hs) Bool.false_ne_true
  | _ => cases y <;> exact absurd (show false = true from hs) Bool.false_ne_true

theorem op_lt : OpR X (compareOp .Lt) (rI0 fun i j => .bl (decide (i < j))) := opB0 fun _ _ _ _ _ _ _ q => lt_int q
theorem op_le : OpR X (compareOp .LtE) (rI0 fun i j => .bl (decide (i ≤ j))) := opB0 fun _ _ _ _ _ _ _ q => le_int q
theorem op_gt : OpR X (compareOp .Gt) (rI0 fun i j => .bl (decide (j < i))) := opB0 fun _ _ _ _ _ _ _ q => gt_int q
theorem op_ge : OpR X (compareOp .GtE) (rI0 fun i j => .bl (decide (j ≤ i))) := opB0 fun _ _ _ _ _ _ _ q => ge_int q
/-- the one string within the other -/
theorem op_in_str : OpR X (compareOp .In) (fun x y H Q => ∃ i j, x = .str i ∧ y = .str j ∧ Q (.bl (!(Builtin.Str.occurrences j i 0 j.length 1).isEmpty)) H) := by
  intro pins s σ H x y v u Q I rx ry h
  obtain ⟨i, j, rfl, rfl, q⟩ := h
  obtain ⟨t, rfl⟩ := rx
  obtain ⟨t', rfl⟩ := ry
  exact in_str (fin_bl I q rfl)

/-- is None, is not None: the right side a value none -/
theorem op_isN : OpR X (compareOp .Is) (fun x y H Q => y = .non ∧ Q (.bl (decide (x = .non))) H) := by
  intro pins s σ H x y v u Q I rx ry h
  obtain ⟨rfl, q⟩ := h
  cases ry
  refine is_none_gen (fin_bl I q ?_)
  cases x <;> first
    | (cases rx; rfl)
    | (obtain ⟨t, rfl⟩ := rx; rfl)
theorem op_notN : OpR X (compareOp .IsNot) (fun x y H Q => y = .non ∧ Q (.bl (!decide (x = .non))) H) := by
  intro pins s σ H x y v u Q I rx ry h
  obtain ⟨rfl, q⟩ := h
  cases ry
  refine isnot_none_gen (fin_bl I q ?_)
  cases x <;> first
    | (cases rx; rfl)
    | (obtain ⟨t, rfl⟩ := rx; rfl)

/-- two rules for one operation: by cases -/
theorem OpR.or {f : Value → Value → Sem Value} {r r' : R2} (h : OpR X f r) (h' : OpR X f r') : OpR X f (fun x y H Q => r x y H Q ∨ r' x y H Q) := by
  intro pins s σ H x y v u Q I rx ry q
  rcases q with q | q
  · exact h pins s σ H x y v u Q I rx ry q
  · exact h' pins s σ H x y v u Q I rx ry q

theorem nomark (b : Expr) {op : CmpOp} (h : op ≠ .In := by decide) (h2 : op ≠ .NotIn := by decide) : behindInMarks op b = false := by
  have e1 : (op == CmpOp.In) = false := by cases op <;> first | rfl | exact absurd rfl h
  have e2 : (op == CmpOp.NotIn) = false := by cases op <;> first | rfl | exact absurd rfl h2
  cases b <;> simp [behindInMarks, e1, e2]
/-- a comparison as a value; hm: nomark b, or (for in, not in) by with_unfolding_all rfl -/
theorem pe_cmpR {op : CmpOp} {r : R2} (ho : OpR X (compareOp op) r) (ha : PE X a ta) (hb : PE X b tb) (hm : behindInMarks op b = false) : PE X (.Compare a [op] [b] pos) (tOp r ta tb) := by
  intro pins s σ H Q I h
  exact wpAny_Compare1 (binT ha hb I h fun v u s2 x y H2 I2 rx ry q => ho pins s2 σ H2 x y v u Q I2 rx ry q) hm
/-- a reading of a value as a test -/
def tTest (t : TE) : TT := fun σ H Q => t σ H fun x H' => ∃ k, x = .bl k ∧ Q k H'
theorem pt_cmpR {op : CmpOp} {r : R2} (ho : OpR X (compareOp op) r) (ha : PE X a ta) (hb : PE X b tb) (hm : behindInMarks op b = false) : PT X (.Compare a [op] [b] pos) (tTest (tOp r ta tb)) := by
  intro pins s σ H Q I h
  refine wpAny_isTrue_Compare1 (thn (ha pins s σ H _ I h) fun v s1 ⟨x, H1, I1, r1, q1⟩ => thn (hb pins s1 σ H1 _ I1 q1) fun u s2 ⟨y, H2, I2, r2, q2⟩ =>
    thn (ho pins s2 σ H2 x y v u _ I2 r1 r2 q2) fun c s3 ⟨z, H3, I3, r3, k, e, q3⟩ => ?_) hm
  subst e
  cases r3
  exact wpAny_truthy_bool ⟨H3, I3, q3⟩
/-- a op1 b op2 c -/
def tChain (r r' : R2) (ta tb tc : TE) : TE := fun σ H Q => ta σ H fun x H1 => tb σ H1 fun y H2 => r x y H2 fun z H3 => ∃ k, z = .bl k ∧
  (if k = true then tc σ H3 fun w' H4 => r' y w' H4 Q else Q (.bl false) H3)
theorem pe_chain {op op' : CmpOp} {r r' : R2} (ho : OpR X (compareOp op) r) (ho' : OpR X (compareOp op') r') (ha : PE X a ta) (hb : PE X b tb) (hc : PE X c tc)
    (hm : lastMarks [op, op'] [b, c] = false := by with_unfolding_all rfl) : PE X (.Compare a [op, op'] [b, c] pos) (tChain r r' ta tb tc) := by
  intro pins s σ H Q I h
  refine Compare_chain (thn (ha pins s σ H _ I h) fun v s1 ⟨x, H1, I1, r1, q1⟩ => chain_link (thn (hb pins s1 σ H1 _ I1 q1) fun u s2 ⟨y, H2, I2, r2, q2⟩ =>
    thn (ho pins s2 σ H2 x y v u _ I2 r1 r2 q2) fun d s3 ⟨z, H3, I3, r3, k, e, q3⟩ => ?_)) hm
  subst e
  cases r3
  refine wpAny_truthy_bool ?_
  cases k with
  | false => exact ite_ff ⟨.bl false, H3, I3, rfl, q3⟩
  | true => exact ite_tt (chain_last (thn (hc pins s3 σ H3 _ I3 q3) fun w' s4 ⟨z', H4, I4, r4, q4⟩ => ho' pins s4 σ H4 y z' u w' Q I4 r2 r4 q4))
theorem pt_chain {op op' : CmpOp} {r r' : R2} (ho : OpR X (compareOp op) r) (ho' : OpR X (compareOp op') r') (ha : PE X a ta) (hb : PE X b tb) (hc : PE X c tc)
    (hm : lastMarks [op, op'] [b, c] = false := by with_unfolding_all rfl) : PT X (.Compare a [op, op'] [b, c] pos) (tTest (tChain r r' ta tb tc)) := by
  intro pins s σ H Q I h
  refine isTrue_chain (thn (ha pins s σ H _ I h) fun v s1 ⟨x, H1, I1, r1, q1⟩ => test_link (thn (hb pins s1 σ H1 _ I1 q1) fun u s2 ⟨y, H2, I2, r2, q2⟩ =>
    thn (ho pins s2 σ H2 x y v u _ I2 r1 r2 q2) fun d s3 ⟨z, H3, I3, r3, k, e, q3⟩ => ?_)) hm
  subst e
  cases r3
  refine wpAny_truthy_bool ?_
  cases k with
  | false =>
    obtain ⟨k', e', q'⟩ := q3
    cases e'
    exact ite_ff ⟨H3, I3, q'⟩
  | true =>
    refine ite_tt (test_last (thn (hc pins s3 σ H3 _ I3 q3) fun w' s4 ⟨z', H4, I4, r4, q4⟩ => thn (ho' pins s4 σ H4 y z' u w' _ I4 r2 r4 q4) fun d' s5 ⟨z2, H5, I5, r5, k2, e2, q5⟩ => ?_))
    subst e2
    cases r5
    exact wpAny_truthy_bool ⟨H5, I5, q5⟩

/-! ### truth -/
/-- a value's truth by the abstract heap -/
def TruV (K : PySem.W.Frag) (x : V) (H : Hp) (k : Bool) : Prop :=
  match x with
  | .non => k = false
  | .bl b => k = b
  | .int i => k = (i != 0)
  | .str y => y.length ≤ sizeLine ∧ k = ((y.length : Int) != 0)
  | .byt y => y.size ≤ sizeLine ∧ k = ((y.size : Int) != 0)
  | .ref p => (∃ xs, SqL K H p xs ∧ k = !xs.isEmpty) ∨ (∃ xs, SqT K H p xs ∧ k = !xs.isEmpty) ∨ ∃ kvs, H p = some (.dK kvs) ∧ k = !kvs.isEmpty
  | _ => False
theorem isEmpty_kv {κ : Type} {kvs : List (κ × V)} {vs : List (κ × Value)} (r : KV kvs vs) : (!vs.isEmpty) = !kvs.isEmpty := by
  cases r <;> rfl
theorem isEmpty_of {xs : List V} {its : List Value} (r : Vals xs its) : (!its.toArray.isEmpty) = !xs.isEmpty := by
  cases r <;> simp
theorem line63 : (sizeLine : Nat) < 2 ^ 63 := by rw [sizeLine_eq]; decide
theorem tru_ok : TruR X (fun x H Q => ∃ k, TruV X.K x H k ∧ Q k H) := by
  intro pins s σ H x v Q I rx h
  obtain ⟨k, e, q⟩ := h
  have hl := line63
  have hs : sizeLine = 16777216 := sizeLine_eq
  cases x with
  | non =>
    cases rx
    have e' : k = false := e
    subst e'
    exact truthy_none ⟨H, I, q⟩
  | bl b =>
    cases rx
    have e' : k = b := e
    subst e'
    exact wpAny_truthy_bool ⟨H, I, q⟩
  | int i =>
    obtain ⟨t, rfl⟩ := rx
    have e' : k = (i != 0) := e
    subst e'
    exact PySem.P.truthy_int ⟨H, I, q⟩
  | str y =>
    obtain ⟨t, rfl⟩ := rx
    obtain ⟨hy, e'⟩ : y.length ≤ sizeLine ∧ k = ((y.length : Int) != 0) := e
    subst e'
    exact PySem.P.truthy_str (by omega) ⟨H, I.tok _, q⟩
  | byt y =>
    obtain ⟨t, rfl⟩ := rx
    obtain ⟨hy, e'⟩ : y.size ≤ sizeLine ∧ k = ((y.size : Int) != 0) := e
    subst e'
    exact PySem.W.truthy_bytes (by omega) ⟨H, I.tok _, q⟩
  | ref p =>
    cases rx
    have e' : (∃ xs, SqL X.K H p xs ∧ k = !xs.isEmpty) ∨ (∃ xs, SqT X.K H p xs ∧ k = !xs.isEmpty) ∨ ∃ kvs, H p = some (.dK kvs) ∧ k = !kvs.isEmpty := e
    rcases e' with ⟨xs, hx, e'⟩ | ⟨xs, hx, e'⟩ | ⟨kvs, hx, e'⟩
    · subst e'
      obtain ⟨its, r, pl, hz⟩ := I.list hx
      have hlen := r.length
      exact wpAny_truthy_list pl.isList (by simp only [List.size_toArray]; omega) ⟨H, I.tok _, by rw [isEmpty_of r]; exact q⟩
    · subst e'
      obtain ⟨its, r, pl, hz⟩ := I.tuple hx
      have hlen := r.length
      exact truthy_tuple pl (by simp only [List.size_toArray]; omega) ⟨H, I.tok _, by rw [isEmpty_of r]; exact q⟩
    · subst e'
      obtain ⟨hz, hS, vs, r, m⟩ : kvs.length ≤ sizeLine ∧ (p == sysModules) = false ∧ ∃ vs, KV kvs vs ∧ s.heap.DictOf (mixKind X.prog X.w) p vs := I.hok p _ hx
      have hlen : kvs.length = vs.length := Paired.length r
      exact wpAny_truthy_dict hS m (by omega) ⟨H, I.tok _, by rw [isEmpty_kv r]; exact q⟩
  | _ => exact (show False from e).elim
/-- any expression whose test is its value's truth (a name, a call, a subscript, a field ..: he by fun _ => rfl) -/
theorem pt_truth (ha : PE X a ta) (he : ∀ whole, isTrue a X.env whole = (do let v ← whole; standAt a.pos; holding [v] (truthy v))) :
    PT X a (fun σ H Q => ta σ H fun x H' => ∃ k, TruV X.K x H' k ∧ Q k H') := by
  intro pins s σ H Q I h
  exact isTrue_plain (thn (ha pins s σ H _ I h) fun v s1 ⟨x, H1, I1, r1, q1⟩ => tru_ok pins s1 σ H1 x v Q I1 r1 q1) (he _)

/-! ### strs and bytes -/
theorem op_add_str : OpR X (binaryOp .Add) (fun x y H Q => ∃ i j, x = .str i ∧ y = .str j ∧ i.length + j.length ≤ sizeLine ∧ Q (.str (i ++ j)) H) := by
  intro pins s σ H x y v u Q I rx ry h
  obtain ⟨i, j, rfl, rfl, hz, q⟩ := h
  obtain ⟨t, rfl⟩ := rx
  obtain ⟨t', rfl⟩ := ry
  exact add_str (fun t' tk => ⟨.str (i ++ j), H, I.tok _, ⟨_, rfl⟩, q⟩) hz
/-! ### scalar builtins, by CallR -/
theorem vals1 {x : V} {us : List Value} (r : Vals [x] us) : ∃ u, us = [u] ∧ RelV x u := by
  cases r with
  | cons r1 r2 => cases r2; exact ⟨_, rfl, r1⟩
theorem vals2 {x y : V} {us : List Value} (r : Vals [x, y] us) : ∃ u w', us = [u, w'] ∧ RelV x u ∧ RelV y w' := by
  cases r with
  | cons r1 r2 =>
    cases r2 with
    | cons r3 r4 => cases r4; exact ⟨_, _, rfl, r1, r3⟩
theorem call_min2 (hc : X.calm = true) : CallR X (.builtin "min") (fun xs H Q => ∃ i j, xs = [.int i, .int j] ∧ Q (.int (if j < i then j else i)) H) := by
  intro pins s σ H xs us Q I r h
  obtain ⟨i, j, rfl, q⟩ := h
  obtain ⟨u, w', rfl, ⟨t, rfl⟩, ⟨t', rfl⟩⟩ := vals2 r
  refine min_two_ints (I.ok.hd hc) fun h' tk k => ⟨_, H, I.kept k, ?_, q⟩
  by_cases hj : j < i
  · rw [if_pos hj, if_pos hj]; exact ⟨_, rfl⟩
  · rw [if_neg hj, if_neg hj]; exact ⟨_, rfl⟩
theorem call_int1 : CallR X (.type "int") (fun xs H Q => (∃ i, xs = [.int i] ∧ Q (.int i) H) ∨ ∃ k, xs = [.bl k] ∧ Q (.int (if k then 1 else 0)) H) := by
  intro pins s σ H xs us Q I r h
  rcases h with ⟨i, rfl, q⟩ | ⟨k, rfl, q⟩
  · obtain ⟨u, rfl, t, rfl⟩ := vals1 r
    exact call_int_int ⟨.int i, H, I, ⟨_, rfl⟩, q⟩
  · obtain ⟨u, rfl, r1⟩ := vals1 r
    cases r1
    exact call_int_bool ⟨.int (if k then 1 else 0), H, I.tok _, ⟨_, rfl⟩, q⟩
end
end L2

namespace L2
open PySem PySem.Spec PyProof.Rows

/-! ### an instance, its attributes a map -/
structure ObjM (h : Heap) (x dx C : Addr) (mA : Str → Option Value) : Prop where
  obj : h.get? x = some (PySem.W.instObj C dx)
  ns : h.Ns1 dx mA
  ne : dx ≠ x

theorem lookIn_ns {h : Heap} {dx : Addr} {mA : Str → Option Value} (n : h.Ns1 dx mA) : ∃ od, h.get? dx = some od ∧ ∀ name, PySem.W.lookIn name od = some (mA name) := by
  obtain ⟨o, es, ep, ho, hd, hk, _, hm⟩ := n
  refine ⟨o, ho, fun name => ?_⟩
  have e := hm name
  unfold nsFind findBy at e
  rw [← Array.find?_toList] at e
  unfold PySem.W.lookIn
  rw [hd]
  dsimp only
  split
  · rename_i y q
    rw [q] at e
    exact congrArg some e
  · rename_i q
    rw [q] at e
    have a : es.toList.any (·.refKey) = false := by
      rw [List.any_eq_false]
      intro y hy
      obtain ⟨z, t, hkey⟩ := hk y (Array.mem_toList_iff.mp hy)
      simp [DictEntry.refKey, hkey]
    have a' : ¬ es.toList.any (·.refKey) = true := by rw [a]; exact Bool.false_ne_true
    rw [if_neg a']
    exact congrArg some e

theorem ObjM.look {h : Heap} {x dx C : Addr} {mA : Str → Option Value} (I : ObjM h x dx C mA) : ∃ od, PySem.W.InstAt h x (PySem.W.instObj C dx) C (some od) ∧ ∀ name, PySem.W.lookIn name od = some (mA name) :=
  let ⟨od, ho, hl⟩ := lookIn_ns I.ns
  ⟨od, ⟨I.obj, rfl, rfl, ho⟩, hl⟩

section
variable {prog : Program} {w : World} {A : Around} {E : Value → Shared → Prop} {s : Shared} {K : PySem.W.Frag} {x dx C f : Addr} {mA : Str → Option Value} {name : Str} {v : Value}

end

/-! ### the attributes as a list of pairs -/
def putF (f : Str) (v : V) : List (Str × V) → List (Str × V)
  | [] => [(f, v)]
  | (g, x) :: r => if g = f then (g, v) :: r else (g, x) :: putF f v r
theorem RelO.some_of {v : V} {o : Option Value} (r : RelO (some v) o) : ∃ u, o = some u ∧ RelV v u := by
  cases o with
  | none => exact (show False from r).elim
  | some u => exact ⟨u, rfl, r⟩
theorem handed_of {v : V} {u : Value} (r : RelV v u) : PySem.W.handedIn u = true := by
  cases v with
  | non => cases (show u = Value.none from r); rfl
  | bl b => cases (show u = Value.bool b from r); rfl
  | int i => obtain ⟨t, e⟩ := (show ∃ t, u = Value.int i t from r); cases e; rfl
  | str x => obtain ⟨t, e⟩ := (show ∃ t, u = Value.str x t from r); cases e; rfl
  | byt b => obtain ⟨t, e⟩ := (show ∃ t, u = Value.bytes b t from r); cases e; rfl
  | flt b => obtain ⟨t, e⟩ := (show ∃ t, u = Value.float b t from r); cases e; rfl
  | ref a => cases (show u = Value.ref a from r); rfl
  | ty n => cases (show u = Value.type n from r); rfl

section
variable {P : Program} {w : World} {H H' : Hp} {h h' : Heap} {a C dx : Addr} {fs fs' : List (Str × V)}
theorem ins_get (hok : HOk P w H h) (e : H a = some (.ins C dx fs)) : ∃ mA, ObjM h a dx C mA ∧ (∀ f, RelO (fs.lookup f) (mA f)) ∧ PySem.Within mA (fs.map (·.1)) ∧ fs.length ≤ 1000 ∧ H dx = some (.own a) := by
  obtain ⟨d, z, ne, ob, mA, n, r, q⟩ := (show ObjOk P w H h a (.ins C dx fs) from hok a _ e)
  exact ⟨mA, ⟨ob, n, ne⟩, r, q, z, d⟩
end

/-! ### what of the text a class must have -/
structure Cls (K : PySem.W.Frag) (C : Addr) : Prop where
  pg : PySem.W.plainGet K C Str.empty = true
  hd : PySem.W.hasDictIn K C = true
  po : PySem.W.plainOver K C = true
  sa : PySem.W.findIn K (.ref C) "__setattr__" = some (some (.builtin "object.__setattr__"))
theorem Cls.get {K : PySem.W.Frag} {C : Addr} (c : Cls K C) (f : Str) : PySem.W.plainGet K C f = true := c.pg
/-- a constant of the class -/
structure Con (K : PySem.W.Frag) (C : Addr) (f : Str) (v : V) (u : Value) : Prop where
  at_ : PySem.W.findIn K (.ref C) f = some (some u)
  rel : RelV v u
  get : PySem.W.specialIn K u "__get__" = some none
  cp : PySem.W.copiedNames.contains f = false
/-- a method: a plain def of the class or of one above it -/
structure Meth (K : PySem.W.Frag) (C : Addr) (m : Str) (f : Addr) : Prop where
  at_ : PySem.W.findIn K (.ref C) m = some (some (.ref f))
  fn : PySem.W.isFn K (.ref f) = true
  kp : PySem.W.keepIn K (.ref f) = true

section
variable {X : Cx} {pins : List (Addr × Obj)} {σ : St} {H : Hp} {s : Shared} {a C dx : Addr} {fs : List (Str × V)} {f : Str} {v : V} {A : Around} {E : Value → Shared → Prop}

/-- a new instance, tracked, without attributes -/
theorem Inv.made (I : Inv X pins σ H s) : Inv X pins σ (upd (upd H s.heap.objs.size (.own (s.heap.objs.size + 1))) (s.heap.objs.size + 1) (.ins C s.heap.objs.size []))
    { s with heap := (s.heap.push PySem.W.emptyDict).push (PySem.W.instObj C s.heap.objs.size) } := by
  have e1 : (s.heap.push PySem.W.emptyDict).get? s.heap.objs.size = some PySem.W.emptyDict := Heap.get?_push_size s.heap rfl
  have e2 : ((s.heap.push PySem.W.emptyDict).push (PySem.W.instObj C s.heap.objs.size)).get? (s.heap.objs.size + 1) = some (PySem.W.instObj C s.heap.objs.size) := by
    have := Heap.get?_push_size (s.heap.push PySem.W.emptyDict) (o := PySem.W.instObj C s.heap.objs.size) rfl
    rwa [Heap.size_push] at this
  have e3 : (s.heap.push PySem.W.emptyDict).Ns s.heap.objs.size (fun _ => none) := ⟨PySem.W.emptyDict, #[], _, e1, rfl, (fun e he => absurd he (by simp)), fun _ => rfl⟩
  have I1 := I.laid (a := s.heap.objs.size) (o := .own (s.heap.objs.size + 1)) (h' := s.heap.push PySem.W.emptyDict) (t' := s.toks) (fun b u q => Heap.get?_push_of_some _ q) (Nat.le_refl _) ⟨_, e1⟩
  refine I1.laid (a := s.heap.objs.size + 1) (o := .ins C s.heap.objs.size []) (t' := s.toks) (fun b u q => Heap.get?_push_of_some _ q) (Nat.le_of_eq (Heap.size_push _ _)) ?_
  have ne : s.heap.objs.size ≠ s.heap.objs.size + 1 := Nat.ne_of_lt (Nat.lt_succ_self _)
  refine ⟨by rw [upd_ne ne, upd_same], Nat.zero_le _, ne, e2, fun _ => none, (Heap.Ns1.of_empty e3).at fun o q => Heap.get?_push_of_some _ q, fun _ => True.intro, fun y hy => absurd rfl hy⟩

/-- e.f where nothing but the object is asked: through attributeBase (super) and the last hold -/
theorem attr_of {prog : Program} {w : World} {env : Env} {e : Expr} {f : Str} {pos : Pos} {s : Shared} {Q : Value → Shared → Prop} (hb : attributeBase e f env (eval e env) = eval e env)
    (h : wpAny (model prog w) A (eval e env) (fun o s₁ => wpAny (model prog w) A (getAttr o f true) Q E s₁) E s) : wpAny (model prog w) A (eval (.Attribute e f pos) env) Q E s :=
  Attribute_any_ h (by rw [arm_eval_Attribute, hb])
end

/-! ### readings and rules -/
section
variable {X : Cx} {o e value : Expr} {f : Str} {pos pos' tpos : Pos} {ta tv : TE}
end

/-! ### isinstance -/
section
variable {X : Cx} {pins : List (Addr × Obj)} {σ : St} {H : Hp} {s : Shared} {A : Around} {E : Value → Shared → Prop} {Q : Value → Shared → Prop} {c : Value} {b : Bool}
/-- the type of a value, as the fragment's deciders take it; for an instance its class -/
inductive TyOf (K : PySem.W.Frag) (H : Hp) : V → Value → Prop where
  | non : TyOf K H .non (.type "NoneType")
  | bl (x : Bool) : TyOf K H (.bl x) (.type "bool")
  | int (i : Int) : TyOf K H (.int i) (.type "int")
  | str (x : Str) : TyOf K H (.str x) (.type "str")
  | flt (x : UInt64) : TyOf K H (.flt x) (.type "float")
  | lst {a : Addr} {xs : List V} (e : H a = some (.lst xs)) : TyOf K H (.ref a) (.type "list")
  | frz {a : Addr} {o : Obj} {xs : List V} (e : H a = some (.frz o (.lst xs))) : TyOf K H (.ref a) (.type "list")
  | tup {a : Addr} {xs : List V} (e : H a = some (.tup xs)) : TyOf K H (.ref a) (.type "tuple")
  | dK {a : Addr} {kvs : List (Key × V)} (e : H a = some (.dK kvs)) : TyOf K H (.ref a) (.type "dict")
  | dT {a : Addr} {kvs : List (List Key × V)} (e : H a = some (.dT kvs)) : TyOf K H (.ref a) (.type "dict")
  | ins {a C dx : Addr} {fs : List (Str × V)} (e : H a = some (.ins C dx fs)) (cl : Cls K C) (ha : PySem.W.findIn K (.ref C) "__class__" = some (some (.builtin "object.__class__")))
      (hn : PySem.W.specialIn K (.builtin "object.__class__") "__get__" = some (some (.builtin "getset_descriptor.__get__"))) (htk : PySem.W.takesIn K (.builtin "object.__class__") = some true)
      (hm : PySem.W.mroIn K C (.type "object") = some true) : TyOf K H (.ref a) (.ref C)
/-- isinstance(x, c) for one class c, a built-in or an own one: kitOne's answer -/
theorem isinst_ok {x : V} {u t : Value} (I : Inv X pins σ H s) (rx : RelV x u) (ty : TyOf X.K H x t) (e : PySem.W.kitOne X.K t c = some b) (h : ∀ tk, Q (.bool b) { s with toks := tk }) :
    wpAny (model X.prog X.w) A (call (.builtin "isinstance") [u, c]) Q E s := by
  cases ty with
  | non => cases (show u = Value.none from rx); exact PySem.W.kia_one PySem.W.kitx_none I.kIn True.intro e (fun z => nomatch z) h
  | bl y => cases (show u = Value.bool y from rx); exact PySem.W.kia_one PySem.W.kitx_bool I.kIn True.intro e (fun z => nomatch z) h
  | int i => obtain ⟨t, q⟩ := (show ∃ t, u = Value.int i t from rx); cases q; exact PySem.W.kia_one PySem.W.kitx_int I.kIn True.intro e (fun z => nomatch z) h
  | str y => obtain ⟨t, q⟩ := (show ∃ t, u = Value.str y t from rx); cases q; exact PySem.W.kia_one PySem.W.kitx_str I.kIn True.intro e (fun z => nomatch z) h
  | flt y => obtain ⟨t, q⟩ := (show ∃ t, u = Value.float y t from rx); cases q; exact PySem.W.kia_one PySem.W.kitx_float I.kIn True.intro e (fun z => nomatch z) h
  | @lst a xs ea =>
    cases (show u = Value.ref a from rx)
    obtain ⟨_, _, n, _, h1⟩ := (show ObjOk X.prog X.w H s.heap a (.lst xs) from I.hok a _ ea)
    exact PySem.W.kia_one PySem.W.kitx_list I.kIn ⟨_, h1, rfl⟩ e (fun z => nomatch z) h
  | @frz a ob xs ea =>
    cases (show u = Value.ref a from rx)
    obtain ⟨_, _, _, n, _, h1⟩ := (show ObjOk X.prog X.w H s.heap a (.frz ob (.lst xs)) from I.hok a _ ea)
    exact PySem.W.kia_one PySem.W.kitx_list I.kIn ⟨_, h1, rfl⟩ e (fun z => nomatch z) h
  | @tup a xs ea =>
    cases (show u = Value.ref a from rx)
    obtain ⟨_, _, _, p⟩ := (show ObjOk X.prog X.w H s.heap a (.tup xs) from I.hok a _ ea)
    obtain ⟨o, h1, h2, _⟩ := p
    exact PySem.W.kia_one PySem.W.kitx_tuple I.kIn ⟨o, h1, h2⟩ e (fun z => nomatch z) h
  | @dK a kvs ea =>
    cases (show u = Value.ref a from rx)
    obtain ⟨_, _, vs, _, p⟩ := (show ObjOk X.prog X.w H s.heap a (.dK kvs) from I.hok a _ ea)
    obtain ⟨o, es, ep, h1, h2, _⟩ := p
    exact PySem.W.kia_one PySem.W.kitx_dict I.kIn ⟨o, h1, h2.1⟩ e (fun z => nomatch z) h
  | @dT a kvs ea =>
    cases (show u = Value.ref a from rx)
    obtain ⟨_, _, xs, _, o, es, ep, h1, h2, _⟩ := (show ObjOk X.prog X.w H s.heap a (.dT kvs) from I.hok a _ ea)
    exact PySem.W.kia_one PySem.W.kitx_dict I.kIn ⟨o, h1, h2.1⟩ e (fun z => nomatch z) h
  | @ins a C dx fs ea cl ha hn htk hm =>
    cases (show u = Value.ref a from rx)
    obtain ⟨mA, O, _⟩ := ins_get I.hok ea
    obtain ⟨od, J, _⟩ := O.look
    exact PySem.W.kia_one (PySem.W.kitx_own (cl.get _) cl.hd ha hn htk hm) I.kIn J e (fun z => nomatch z) h
end
end L2

namespace L2
open PySem PySem.Spec PyProof.Rows

/-! ### room -/
structure Room (k : Nat) (A : Around) : Prop where
  hd : A.handled = none
  gd : A.guards = some []
  dp : A.depth + 3 * k + 5 < recursionLimit
  un : A.units + 16 * k + 200 < cLine
theorem Room.mono {j k : Nat} {A : Around} (r : Room k A) (h : j ≤ k) : Room j A := ⟨r.hd, r.gd, by have := r.dp; omega, by have := r.un; omega⟩
theorem Room.deeper {k : Nat} {A : Around} (r : Room (k + 1) A) (env : Env) : Room k (A.deeper env) :=
  ⟨r.hd, r.gd, by have := r.dp; show A.depth + 1 + 3 * k + 5 < _; omega, by have := r.un; show A.units + 3 + 16 * k + 200 < _; omega⟩
theorem Room.in1 {k : Nat} {A : Around} (r : Room (k + 1) A) : Room k A.in1 :=
  ⟨r.hd, r.gd, by have := r.dp; show A.depth + 3 * k + 5 < _; omega, by have := r.un; show A.units + 1 + 16 * k + 200 < _; omega⟩
theorem make_depth {A : Around} {C : Addr} {us : List Value} {kw : List (Str × Value)} : (A.under (.builtin "type.__call__" ⟨.ref C :: us, kw⟩)).depth = A.depth + 1 := by
  first | rfl | simp [Around.under, Code.weight, Code.isCreation, Code.isGuard, Code.isCaller, Code.frames, Code.isFrame, guardIds]
theorem make_units {A : Around} {C : Addr} {us : List Value} {kw : List (Str × Value)} : (A.under (.builtin "type.__call__" ⟨.ref C :: us, kw⟩)).units = A.units + 1 := by
  first | rfl | simp [Around.under, Code.cUnits, Code.frames, Code.isFrame]
theorem Room.make {k : Nat} {A : Around} (r : Room (k + 1) A) (C : Addr) (us : List Value) (kw : List (Str × Value)) : Room k (A.under (.builtin "type.__call__" ⟨.ref C :: us, kw⟩)) :=
  ⟨r.hd, r.gd, by have := r.dp; rw [make_depth]; omega, by have := r.un; rw [make_units]; omega⟩
theorem Room.depth {k : Nat} {A : Around} (r : Room k A) : A.depth < recursionLimit := by have := r.dp; omega
theorem Room.units {k : Nat} {A : Around} (r : Room k A) : A.units + 64 < cLine := by have := r.un; omega
/-! ### argument lists and displays -/
def tNil : TA := fun _ H Q => Q [] H
def tCons (ta : TE) (tr : TA) : TA := fun σ H Q => ta σ H fun x H1 => tr σ H1 fun xs H2 => Q (x :: xs) H2
section
variable {X : Cx} {e : Expr} {es : List Expr} {te : TE} {t : TA} {pos : Pos}
theorem pa_nil : PA X [] tNil := fun _ _ _ _ H Q I h => Calls.spliced_nil ⟨[], H, I, .nil, h⟩
theorem pa_cons (ha : PE X e te) (hr : PA X es t) (hs : starEach (e :: es) X.env = (false, eval e X.env) :: starEach es X.env := by rfl) : PA X (e :: es) (tCons te t) := by
  intro pos pins s σ H Q I h
  rw [hs]
  show wpAny _ _ (spliced ((false, eval e X.env) :: backTo pos (starEach es X.env))) _ _ s
  refine Calls.spliced_cons (thn (ha pins s σ H _ I h) fun u s1 ⟨x, H1, I1, r1, q1⟩ => ?_)
  exact thn (hr pos pins s1 σ H1 _ I1 q1) fun us s2 ⟨xs, H2, I2, r2, q2⟩ => ⟨x :: xs, H2, I2, .cons r1 r2, q2⟩

/-- a tuple, a list of written items -/
def tTup (t : TA) : TE := fun σ H Q => t σ H fun xs H1 => xs.length ≤ sizeLine ∧ ∀ p, H1 p = none → Q (.ref p) (upd H1 p (.tup xs))
def tLst (t : TA) : TE := fun σ H Q => t σ H fun xs H1 => xs.length ≤ sizeLine ∧ ∀ p, H1 p = none → Q (.ref p) (upd H1 p (.lst xs))
theorem pe_tup {x1} (h : PA X es t) : PE X (.Tuple es x1 pos) (tTup t) := by
  intro pins s σ H Q I hq
  refine wpAny_Tuple_spliced (thn (h pos pins s σ H _ I hq) fun us s1 ⟨xs, H1, I1, r, z, q⟩ => ⟨by rw [← r.length]; exact z, ?_⟩)
  have hf : H1 s1.heap.objs.size = none := I1.hok.fresh (Nat.le_refl _)
  refine ⟨.ref s1.heap.objs.size, upd H1 s1.heap.objs.size (.tup xs), I1.laid (t' := s1.toks) (fun b u e => Heap.get?_push_of_some _ e) (Nat.le_refl _) ?_, rfl, q _ hf⟩
  exact ⟨z, us, r, ⟨_, Heap.get?_push_size _ rfl, rfl, _, rfl⟩⟩
theorem pe_lst (h : PA X es t) : PE X (.List es pos) (tLst t) := by
  intro pins s σ H Q I hq
  refine wpAny_List_spliced (thn (h pos pins s σ H _ I hq) fun us s1 ⟨xs, H1, I1, r, z, q⟩ => ⟨by rw [← r.length]; exact z, ?_⟩)
  have hf : H1 s1.heap.objs.size = none := I1.hok.fresh (Nat.le_refl _)
  refine ⟨.ref s1.heap.objs.size, upd H1 s1.heap.objs.size (.lst xs), I1.laid (t' := s1.toks) (fun b u e => Heap.get?_push_of_some _ e) (Nat.le_refl _) ?_, rfl, q _ hf⟩
  exact ⟨z, us, 0, r, Heap.get?_push_size _ rfl⟩
end

/-! ### what a def promises -/
/-- a def's promise: the bound arguments in the parameters' order, the heap, the wanted end, the wanted exception -/
abbrev Sp := List V → Hp → VK → XK → Prop
/-- how an exception lies behind a call (file 08 gives it): the callers' frames, abstract heap and state ahead of the call, the wish, the exception, the state -/
abbrev CXT := List Env → Hp → Shared → XK → Value → Shared → Prop

/-- the state at a call -/
structure Env0 (P : Program) (w : World) (K : PySem.W.Frag) (mg : Str → Option Value) (base : Heap) (A : Around) (outer : List Env) (s : Shared) (H : Hp) : Prop where
  frames : A.frames = some outer
  mod : Mod K mg base
  bs : ∀ b o, base.get? b = some o → s.heap.get? b = some o ∧ H b = none
  bsz : base.objs.size ≤ s.heap.objs.size
  funs : s.heap.FunFrames base outer
  frf : ∀ b ∈ frs outer, H b = none
  hok : HOk P w H s.heap
  bare : AllBare s.gens
/-- a call's end -/
def CE (outer : List Env) (P : Program) (w : World) (H : Hp) (s : Shared) (Q : VK) (u : Value) (s' : Shared) : Prop :=
  ∃ v H', s'.os = s.os ∧ AllBare s'.gens ∧ Un (frs outer) [] H H' s.heap s'.heap ∧ HOk P w H' s'.heap ∧ RelV v u ∧ Q v H'
def CR (CX : CXT) (outer : List Env) (P : Program) (w : World) (H : Hp) (s : Shared) (Q : VK) (E : XK) (r : Result) (s' : Shared) : Prop :=
  match r with
  | .ok (.ret u) => CE outer P w H s Q u s'
  | .ok _ => False
  | .error e => CX outer H s E e s'
structure FnOk (P : Program) (w : World) (K : PySem.W.Frag) (mg : Str → Option Value) (base : Heap) (CX : CXT) (k : Nat) (f : Addr) (fd : FuncData) (ps : List Str) (sp : Sp) : Prop where
  len : ∀ vs H Q E, sp vs H Q E → vs.length = ps.length
  run : ∀ (A : Around) (outer : List Env) (s : Shared) (H : Hp) (args : Args) (us : List Value) (vs : List V) (Q : VK) (E : XK), Room k A → Env0 P w K mg base A outer s H → BindsTo s fd args (ps.zip us) → Vals vs us → sp vs H Q E →
    codeAny (model P w) A (.call (.ref f) args) (CR CX outer P w H s Q E) s
theorem FnOk.mono {P : Program} {w : World} {K : PySem.W.Frag} {mg : Str → Option Value} {base : Heap} {CX : CXT} {j k : Nat} {f : Addr} {fd : FuncData} {ps : List Str} {sp : Sp} (F : FnOk P w K mg base CX j f fd ps sp) (h : j ≤ k) :
    FnOk P w K mg base CX k f fd ps sp := ⟨F.len, fun A outer s H args us vs Q E hr => F.run A outer s H args us vs Q E (hr.mono h)⟩
/-- a weaker promise -/
theorem FnOk.imp {P : Program} {w : World} {K : PySem.W.Frag} {mg : Str → Option Value} {base : Heap} {CX : CXT} {k : Nat} {f : Addr} {fd : FuncData} {ps : List Str} {sp sp' : Sp} (F : FnOk P w K mg base CX k f fd ps sp)
    (h : ∀ vs H Q E, sp' vs H Q E → sp vs H Q E) : FnOk P w K mg base CX k f fd ps sp' :=
  ⟨fun vs H Q E q => F.len vs H Q E (h _ _ _ _ q), fun A outer s H args us vs Q E hr he hb hv hs => F.run A outer s H args us vs Q E hr he hb hv (h _ _ _ _ hs)⟩

theorem Env0.make {P : Program} {w : World} {K : PySem.W.Frag} {mg : Str → Option Value} {base : Heap} {A : Around} {outer : List Env} {s : Shared} {H : Hp} (e : Env0 P w K mg base A outer s H) (C : Addr) (us : List Value) (kw : List (Str × Value)) :
    Env0 P w K mg base (A.under (.builtin "type.__call__" ⟨.ref C :: us, kw⟩)) outer s H := ⟨by first | exact e.frames | (simpa [Around.under, Code.envs, Code.isFrame, pushEnvs] using e.frames), e.mod, e.bs, e.bsz, e.funs, e.frf, e.hok, e.bare⟩
theorem Env0.in1 {P : Program} {w : World} {K : PySem.W.Frag} {mg : Str → Option Value} {base : Heap} {A : Around} {outer : List Env} {s : Shared} {H : Hp} (e : Env0 P w K mg base A outer s H) :
    Env0 P w K mg base A.in1 outer s H := ⟨e.frames, e.mod, e.bs, e.bsz, e.funs, e.frf, e.hok, e.bare⟩

section
variable {X : Cx} {pins : List (Addr × Obj)} {σ : St} {H : Hp} {s s' : Shared}
/-- from a body: what a callee wants -/
theorem Inv.env0 (I : Inv X pins σ H s) : Env0 X.prog X.w X.K X.mg X.base X.A X.stack s H :=
  ⟨I.ok.frames, I.ok.mod, I.bs, Nat.le_trans I.ok.bsz I.sz, I.stack, I.stkFree, I.hok, I.bare⟩
/-- behind a call -/
theorem Inv.after {Q : VK} {u : Value} (I : Inv X pins σ H s) (h : CE X.stack X.prog X.w H s Q u s') : EP X pins σ Q u s' := by
  obtain ⟨v, H', os, bare, un, hok, r, q⟩ := h
  obtain ⟨hh, g, d, t, os'⟩ := s'
  obtain rfl : os' = s.os := os
  exact ⟨v, H', I.call (h' := hh) (g' := g) (d' := d) (t' := t) (ch := []) un hok bare (fun b z => absurd z (by simp)), r, q⟩
end

/-! ### calls -/
/-- f(..): the written arguments, then the defaults dvs; E: what is wanted of an exception -/
def tCall (sp : Sp) (dvs : List V) (E : XK) (t : TA) : TE := fun σ H Q => t σ H fun vs H1 => sp (vs ++ dvs) H1 Q E
/-- how the parameters are bound: us the positional arguments, kw the keywords' values by name, ds the defaults that fill up -/
def Binds (K : PySem.W.Frag) (fd : FuncData) (ps : List Str) (ds : List Value) : Prop :=
  ∀ (s : Shared) (us : List Value), K.In s.heap → (us ++ ds).length = ps.length → BindsTo s fd ⟨us, []⟩ (ps.zip (us ++ ds))
/-- every parameter is given -/
theorem Binds.all {K : PySem.W.Frag} {fd : FuncData} {ps : List Str} (h : ∀ us : List Value, us.length = ps.length → bindArgs fd ⟨us, []⟩ = pure (ps.zip us)) : Binds K fd ps [] := fun s us _ hl => by
  rw [List.append_nil] at hl ⊢
  exact .of_eq (h us hl)

/-- an exception of a callee reaches what this body wants of exceptions -/
def Passes (CX : CXT) (X : Cx) (E : XK) : Prop := ∀ (pins : List (Addr × Obj)) (σ : St) (H : Hp) (s : Shared) (e : Value) (s' : Shared), Inv X pins σ H s → CX X.stack H s E e s' → X.xe e s'

section
variable {X : Cx} {CX : CXT} {k : Nat} {f C : Addr} {fd : FuncData} {ps : List Str} {sp : Sp} {dvs : List V} {ds : List Value} {E : XK} {x m : Str} {p pos apos : Pos} {e o : Expr} {es : List Expr} {ta : TE} {t : TA}

/-- the callee runs -/
theorem run_fn {pins : List (Addr × Obj)} {σ : St} {H : Hp} {s : Shared} {Q : VK} {us : List Value} {vs : List V} (F : FnOk X.prog X.w X.K X.mg X.base CX k f fd ps sp) (hr : Room k X.A) (hb : Binds X.K fd ps ds) (hd : Vals dvs ds) (hx : Passes CX X E)
    (I : Inv X pins σ H s) (r : Vals vs us) (h : sp (vs ++ dvs) H Q E) : wpAny (model X.prog X.w) X.A (call (.ref f) us) (EP X pins σ Q) X.xe s := by
  have r2 : Vals (vs ++ dvs) (us ++ ds) := r.append hd
  have hl : (us ++ ds).length = ps.length := by rw [← r2.length]; exact F.len _ _ _ _ h
  refine wpAny_call (codeAny_mono (F.run X.A X.stack s H ⟨us, []⟩ (us ++ ds) (vs ++ dvs) Q E hr I.env0 (hb s us I.kIn hl) r2 h) fun r s' hq => ?_)
  cases r with
  | error e => exact hx pins σ H s e s' I hq
  | ok fl =>
    cases fl with
    | ret u => exact I.after hq
    | next => exact False.elim hq
    | brk => exact False.elim hq
    | cont => exact False.elim hq

theorem pe_call (F : FnOk X.prog X.w X.K X.mg X.base CX k f fd ps sp) (hr : Room k X.A) (hg : Gl X x) (hm : X.mg x = some (.ref f)) (hk : PySem.W.keepIn X.K (.ref f) = true) (hb : Binds X.K fd ps ds) (hd : Vals dvs ds) (hx : Passes CX X E)
    (ha : PA X (e :: es) t) (hdb : (x == ("__debug__" : Str)) = false := by decide) (he : starEach (e :: es) X.env = (false, eval e X.env) :: starEach es X.env := by rfl) (hpl : (backTo pos (starEach es X.env)).any (·.1) = false := by rfl) :
    PE X (.Call (.Name x p) (e :: es) [] pos) (tCall sp dvs E t) := by
  intro pins s σ H Q I h
  refine wpAny_Call_Name_kw (ld_glob I hg hm ?_ hdb)
  refine PySem.W.callWith_K (h₀ := X.base) I.ok.mod.kin hk (thn (ha pos pins s σ H _ I h) fun us s1 ⟨vs, H1, I1, r, q⟩ => ⟨I1.kIn, ?_⟩) he hpl
  exact run_fn F hr hb hd hx I1 r q
/-- what a class must have to be made -/
structure Mk (K : PySem.W.Frag) (C f : Addr) : Prop where
  makes : PySem.W.makesIn K C = true
  init : PySem.W.findIn K (.ref C) "__init__" = some (some (.ref f))
  fn : PySem.W.isFn K (.ref f) = true
  kp : PySem.W.keepIn K (.ref C) = true

end

/-! ### keywords -/
section
variable {X : Cx} {CX : CXT} {k : Nat} {f C : Addr} {fd : FuncData} {ps ks : List Str} {sp : Sp} {E : XK} {x m : Str} {p pos apos kpos : Pos} {e o : Expr} {es : List Expr} {kws : List Keyword} {te ta : TE} {t tk : TA} {nm : Option Str}
/-- how a call with keywords binds: g puts the positional values us and the keywords' values ws (names ks) in the parameters' order, defaults among them -/
structure KBinds (K : PySem.W.Frag) (fd : FuncData) (ps ks : List Str) (g : List Value → List Value → List Value) (gV : List V → List V → List V) : Prop where
  to : ∀ (s : Shared) (us ws : List Value), K.In s.heap → (g us ws).length = ps.length → BindsTo s fd ⟨us, ks.zip ws⟩ (ps.zip (g us ws))
  rel : ∀ {vs : List V} {us : List Value} {zs : List V} {ws : List Value}, Vals vs us → Vals zs ws → Vals (gV vs zs) (g us ws)
variable {g : List Value → List Value → List Value} {gV : List V → List V → List V}
end

/-! ### a def's body keeps its promise -/
/-- names: the parameters first -/
structure FnScope (N P : List Str) (sc : Scope) : Prop where
  kind : sc.kind = .function
  co : sc.isCoroutine = false
  gen : sc.isGenerator = false
  nd : N.Nodup
  pre : N.take P.length = P
  par : ∀ x ∈ P, sc.names.lookup x = some .local ∨ sc.names.lookup x = some .cell
  nofree : ∀ y ∈ sc.names, y.2 ≠ .free

theorem bindL_out {kindOf : Str → Option NameKind} {x : Str} : ∀ {binds : List (Str × Value)} {m : Str → Option Value}, (∀ v, (x, v) ∉ binds) → bindL kindOf binds m x = m x
  | [], _, _ => rfl
  | (n, v) :: r, m, h => by
    unfold bindL
    rw [bindL_out fun w hw => h w (List.mem_cons_of_mem _ hw)]
    split
    · have : x ≠ n := by rintro rfl; exact h v List.mem_cons_self
      simp [this]
    · rfl
theorem bindC_out {kindOf : Str → Option NameKind} {x : Str} : ∀ {binds : List (Str × Value)} {m : Str → Option Value}, (∀ v, (x, v) ∉ binds) → bindC kindOf binds m x = m x
  | [], _, _ => rfl
  | (n, v) :: r, m, h => by
    unfold bindC
    rw [bindC_out fun w hw => h w (List.mem_cons_of_mem _ hw)]
    split
    · rfl
    · have : x ≠ n := by rintro rfl; exact h v List.mem_cons_self
      simp [this]
theorem bindL_get {kindOf : Str → Option NameKind} {x : Str} {v : Value} : ∀ {P : List Str} {vs : List Value} {i : Nat} {m : Str → Option Value}, P.Nodup → P[i]? = some x → vs[i]? = some v → kindOf x = some .local →
    bindL kindOf (P.zip vs) m x = some v
  | [], _, _, _, _, h, _, _ => by simp at h
  | _ :: _, [], _, _, _, _, h, _ => by simp at h
  | p :: P, w :: vs, 0, m, nd, h1, h2, hk => by
    simp at h1 h2; subst h1; subst h2
    show bindL kindOf ((p, w) :: P.zip vs) m p = _
    unfold bindL
    rw [bindL_out fun v hv => (List.nodup_cons.mp nd).1 (List.of_mem_zip hv).1, if_pos hk]
    simp
  | p :: P, w :: vs, i + 1, m, nd, h1, h2, hk => by
    show bindL kindOf ((p, w) :: P.zip vs) m x = _
    unfold bindL
    exact bindL_get (i := i) (List.nodup_cons.mp nd).2 (by simpa using h1) (by simpa using h2) hk
theorem bindC_get {kindOf : Str → Option NameKind} {x : Str} {v : Value} : ∀ {P : List Str} {vs : List Value} {i : Nat} {m : Str → Option Value}, P.Nodup → P[i]? = some x → vs[i]? = some v → kindOf x ≠ some .local →
    bindC kindOf (P.zip vs) m x = some v
  | [], _, _, _, _, h, _, _ => by simp at h
  | _ :: _, [], _, _, _, _, h, _ => by simp at h
  | p :: P, w :: vs, 0, m, nd, h1, h2, hk => by
    simp at h1 h2; subst h1; subst h2
    show bindC kindOf ((p, w) :: P.zip vs) m p = _
    unfold bindC
    rw [bindC_out fun v hv => (List.nodup_cons.mp nd).1 (List.of_mem_zip hv).1, if_neg hk]
    simp
  | p :: P, w :: vs, i + 1, m, nd, h1, h2, hk => by
    show bindC kindOf ((p, w) :: P.zip vs) m x = _
    unfold bindC
    exact bindC_get (i := i) (List.nodup_cons.mp nd).2 (by simpa using h1) (by simpa using h2) hk

/-- the names' values at the entry -/
def start (N : List Str) (vs : List V) : St := vs.map some ++ List.replicate (N.length - vs.length) none

/-- the context of a def's body, at its entry; an exception leaves the frame, then lies as CX says -/
def cxOf (CX : CXT) (P : Program) (w : World) (K : PySem.W.Frag) (mg : Str → Option Value) (base : Heap) (N : List Str) (qual : Str) (scope : Scope) (f : Addr) (cd : Value) (A : Around) (outer : List Env) (s : Shared) (H : Hp) (E : XK) : Cx where
  prog := P
  w := w
  K := K
  mg := mg
  base := base
  A := A.deeper (envOfC qual scope s.heap.objs.size f cd)
  N := N
  s_0 := s
  H_0 := H
  env := envOfC qual scope s.heap.objs.size f cd
  outer := outer
  stack := envOfC qual scope s.heap.objs.size f cd :: outer
  ex := []
  calm := true
  fn := fun _ => true
  pn := []
  xe := fun e s' => wpAny (model P w) (A.deeper (envOfC qual scope s.heap.objs.size f cd)) (leaving (envOfC qual scope s.heap.objs.size f cd) e) (fun _ s'' => CX outer H s E e s'') (fun e' s'' => CX outer H s E e' s'') s'

theorem cell_has {sc : Scope} {n : Nat} {x : Str} (h : sc.names.lookup x = some .cell) : ∃ c, (cellsFrom n sc.names []).lookup x = some c := by
  have q := PySem.W.cellsFrom_some sc.names n [] (.inl h)
  exact Option.isSome_iff_exists.mp q

theorem inv_start {CX : CXT} {P : Program} {w : World} {K : PySem.W.Frag} {mg : Str → Option Value} {base : Heap} {N ps : List Str} {qual : Str} {scope : Scope} {f : Addr} {cd : Value} {A : Around} {outer : List Env} {s s1 : Shared} {H : Hp} {E : XK} {us : List Value} {vs : List V}
    (S : FnScope N ps scope) (hd : A.handled = none) (e0 : Env0 P w K mg base A outer s H) (hl : vs.length = ps.length) (r : Vals vs us)
    (x : InCallC s s.heap.objs.size (bindL (envOfC qual scope s.heap.objs.size f cd).kindOf (ps.zip us) fun _ => none) (cellsFrom (s.heap.objs.size + 1) scope.names []) (bindC (envOfC qual scope s.heap.objs.size f cd).kindOf (ps.zip us) fun _ => none) s1) :
    Inv (cxOf CX P w K mg base N qual scope f cd A outer s H E) [] (start N vs) H s1 := by
  have hpl : ps.length ≤ N.length := by have := congrArg List.length S.pre; rw [List.length_take] at this; omega
  obtain ⟨h1, tk, rfl, hk⟩ := x.done
  have noA : ∀ b : Addr, b ∉ (cxOf CX P w K mg base N qual scope f cd A outer s H E).ex := fun b z => absurd (show b ∈ ([] : List Addr) from z) (by simp)
  refine ⟨⟨e0.mod, S.kind, rfl, rfl, Nat.le_refl _, fun y z c h1 h2 => ?_, fun y hy => ?_, fun y c _ h => ?_, fun _ => hd, Around.frames_deeper e0.frames, .inr ⟨rfl, rfl⟩, fun b z => absurd z (noA b), e0.bs, e0.bsz, fun b _ _ => noA b, fun b z => absurd z (noA b), e0.funs, e0.frf⟩,
    rfl, e0.bare, Un.kept hk, ⟨_, x.toInCall.ns, fun i y v h1 h2 h3 => ?_⟩, fun y c h => ⟨_, x.cell y c h⟩, e0.hok.fresh (Nat.le_refl _), fun y c h => ?_, fun p hp => absurd (show p ∈ ([] : List (Addr × Obj)) from hp) (by simp), e0.hok.kept hk, ?_⟩
  · exact name_of_addr x.apart (PySem.mem_of_lookup h1) (PySem.mem_of_lookup h2)
  · have hy : scope.names.lookup y = some .cell ∨ scope.names.lookup y = some .free := hy
    rcases hy with hy | hy
    · exact cell_has hy
    · exact absurd rfl (S.nofree _ (PySem.mem_of_lookup hy))
  · exact Nat.le_of_lt (x.above y c (PySem.mem_of_lookup h))
  · have hi : i < vs.length := by
      unfold start at h2
      by_cases hi : i < vs.length
      · exact hi
      · rw [List.getElem?_append_right (by simpa using hi)] at h2
        rw [List.getElem?_replicate] at h2
        split at h2 <;> cases h2
    have ha : vs[i]? = some v := by
      unfold start at h2
      rw [List.getElem?_append_left (by simpa using hi), List.getElem?_map] at h2
      cases e : vs[i]? with
      | none => rw [e] at h2; cases h2
      | some a => rw [e] at h2; cases h2; rfl
    obtain ⟨u, hu, rv⟩ := r.get ha
    have hp : ps[i]? = some y := by
      rw [← S.pre, List.getElem?_take_of_lt (by omega)]; exact h1
    have ndP : ps.Nodup := by rw [← S.pre]; exact S.nd.sublist (List.take_sublist _ _)
    refine ⟨u, rv, ?_⟩
    rcases S.par y (List.mem_of_getElem? hp) with k | k
    · exact .inl ⟨k, bindL_get ndP hp hu k⟩
    · obtain ⟨c, e⟩ := cell_has (n := s.heap.objs.size + 1) k
      refine .inr ⟨.inl k, c, e, ?_⟩
      have q := x.cell y c e
      rw [bindC_get ndP hp hu (by show scope.names.lookup y ≠ _; rw [k]; decide)] at q
      exact q
  · exact e0.hok.fresh (Nat.le_of_lt (x.above y c (PySem.mem_of_lookup h)))
  · unfold start
    show _ = N.length
    rw [List.length_append, List.length_map, List.length_replicate]
    omega

/-- THE RULE: a def (or a method) of the text, by its body. The body's reading t is chosen for each entry; it is run at the parameters' values -/
theorem fn_of {CX : CXT} {P : Program} {w : World} {K : PySem.W.Frag} {mg : Str → Option Value} {base : Heap} {k : Nat} {f : Addr} {name qual : Str} {params : Arguments} {body : List Stmt} {scope : Scope} {dV kV doc pm cdv ct oc : Value} {an od : Option Addr}
    {osl : Array (Option Value)} {N ps : List Str} {sp : Sp} (lk : K.lookup f = some ⟨oc, od, .func (PySem.W.fnOf name qual params body scope dV kV doc pm an cdv ct), osl⟩) (hcd : PySem.W.codeIn K cdv qual = true) (S : FnScope N ps scope)
    (len : ∀ vs H Q E, sp vs H Q E → vs.length = ps.length)
    (hbody : ∀ (A : Around) (outer : List Env) (s : Shared) (H : Hp) (vs : List V) (Q : VK) (E : XK), Room k (A.deeper (envOfC qual scope s.heap.objs.size f cdv)) → sp vs H Q E →
      ∃ t, PSs (cxOf CX P w K mg base N qual scope f cdv A outer s H E) body t ∧ t { nx := fun _ H' => Q .non H', rt := Q } (start N vs) H) :
    FnOk P w K mg base CX (k + 1) f (PySem.W.fnOf name qual params body scope dV kV doc pm an cdv ct) ps sp := by
  refine ⟨len, fun A outer s H args us vs Q E hr e0 hb r hsp => ?_⟩
  have hl := len _ _ _ _ hsp
  have KX : K.In s.heap := e0.mod.kin.keeps fun b o e => (e0.bs b o e).1
  have lim : s.heap.NoLimit := e0.mod.nolimit.keeps fun b o e => (e0.bs b o e).1
  have hkind : ∀ y ∈ ps.zip us, scope.names.lookup y.1 = some .local ∨ (scope.names.lookup y.1 = some .cell ∧ ((cellsFrom (s.heap.objs.size + 1) scope.names []).lookup y.1).isSome = true) := fun ⟨n, v⟩ hy => by
    rcases S.par n (List.of_mem_zip hy).1 with q | q
    · exact .inl q
    · exact .inr ⟨q, PySem.W.cellsFrom_some _ _ _ (.inl q)⟩
  refine codeAny_call_function hr.depth (KX _ _ lk) rfl S.co S.gen rfl (PySem.W.codeRec_of KX hcd) (hb _ _ _ _ ?_)
  refine wpAny_newFunctionEnv_cells S.kind hkind fun env he s1 x => ?_
  subst he
  refine ⟨lim.keeps x.toInCall.keep, codeAny_func ?_⟩
  obtain ⟨t, ht, hq⟩ := hbody A outer s H vs Q E (hr.deeper _) hsp
  have I : Inv (cxOf CX P w K mg base N qual scope f cdv A outer s H E) [] (start N vs) H s1 := inv_start S hr.hd e0 hl r x
  refine wpAny_mono (ht [] s1 (start N vs) H _ I hq) (fun fl s' hs => ?_) fun e s' hs => hs
  have fin : ∀ {σ' : St} {H' : Hp} {v : V} {u : Value}, Inv (cxOf CX P w K mg base N qual scope f cdv A outer s H E) [] σ' H' s' → RelV v u → Q v H' → CE outer P w H s Q u s' :=
    fun {σ' H' v u} J rv q => ⟨v, H', J.os, J.bare, J.base, J.hok, rv, q⟩
  cases fl with
  | ret u =>
    obtain ⟨v, σ', H', J, rv, q⟩ := hs
    exact fin J rv q
  | next =>
    obtain ⟨σ', H', J, q⟩ := hs
    exact fin (v := V.non) (u := Value.none) J rfl q
  | brk =>
    obtain ⟨_, _, _, q⟩ := hs
    exact False.elim q
  | cont =>
    obtain ⟨_, _, _, q⟩ := hs
    exact False.elim q
end L2

namespace L2
open PySem PySem.Spec PyProof.Rows
section
variable {X : Cx} {x : Str} {p pos : Pos} {e : Expr} {es : List Expr} {t : TA} {id T : String} {r : List V → Hp → VK → Prop}

def tCB (r : List V → Hp → VK → Prop) (t : TA) : TE := fun σ H Q => t σ H fun vs H1 => r vs H1 Q
/-- f(e, ..), f a built-in function -/
theorem pe_callB (hc : CallR X (.builtin id) r) (hg : Gl X x) (hm : X.mg x = none) (hv : bootBuiltins x = some (.builtin id)) (ha : PA X (e :: es) t) (hn : x ≠ "__name__" := by decide) (hdb : (x == ("__debug__" : Str)) = false := by decide)
    (he : starEach (e :: es) X.env = (false, eval e X.env) :: starEach es X.env := by rfl) (hpl : (backTo pos (starEach es X.env)).any (·.1) = false := by rfl) : PE X (.Call (.Name x p) (e :: es) [] pos) (tCB r t) := by
  intro pins s σ H Q I h
  refine wpAny_Call_Name_kw (ld_blt I hg hm hv ?_ hn hdb)
  exact PyProof.Rows.callWith_builtin1 (thn (ha pos pins s σ H _ I h) fun us s1 ⟨vs, H1, I1, r1, q1⟩ => hc pins s1 σ H1 vs us Q I1 r1 q1) he hpl
/-- T(e, ..), T a built-in type -/
theorem pe_callTy (hc : CallR X (.type T) r) (hg : Gl X x) (hm : X.mg x = none) (hv : bootBuiltins x = some (.type T)) (ha : PA X (e :: es) t) (hn : x ≠ "__name__" := by decide) (hdb : (x == ("__debug__" : Str)) = false := by decide)
    (he : starEach (e :: es) X.env = (false, eval e X.env) :: starEach es X.env := by rfl) (hpl : (backTo pos (starEach es X.env)).any (·.1) = false := by rfl) : PE X (.Call (.Name x p) (e :: es) [] pos) (tCB r t) := by
  intro pins s σ H Q I h
  refine wpAny_Call_Name_kw (ld_blt I hg hm hv ?_ hn hdb)
  exact PyProof.Rows.callWith_type1 (thn (ha pos pins s σ H _ I h) fun us s1 ⟨vs, H1, I1, r1, q1⟩ => hc pins s1 σ H1 vs us Q I1 r1 q1) he hpl
end
end L2

namespace HT
open PySem PyProof.Rows

section
open PySem.SeqAt
open PySem.AutoSeq1 (wpAny_loadPart')
open PySem.MeetsSeq PySem.MeetsSeq2 PySem.MeetsSeq3

end

section
variable {prog : Program} {w : World} {A : Around} {E : Value → Shared → Prop} {s : Shared}

/-! ### t[a:b], not the whole -/
/-- a slice's bound as a place among n (d where it is left out) -/
def sIx (n d : Nat) : Option Int → Nat
  | none => d
  | some v => if v < 0 then (v + (n : Int)).toNat else min v.toNat n
theorem sIx_le (n d : Nat) (hd : d ≤ n) (o : Option Int) : sIx n d o ≤ n := by
  cases o with
  | none => exact hd
  | some v =>
    show (if v < 0 then (v + (n : Int)).toNat else min v.toNat n) ≤ n
    by_cases hv : v < 0
    · rw [if_pos hv]; omega
    · rw [if_neg hv]; exact Nat.min_le_right _ _
end
end HT

namespace L2
open PySem PySem.Spec PyProof.Rows

/-! ### the parts of a slice -/
abbrev TO := St → Hp → (Option Int → Hp → Prop) → Prop
/-- a slice's part (left out, or an int) -/
def PO (X : Cx) (e : Option Expr) (t : TO) : Prop :=
  ∀ (pins : List (Addr × Obj)) (s : Shared) (σ : St) (H : Hp) (Q : Option Int → Hp → Prop), Inv X pins σ H s → t σ H Q →
    wpAny (model X.prog X.w) X.A (evalPart e X.env) (fun u s' => ∃ o H', Inv X pins σ H' s' ∧ IsPart u o ∧ Q o H') X.xe s
def tNoPart : TO := fun _ H Q => Q none H
def tPart (t : TE) : TO := fun σ H Q => t σ H fun x H1 => ∃ i, x = .int i ∧ Q (some i) H1

section
variable {X : Cx} {e : Expr} {te : TE} {lo hi : Option Expr} {tl th : TO} {pos p2 : Pos}

theorem po_none : PO X none tNoPart := by
  intro pins s σ H Q I h
  rw [evalPart_none]
  exact wpAny_pure ⟨none, H, I, .none, h⟩
theorem po_some (h : PE X e te) : PO X (some e) (tPart te) := by
  intro pins s σ H Q I hw
  rw [evalPart_some]
  refine thn (h pins s σ H _ I hw) fun u s1 ⟨x, H1, I1, r1, q1⟩ => ?_
  obtain ⟨i, rfl, q⟩ := q1
  obtain ⟨t, rfl⟩ := r1
  exact ⟨some i, H1, I1, .int i t, q⟩

/-- what a slice of a value is, by values: the slice object stands at sl -/
def SlR (X : Cx) (r : V → Option Int → Option Int → Hp → VK → Prop) : Prop :=
  ∀ (pins : List (Addr × Obj)) (s : Shared) (σ : St) (H : Hp) (x : V) (v vl vu : Value) (lo hi : Option Int) (sl : Addr) (Q : VK), Inv X pins σ H s → RelV x v → s.heap.IsSliceOf sl vl vu .none → IsPart vl lo → IsPart vu hi → r x lo hi H Q →
    ∃ T id, typeLookup (.type T) "__getitem__" = pure (some (.builtin id)) ∧ s.TypeIs v T ∧ wpAny (model X.prog X.w) X.A (getItem v (.ref sl)) (EP X pins σ Q) X.xe s
theorem SlR.or {r r' : V → Option Int → Option Int → Hp → VK → Prop} (h : SlR X r) (h' : SlR X r') : SlR X (fun x lo hi H Q => r x lo hi H Q ∨ r' x lo hi H Q) := by
  intro pins s σ H x v vl vu lo hi sl Q I rx hs pl pu q
  rcases q with q | q
  · exact h pins s σ H x v vl vu lo hi sl Q I rx hs pl pu q
  · exact h' pins s σ H x v vl vu lo hi sl Q I rx hs pl pu q
def tSl (r : V → Option Int → Option Int → Hp → VK → Prop) (te : TE) (tl th : TO) : TE := fun σ H Q => te σ H fun x H1 => tl σ H1 fun l H2 => th σ H2 fun u H3 => r x l u H3 Q
/-- a[lo:hi], any a -/
theorem pe_slice {r : V → Option Int → Option Int → Hp → VK → Prop} (hr : SlR X r) (he : PE X e te) (hl : PO X lo tl) (hu : PO X hi th) : PE X (.Subscript e (.Slice lo hi none p2) pos) (tSl r te tl th) := by
  intro pins s σ H Q I h
  refine Subscript_ (thn (he pins s σ H _ I h) fun v s1 ⟨x, H1, I1, r1, q1⟩ => ?_)
  refine wpAny_Slice (thn (hl pins s1 σ H1 _ I1 q1) fun vl s2 ⟨l, H2, I2, pl, q2⟩ => thn (hu pins s2 σ H2 _ I2 q2) fun vu s3 ⟨u, H3, I3, pu, q3⟩ => ?_)
  rw [evalPart_none]
  refine wpAny_pure ?_
  have I4 : Inv X pins σ H3 { s3 with heap := s3.heap.push { cls := .type "slice", data := .fields #[vl, vu, .none] } } := I3.kept (t' := s3.toks) fun b ob q => Heap.get?_push_of_some _ q
  obtain ⟨T, id, hT, ht, hg⟩ := hr pins { s3 with heap := s3.heap.push { cls := .type "slice", data := .fields #[vl, vu, .none] } } σ H3 x v vl vu l u s3.heap.objs.size Q I4 r1 (Heap.IsSliceOf.new ..) pl pu q3
  show wpAny (model X.prog X.w) X.A (subscriptTail e (.Slice lo hi none p2) v (.ref s3.heap.objs.size)) (EP X pins σ Q) X.xe { s3 with heap := s3.heap.push { cls := .type "slice", data := .fields #[vl, vu, .none] } }
  exact tail_any (ops := [.ref s3.heap.objs.size, v]) ht hT hg (by with_unfolding_all rfl)

/-- the items of xs[lo:hi] -/
def cutV (xs : List V) (lo hi : Option Int) : List V := (xs.drop (HT.sIx xs.length 0 lo)).take (HT.sIx xs.length xs.length hi - HT.sIx xs.length 0 lo)
theorem cutV_length (xs : List V) (lo hi : Option Int) : (cutV xs lo hi).length ≤ xs.length := by
  unfold cutV
  rw [List.length_take, List.length_drop]
  omega
/-! ### t < u, t + u -/
end
end L2

namespace L2
open PySem PySem.Spec PyProof.Rows

/-! ### places -/
/-- the place that an index of any sign means -/
def ixN (n : Nat) (i : Int) : Option Nat := if 0 ≤ i then (if i < n then some i.toNat else none) else if -(n : Int) ≤ i then some (i + n).toNat else none
def atI {α : Type} (xs : List α) (i : Int) : Option α := (ixN xs.length i).bind fun j => xs[j]?
theorem ixN_seq {n : Nat} {i : Int} {j : Nat} (h : ixN n i = some j) : seqIndex? i n = some j ∧ j < n ∧ -(n : Int) ≤ i ∧ i < n := by
  unfold ixN at h
  by_cases h0 : 0 ≤ i
  · rw [if_pos h0] at h
    by_cases h1 : i < n
    · rw [if_pos h1] at h
      have e : i.toNat = j := Option.some.inj h
      exact ⟨by rw [seqIndex_of h0 h1, e], by omega, by omega, h1⟩
    · rw [if_neg h1] at h; cases h
  · rw [if_neg h0] at h
    by_cases h1 : -(n : Int) ≤ i
    · rw [if_pos h1] at h
      have e : (i + n).toNat = j := Option.some.inj h
      exact ⟨by rw [seqIndex_neg (by omega) h1, e], by omega, h1, by omega⟩
    · rw [if_neg h1] at h; cases h
theorem atI_get {α : Type} {xs : List α} {i : Int} {v : α} (h : atI xs i = some v) : ∃ j, seqIndex? i xs.length = some j ∧ xs[j]? = some v ∧ j < xs.length ∧ -(xs.length : Int) ≤ i ∧ i < xs.length := by
  unfold atI at h
  cases e : ixN xs.length i with
  | none => rw [e] at h; cases h
  | some j =>
    rw [e] at h
    obtain ⟨h1, h2, h3, h4⟩ := ixN_seq e
    exact ⟨j, h1, h, h2, h3, h4⟩
theorem atI_nat {α : Type} {xs : List α} {j : Nat} {v : α} (h : xs[j]? = some v) : atI xs (j : Int) = some v := by
  have hj : j < xs.length := (List.getElem?_eq_some_iff.mp h).1
  have e : ixN xs.length (j : Int) = some j := by
    unfold ixN
    rw [if_pos (by omega), if_pos (by omega)]; simp
  unfold atI; rw [e]; exact h
/-! ### what may be subscripted -/
/-- what stands as an index of a plain subscript -/
def PlainIx (b : Expr) : Prop := ∀ o i, subscripted b false o i = operate [o, i] (getItem o i)
/-- a subscript by values -/
def IxR (X : Cx) (r : R2) : Prop :=
  ∀ (value slice : Expr) (pins : List (Addr × Obj)) (s : Shared) (σ : St) (H : Hp) (x y : V) (v u : Value) (Q : VK), Inv X pins σ H s → RelV x v → RelV y u → r x y H Q →
    subscripted slice false v u = operate [v, u] (getItem v u) → wpAny (model X.prog X.w) X.A (subscriptTail value slice v u) (EP X pins σ Q) X.xe s
/-- a call of a builtin's method by values: the receiver, the arguments -/
def MtR (X : Cx) (id : String) (r : V → List V → Hp → VK → Prop) : Prop :=
  ∀ (pins : List (Addr × Obj)) (s : Shared) (σ : St) (H : Hp) (x : V) (xs : List V) (v : Value) (us : List Value) (Q : VK), Inv X pins σ H s → RelV x v → Vals xs us → r x xs H Q →
    wpAny (model X.prog X.w) X.A (call (.builtin id) (v :: us)) (EP X pins σ Q) X.xe s
section
variable {X : Cx} {a b : Expr} {ta tb : TE} {pos : Pos}
theorem IxR.or {r r' : R2} (h : IxR X r) (h' : IxR X r') : IxR X (fun x y H Q => r x y H Q ∨ r' x y H Q) := by
  intro value slice pins s σ H x y v u Q I rx ry q hs
  rcases q with q | q
  · exact h value slice pins s σ H x y v u Q I rx ry q hs
  · exact h' value slice pins s σ H x y v u Q I rx ry q hs
theorem MtR.or {id : String} {r r' : V → List V → Hp → VK → Prop} (h : MtR X id r) (h' : MtR X id r') : MtR X id (fun x xs H Q => r x xs H Q ∨ r' x xs H Q) := by
  intro pins s σ H x xs v us Q I rx rs q
  rcases q with q | q
  · exact h pins s σ H x xs v us Q I rx rs q
  · exact h' pins s σ H x xs v us Q I rx rs q
/-- a[b] -/
theorem pe_ix {r : R2} (hr : IxR X r) (ha : PE X a ta) (hb : PE X b tb) (hs : PlainIx b) : PE X (.Subscript a b pos) (tOp r ta tb) := by
  intro pins s σ H Q I h
  exact Subscript_ (binT ha hb I h fun v u s2 x y H2 I2 rx ry q => hr a b pins s2 σ H2 x y v u Q I2 rx ry q (hs _ _))

def rIxL (K : PySem.W.Frag) : R2 := fun x y H Q => ∃ p xs i v, x = .ref p ∧ y = .int i ∧ SqL K H p xs ∧ atI xs i = some v ∧ Q v H
def rIxT (K : PySem.W.Frag) : R2 := fun x y H Q => ∃ p xs i v, x = .ref p ∧ y = .int i ∧ SqT K H p xs ∧ atI xs i = some v ∧ Q v H
def rIxS : R2 := fun x y H Q => ∃ z i c, x = .str z ∧ y = .int i ∧ z.length ≤ sizeLine ∧ atI z.cps.toList i = some c ∧ Q (.str ⟨#[c]⟩) H
theorem ix_list : IxR X (rIxL X.K) := by
  intro value slice pins s σ H x y v u Q I rx ry h hs
  obtain ⟨p, xs, i, z, rfl, rfl, hq, he, q⟩ := h
  cases rx
  obtain ⟨t, rfl⟩ := ry
  obtain ⟨its, r, pl, hz⟩ := I.list hq
  obtain ⟨j, h1, h2, h3, h4, h5⟩ := atI_get he
  obtain ⟨w, ew, rw'⟩ := r.get h2
  have hl := r.length
  have hn := line63
  have fin : EP X pins σ Q w s := ⟨z, H, I, rw', q⟩
  by_cases h0 : 0 ≤ i
  · have hj : i.toNat = j := by
      rw [seqIndex_of h0 h5] at h1
      exact Option.some.inj h1
    exact item_listR pl.isList h0 (by omega) (by rw [hj]; simpa using ew) fin hs
  · have hj : (i + (its.toArray.size : Int)).toNat = j := by
      rw [seqIndex_neg (by omega) h4] at h1
      rw [List.size_toArray, ← hl]
      exact Option.some.inj h1
    exact subscriptTail_builtinR (x := w) pl.isList.typeIs slot_list_getitem.lookup
      (wpAny_getItem_list_neg (Q := fun r s' => r = w ∧ EP X pins σ Q r s') pl.isList (by omega) (by rw [List.size_toArray] <;> omega) (by omega) (by rw [hj]; simpa using ew) ⟨rfl, fin⟩) hs
theorem ix_tup : IxR X (rIxT X.K) := by
  intro value slice pins s σ H x y v u Q I rx ry h hs
  obtain ⟨p, xs, i, z, rfl, rfl, hq, he, q⟩ := h
  cases rx
  obtain ⟨t, rfl⟩ := ry
  obtain ⟨its, r, pl, hz⟩ := I.tuple hq
  obtain ⟨j, h1, h2, h3, h4, h5⟩ := atI_get he
  obtain ⟨w, ew, rw'⟩ := r.get h2
  have hl := r.length
  have hn := line63
  have fin : EP X pins σ Q w s := ⟨z, H, I, rw', q⟩
  exact subscriptTail_builtinR (x := w) pl.typeIs slot_tuple_getitem.lookup
    (getItem_tuple (j := j) (Q := fun r s' => r = w ∧ EP X pins σ Q r s') pl (by omega) (by omega) (by rw [List.size_toArray, ← hl]; exact h1) (by simpa using ew) ⟨rfl, fin⟩) hs
theorem ix_str : IxR X rIxS := by
  intro value slice pins s σ H x y v u Q I rx ry h hs
  obtain ⟨z, i, c, rfl, rfl, hz, he, q⟩ := h
  obtain ⟨t, rfl⟩ := rx
  obtain ⟨t', rfl⟩ := ry
  obtain ⟨j, h1, h2, h3, h4, h5⟩ := atI_get he
  have hl : z.cps.toList.length = z.length := by simp [Str.length]
  rw [hl] at h1 h4 h5
  have hn := line63
  exact tail_any (typeIs_str s z t) slot_str_getitem.lookup (getItem_str (c := c) (by
    have e1 : decide (i < -(2 ^ 63 : Int)) = false := decide_eq_false (by omega)
    have e2 : decide (i ≥ 2 ^ 63) = false := decide_eq_false (by omega)
    rw [e1, e2, Bool.or_false]) (by rw [h1]; simpa using h2) ⟨.str ⟨#[c]⟩, H, I.tok _, ⟨_, rfl⟩, q⟩) hs
/-! ### xs[i] = v, any sign -/
/-- the list's object behind a store -/
theorem mapSeq_set (its : List Value) (n j : Nat) (u : Value) : Obj.mapSeq (·.setIfInBounds j u) { cls := .type "list", data := .seq its.toArray n } = { cls := .type "list", data := .seq (its.set j u).toArray n } := by
  simp [Obj.mapSeq]
theorem Inv.lst {pins : List (Addr × Obj)} {σ : St} {H : Hp} {s : Shared} {p : Addr} {xs : List V} (I : Inv X pins σ H s) (h : H p = some (.lst xs)) :
    ∃ (its : List Value) (n : Nat), Vals xs its ∧ s.heap.get? p = some { cls := .type "list", data := .seq its.toArray n } ∧ xs.length ≤ sizeLine := by
  obtain ⟨z, its, n, r, e⟩ := I.hok p _ h
  exact ⟨its, n, r, e, z⟩
/-- the list at p is written by an update of its object -/
theorem Inv.lstUpd {pins : List (Addr × Obj)} {σ : St} {H : Hp} {s : Shared} {p : Addr} {xs ys : List V} {its its' : List Value} {n n' : Nat} {f : Obj → Obj} (I : Inv X pins σ H s) (h : H p = some (.lst xs))
    (ho : s.heap.get? p = some { cls := .type "list", data := .seq its.toArray n }) (hf : f { cls := .type "list", data := .seq its.toArray n } = { cls := .type "list", data := .seq its'.toArray n' }) (r : Vals ys its') (hz : ys.length ≤ sizeLine) (t : Nat) :
    Inv X pins σ (upd H p (.lst ys)) { s with heap := s.heap.update p f, toks := t } := by
  have e : (s.heap.update p f).get? p = some { cls := .type "list", data := .seq its'.toArray n' } := by
    rw [Heap.get?_update_self f ho (by rw [hf] <;> rfl), hf]
  refine I.write (x := p) (e := p) (by rw [h]; trivial) (.inl rfl) (fun b u hb q => (Heap.get?_update_other _ _ (Ne.symm hb)).trans q) ⟨_, e⟩ ?_
  exact ⟨hz, its', n', r, e⟩
def rSetL : V → V → V → Hp → (Hp → Prop) → Prop := fun o i v H Q => ∃ p xs k j, o = .ref p ∧ i = .int k ∧ H p = some (.lst xs) ∧ ixN xs.length k = some j ∧ Q (upd H p (.lst (xs.set j v)))
theorem set_list : PSet X rSetL := by
  intro pins s σ H o i v ov iv u Q I ro ri rv h
  obtain ⟨p, xs, k, j, rfl, rfl, hp, hj, q⟩ := h
  cases ro
  obtain ⟨t, rfl⟩ := ri
  obtain ⟨its, n, r, ho, hz⟩ := I.lst hp
  obtain ⟨h1, h2, h3, h4⟩ := ixN_seq hj
  have hl := r.length
  have hn := line63
  have I' : Inv X pins σ (upd H p (.lst (xs.set j v))) { s with heap := s.heap.update p (Obj.mapSeq (·.setIfInBounds j u)) } :=
    I.lstUpd hp ho (mapSeq_set its n j u) (r.set rv j) (by rw [List.length_set]; exact hz) s.toks
  by_cases h0 : 0 ≤ k
  · have hk : k.toNat = j := by
      rw [seqIndex_of h0 h4] at h1
      exact Option.some.inj h1
    exact PySem.W.ki_setAt ho h0 (by omega) (by rw [List.size_toArray, ← hl]; exact h4) (by rw [hk]; exact ⟨_, I', q⟩)
  · have hk : (k + (its.toArray.size : Int)).toNat = j := by
      rw [seqIndex_neg (by omega) h3] at h1
      rw [List.size_toArray, ← hl]
      exact Option.some.inj h1
    exact PySem.W.ki_setBack ho (by omega) (by rw [List.size_toArray, ← hl]; exact h3) (by omega) (by rw [hk]; exact ⟨_, I', q⟩)

/-! ### slices -/
theorem slice_bounds (lo hi : Option Int) (n : Nat) : (sliceBounds lo hi none n).1 = ((HT.sIx n 0 lo : Nat) : Int) ∧ (sliceBounds lo hi none n).2.1 = ((HT.sIx n n hi : Nat) : Int) ∧ (sliceBounds lo hi none n).2.2 = 1 := by
  refine ⟨?_, ?_, rfl⟩
  · cases lo with
    | none => simp [sliceBounds, HT.sIx]
    | some i =>
      simp only [sliceBounds, HT.sIx, Option.getD_none, show (1 : Int) > 0 by decide, if_true]
      by_cases h : i < 0
      · simp only [h, if_true] <;> omega
      · simp only [h, if_false] <;> omega
  · cases hi with
    | none => simp [sliceBounds, HT.sIx]
    | some i =>
      simp only [sliceBounds, HT.sIx, Option.getD_none, show (1 : Int) > 0 by decide, if_true]
      by_cases h : i < 0
      · simp only [h, if_true] <;> omega
      · simp only [h, if_false] <;> omega
theorem slicePick_cut (its : List Value) (lo hi : Option Int) : slicePick its.toArray lo hi none = ((its.drop (HT.sIx its.length 0 lo)).take (HT.sIx its.length its.length hi - HT.sIx its.length 0 lo)).toArray := by
  obtain ⟨h1, h2, h3⟩ := slice_bounds lo hi its.toArray.size
  unfold slicePick
  rw [h1, h2, h3]
  simp only [sliceRange_one, pick_run, List.size_toArray] <;> rfl
/-- xs[lo:hi] of a list: a new list -/
def rSlL (K : PySem.W.Frag) : V → Option Int → Option Int → Hp → VK → Prop := fun x lo hi H Q => ∃ a xs, x = .ref a ∧ SqL K H a xs ∧ ∀ p, H p = none → Q (.ref p) (upd H p (.lst (cutV xs lo hi)))
theorem sl_list : SlR X (rSlL X.K) := by
  intro pins s σ H x v vl vu lo hi sl Q I rx hs pl pu h
  obtain ⟨a, xs, rfl, hx, q⟩ := h
  cases rx
  obtain ⟨its, r, ht, hz⟩ := I.list hx
  have hlen := r.length
  refine ⟨"list", _, slot_list_getitem.lookup, ht.isList.typeIs, ?_⟩
  refine wpAny_getItem_list_slice ht.isList hs pl pu .none (by simp) ?_ (by rw [List.size_toArray] <;> omega)
  rw [slicePick_cut, ← hlen]
  refine ⟨.ref s.heap.objs.size, _, I.laid (t' := s.toks) (o := .lst (cutV xs lo hi)) (fun b ob q => Heap.get?_push_of_some _ q) (Nat.le_refl _) ?_, rfl, q _ (I.hok.fresh (Nat.le_refl _))⟩
  exact ⟨Nat.le_trans (cutV_length xs lo hi) hz, _, 0, (r.drop (HT.sIx xs.length 0 lo)).take (HT.sIx xs.length xs.length hi - HT.sIx xs.length 0 lo), Heap.get?_push_size _ rfl⟩

/-! ### in, not in: flat items -/
def flatV : V → Bool
  | .non => true
  | .bl _ => true
  | .int _ => true
  | .str _ => true
  | _ => false
/-- == of flat values -/
def eqV : V → V → Bool
  | .non, .non => true
  | .bl a, .bl b => a == b
  | .bl a, .int b => (if a then 1 else 0) == b
  | .int a, .bl b => a == (if b then 1 else 0)
  | .int a, .int b => a == b
  | .str a, .str b => a == b
  | _, _ => false
theorem eqAt_V {A : Around} {s : Shared} {y x : V} {u v : Value} (ry : RelV y u) (rx : RelV x v) (fy : flatV y = true) (fx : flatV x = true) : SeqAt.EqAt A s u v (eqV y x) := by
  cases y with
  | non =>
    cases ry
    cases x with
    | non => cases rx; exact SeqAt.EqAt.same _
    | bl b => cases rx; exact SeqAt.EqAt.none_bool b
    | int b => obtain ⟨t, rfl⟩ := rx; exact SeqAt.EqAt.none_int b t
    | str b => obtain ⟨t, rfl⟩ := rx; exact SeqAt.EqAt.none_str b t
    | _ => exact absurd (show false = true from fx) Bool.false_ne_true
  | bl a =>
    cases ry
    cases x with
    | non => cases rx; exact SeqAt.EqAt.bool_none a
    | bl b => cases rx; exact SeqAt.EqAt.bool_bool a b
    | int b => obtain ⟨t, rfl⟩ := rx; exact SeqAt.EqAt.bool_int a b t
    | str b => obtain ⟨t, rfl⟩ := rx; exact SeqAt.EqAt.bool_str a b t
    | _ => exact absurd (show false = true from fx) Bool.false_ne_true
  | int a =>
    obtain ⟨t', rfl⟩ := ry
    cases x with
    | non => cases rx; exact SeqAt.EqAt.int_none a t'
    | bl b => cases rx; exact SeqAt.EqAt.int_bool a t' b
    | int b => obtain ⟨t, rfl⟩ := rx; exact SeqAt.EqAt.int_int a t' b t
    | str b => obtain ⟨t, rfl⟩ := rx; exact SeqAt.EqAt.int_str a t' b t
    | _ => exact absurd (show false = true from fx) Bool.false_ne_true
  | str a =>
    obtain ⟨t', rfl⟩ := ry
    cases x with
    | non => cases rx; exact SeqAt.EqAt.str_none a t'
    | bl b => cases rx; exact SeqAt.EqAt.str_bool a t' b
    | int b => obtain ⟨t, rfl⟩ := rx; exact SeqAt.EqAt.str_int a t' b t
    | str b => obtain ⟨t, rfl⟩ := rx; exact SeqAt.EqAt.str_str a t' b t
    | _ => exact absurd (show false = true from fx) Bool.false_ne_true
  | _ => exact absurd (show false = true from fy) Bool.false_ne_true
/-- the items' answers, read off the values (a value's own answer does not lean on its token) -/
def eqU (x : V) (u : Value) : Bool := match u with
  | .none => eqV .non x
  | .bool b => eqV (.bl b) x
  | .int i _ => eqV (.int i) x
  | .str z _ => eqV (.str z) x
  | _ => false
theorem eqU_of {x y : V} {u : Value} (r : RelV y u) (f : flatV y = true) : eqU x u = eqV y x := by
  cases y with
  | non => cases r; rfl
  | bl b => cases r; rfl
  | int i => obtain ⟨t, rfl⟩ := r; rfl
  | str z => obtain ⟨t, rfl⟩ := r; rfl
  | _ => exact absurd (show false = true from f) Bool.false_ne_true
theorem any_eqU {x : V} : ∀ {xs : List V} {us : List Value}, Vals xs us → xs.all flatV = true → us.any (eqU x) = xs.any fun y => eqV y x
  | _, _, .nil, _ => rfl
  | y :: xs, u :: us, .cons r t, f => by
    rw [List.all_cons, Bool.and_eq_true] at f
    rw [List.any_cons, List.any_cons, eqU_of r f.1, any_eqU t f.2]
theorem mem_eqAt {A : Around} {s : Shared} {x : V} {v : Value} (rx : RelV x v) (fx : flatV x = true) : ∀ {xs : List V} {us : List Value}, Vals xs us → xs.all flatV = true → ∀ u ∈ us, SeqAt.EqAt A s u v (eqU x u)
  | _, _, .nil, _ => fun u hu => by cases hu
  | y :: xs, u :: us, .cons r t, f => fun u' hu => by
    rw [List.all_cons, Bool.and_eq_true] at f
    rcases List.mem_cons.mp hu with rfl | hu
    · rw [eqU_of r f.1]; exact eqAt_V r rx f.1 fx
    · exact mem_eqAt rx fx t f.2 u' hu
def inV (x : V) (xs : List V) : Bool := xs.any fun y => eqV y x
/-- x in a list or tuple of flat items -/
def rIn (K : PySem.W.Frag) (neg : Bool) : R2 := fun x y H Q => ∃ p xs, y = .ref p ∧ (SqL K H p xs ∨ SqT K H p xs) ∧ flatV x = true ∧ xs.all flatV = true ∧ Q (.bl (if neg then !inV x xs else inV x xs)) H
theorem op_notIn_seq : OpR X (compareOp .NotIn) (rIn X.K true) := by
  intro pins s σ H x y v u Q I rx ry h
  obtain ⟨p, xs, rfl, hq, fx, fs, q⟩ := h
  cases ry
  rcases hq with hq | hq
  · obtain ⟨its, r, pl, hz⟩ := I.list hq
    refine SeqAt.notIn_listAt (eqU x) pl.isList (fun w hw => mem_eqAt rx fx r fs w (by simpa using hw)) ⟨.bl _, H, I, rfl, ?_⟩
    rw [show its.toArray.any (eqU x) = its.any (eqU x) by simp, any_eqU r fs]
    exact q
  · obtain ⟨its, r, pl, hz⟩ := I.tuple hq
    refine SeqAt.notIn_tupleAt (eqU x) pl (fun w hw => mem_eqAt rx fx r fs w (by simpa using hw)) ⟨.bl _, H, I, rfl, ?_⟩
    rw [show its.toArray.any (eqU x) = its.any (eqU x) by simp, any_eqU r fs]
    exact q
/-! ### len, list(x), tuple(x) of any list or tuple that is read -/
theorem call_len_seq : CallR X (.builtin "len") (fun xs H Q => ∃ p ys, xs = [.ref p] ∧ (SqL X.K H p ys ∨ SqT X.K H p ys) ∧ Q (.int ys.length) H) := by
  intro pins s σ H xs us Q I r h
  obtain ⟨p, ys, rfl, hq, q⟩ := h
  obtain ⟨u, rfl, rx⟩ := vals1 r
  cases rx
  have hn := line63
  rcases hq with hq | hq
  · obtain ⟨its, r', pl, hz⟩ := I.list hq
    have hlen := r'.length
    exact Calls.call_len_list pl.isList (by simp only [List.size_toArray] <;> omega) ⟨.int ys.length, H, I.tok _, ⟨s.toks + 1, by rw [List.size_toArray, hlen]⟩, q⟩
  · obtain ⟨its, r', pl, hz⟩ := I.tuple hq
    have hlen := r'.length
    exact len_tuple pl (by simp only [List.size_toArray] <;> omega) ⟨.int ys.length, H, I.tok _, ⟨s.toks + 1, by rw [List.size_toArray, hlen]⟩, q⟩
theorem call_len_str : CallR X (.builtin "len") (fun xs H Q => ∃ z, xs = [.str z] ∧ z.length ≤ sizeLine ∧ Q (.int z.length) H) := by
  intro pins s σ H xs us Q I r h
  obtain ⟨z, rfl, hz, q⟩ := h
  obtain ⟨u, rfl, t, rfl⟩ := vals1 r
  have hn := line63
  exact len_str (by omega) ⟨.int z.length, H, I.tok _, ⟨_, rfl⟩, q⟩
theorem CallR.or {f : Value} {r r' : List V → Hp → VK → Prop} (h : CallR X f r) (h' : CallR X f r') : CallR X f (fun xs H Q => r xs H Q ∨ r' xs H Q) := by
  intro pins s σ H xs us Q I rs q
  rcases q with q | q
  · exact h pins s σ H xs us Q I rs q
  · exact h' pins s σ H xs us Q I rs q
theorem call_list_of : CallR X (.type "list") (fun xs H Q => ∃ p ys, xs = [.ref p] ∧ (SqL X.K H p ys ∨ SqT X.K H p ys) ∧ ∀ l, H l = none → Q (.ref l) (upd H l (.lst ys))) := by
  intro pins s σ H xs us Q I r h
  obtain ⟨p, ys, rfl, hq, q⟩ := h
  obtain ⟨u, rfl, rx⟩ := vals1 r
  cases rx
  have fin : ∀ (its : List Value), Vals ys its → ys.length ≤ sizeLine → ∀ (h' : Heap) (c' : Nat), (∀ b o', s.heap.get? b = some o' → h'.get? b = some o') →
      h'.get? s.heap.objs.size = some { cls := .type "list", dict := none, data := .seq its.toArray c', slots := #[] } → EP X pins σ Q (.ref s.heap.objs.size) { s with heap := h' } := fun its r' hz h' c' kp e =>
    ⟨.ref s.heap.objs.size, _, I.laid (t' := s.toks) kp (Nat.le_refl _) (show ObjOk X.prog X.w _ h' _ (.lst ys) from ⟨hz, its, c', r', e⟩), rfl, q _ (I.hok.fresh (Nat.le_refl _))⟩
  rcases hq with hq | hq
  · obtain ⟨its, r', pl, hz⟩ := I.list hq
    have hlen := r'.length
    obtain ⟨o, ho, hc, n, hd⟩ := pl.isList
    exact call_list_seq p (.inl rfl) ho hc hd (fun h' c' kp e => fin its r' hz h' c' kp e) (by simp only [List.size_toArray] <;> omega)
  · obtain ⟨its, r', pl, hz⟩ := I.tuple hq
    have hlen := r'.length
    obtain ⟨o, ho, hc, n, hd⟩ := pl
    exact call_list_seq p (.inr rfl) ho hc hd (fun h' c' kp e => fin its r' hz h' c' kp e) (by simp only [List.size_toArray] <;> omega)
theorem call_tuple_of : CallR X (.type "tuple") (fun xs H Q => ∃ p ys, xs = [.ref p] ∧ ((SqL X.K H p ys ∧ ∀ l, H l = none → Q (.ref l) (upd H l (.tup ys))) ∨ (SqT X.K H p ys ∧ Q (.ref p) H))) := by
  intro pins s σ H xs us Q I r h
  obtain ⟨p, ys, rfl, h⟩ := h
  obtain ⟨u, rfl, rx⟩ := vals1 r
  cases rx
  rcases h with ⟨hq, q⟩ | ⟨hq, q⟩
  · obtain ⟨its, r', pl, hz⟩ := I.list hq
    have hlen := r'.length
    refine call_tuple_list pl.isList (fun h' kp => ?_) (by simp only [List.size_toArray] <;> omega)
    have I1 : Inv X pins σ H { s with heap := h' } := I.kept (t' := s.toks) kp
    have I2 : Inv X pins σ (upd H h'.objs.size (.tup ys)) { s with heap := h'.push { cls := .type "tuple", data := .seq its.toArray } } :=
      I1.laid (t' := s.toks) (fun b o e => Heap.get?_push_of_some _ e) (Nat.le_refl _) (show ObjOk X.prog X.w _ _ _ (.tup ys) from ⟨hz, its, r', IsTup.new _ _⟩)
    exact ⟨.ref h'.objs.size, _, I2, rfl, q _ (I1.hok.fresh (Nat.le_refl _))⟩
  · obtain ⟨its, r', pl, hz⟩ := I.tuple hq
    exact call_tuple_same pl ⟨.ref p, H, I, rfl, q⟩

/-! ### the call of a builtin's method: o.m(..) -/
/-- the value is of that builtin type -/
def tyV (K : PySem.W.Frag) (T : String) (x : V) (H : Hp) : Prop := match x with
  | .str _ => T = "str"
  | .int _ => T = "int"
  | .ref p => (T = "list" ∧ ∃ xs, SqL K H p xs) ∨ (T = "tuple" ∧ ∃ o, K.lookup p = some o ∧ o.cls = .type "tuple" ∧ o.dict = none) ∨
      (T = "dict" ∧ ((∃ kvs, H p = some (.dK kvs)) ∨ ∃ kvs, H p = some (.dT kvs))) ∨ (T = "set" ∧ ∃ S n, H p = some (.set S n))
  | _ => False
theorem tyV_is {pins : List (Addr × Obj)} {σ : St} {H : Hp} {s : Shared} {T : String} {x : V} {v : Value} (I : Inv X pins σ H s) (r : RelV x v) (ty : tyV X.K T x H) :
    s.TypeIs v T ∧ ∀ a, v = .ref a → ∃ ob, s.heap.get? a = some ob ∧ ob.dict = none := by
  cases x with
  | str z =>
    obtain ⟨t, rfl⟩ := r
    cases (show T = "str" from ty)
    exact ⟨typeIs_str s z t, fun _ e => nomatch e⟩
  | int i =>
    obtain ⟨t, rfl⟩ := r
    cases (show T = "int" from ty)
    exact ⟨typeIs_int s i t, fun _ e => nomatch e⟩
  | ref p =>
    cases r
    rcases ty with ⟨rfl, xs, hq⟩ | ⟨rfl, o, hk, hc, hd⟩ | ⟨rfl, hk⟩ | ⟨rfl, S, n, hk⟩
    · obtain ⟨its, _, pl, _⟩ := I.list hq
      refine ⟨pl.isList.typeIs, fun a e => ?_⟩
      cases e
      obtain ⟨o, n, e, c, hd, _⟩ := pl
      exact ⟨o, e, hd⟩
    · refine ⟨⟨o, I.kIn p o hk, hc⟩, fun a e => ?_⟩
      cases e
      exact ⟨o, I.kIn _ o hk, hd⟩
    · have z : ∃ o, s.heap.get? p = some o ∧ o.ExactDict := by
        rcases hk with ⟨kvs, hk⟩ | ⟨kvs, hk⟩
        · obtain ⟨_, _, _, _, o, _, _, e, ex, _⟩ := I.hok p _ hk
          exact ⟨o, e, ex⟩
        · obtain ⟨_, _, _, _, o, _, _, e, ex, _⟩ := I.hok p _ hk
          exact ⟨o, e, ex⟩
      obtain ⟨o, e, ex⟩ := z
      refine ⟨⟨o, e, ex.1⟩, fun a e2 => ?_⟩
      cases e2
      exact ⟨o, e, ex.2.1⟩
    · obtain ⟨o, _, _, _, e, ex, _⟩ := I.hok p _ hk
      refine ⟨⟨o, e, ex.1⟩, fun a e2 => ?_⟩
      cases e2
      exact ⟨o, e, ex.2.1⟩
  | _ => exact False.elim ty
def tBM (K : PySem.W.Frag) (T : String) (r : V → List V → Hp → VK → Prop) (to : TE) (t : TA) : TE := fun σ H Q => to σ H fun x H1 => tyV K T x H1 ∧ t σ H1 fun xs H2 => r x xs H2 Q
variable {o e : Expr} {es : List Expr} {to : TE} {t : TA} {name : Str} {apos cpos : Pos} {T id : String} {r : V → List V → Hp → VK → Prop}
theorem pe_bm (pa : PlainAttrs T) (slot : Slot T name id) (hty : typeOf (.builtin id) = pure (.type "method_descriptor")) (hm : MtR X id r) (ho : PE X o to) (ha : PA X (e :: es) t)
    (hbase : attributeBase o name X.env (eval o X.env) = eval o X.env := by rfl)
    (hfew : ((backTo cpos (starEach (e :: es) X.env)).all (fun x => !x.1) && (backToKw cpos (keywordEach [] X.env)).all (fun x => x.1.isSome)
      && decide ((e :: es).length + ([] : List Keyword).length + (if ([] : List Keyword).isEmpty then 0 else 1) < 30)) = true := by rfl)
    (hline : (apos.endLine == cpos.line) = true := by rfl) (hs : starEach (e :: es) X.env = (false, eval e X.env) :: starEach es X.env := by rfl) (hplain : (backTo cpos (starEach es X.env)).any (·.1) = false := by rfl) :
    PE X (.Call (.Attribute o name apos) (e :: es) [] cpos) (tBM X.K T r to t) := by
  intro pins s σ H Q I h
  refine wpAny_Call_method_late hbase hfew hline rfl (thn (ho pins s σ H _ I h) fun v s1 ⟨x, H1, I1, r1, ty, q1⟩ => ?_)
  obtain ⟨h1, h2⟩ := tyV_is I1 r1 ty
  refine ⟨T, id, pa, slot, hty, h1, h2, ?_⟩
  have hA := ha cpos pins s1 σ H1 _ I1 q1
  rw [hs] at hA ⊢
  refine Calls.callWith_builtin (by show (false || (backTo cpos (starEach es X.env)).any (·.1)) = false; rw [hplain] <;> rfl) (Calls.evalArgs_plain ?_)
  exact thn hA fun us s2 ⟨vs, H2, I2, r2, q2⟩ => hm pins s2 σ H2 x vs v us Q I2 r1 r2 q2
/- xs.append(e), list.index on a module's tuple .. are MtR facts of 06m -/
end
end L2

namespace L2
open PySem PySem.Spec PyProof.Rows

def MtM (X : Cx) (id : String) (r : V → List V → Hp → VK → Prop) : Prop :=
  ∀ (pins : List (Addr × Obj)) (s : Shared) (σ : St) (H : Hp) (x : V) (xs : List V) (v : Value) (us : List Value) (Q : VK), Inv X pins σ H s → RelV x v → Vals xs us → r x xs H Q →
    wpAny (model X.prog X.w) X.A (call (.builtin id) (v :: us)) (EP X pins σ Q) X.xe s

/-! ### lists of values -/
theorem Vals.one : ∀ {x : V} {us : List Value}, Vals [x] us → ∃ u, us = [u] ∧ RelV x u
  | _, _, .cons r .nil => ⟨_, rfl, r⟩
theorem Vals.two : ∀ {x y : V} {us : List Value}, Vals [x, y] us → ∃ u v, us = [u, v] ∧ RelV x u ∧ RelV y v
  | _, _, _, .cons r (.cons q .nil) => ⟨_, _, rfl, r, q⟩
theorem Vals.zero : ∀ {us : List Value}, Vals [] us → us = []
  | _, .nil => rfl
theorem Vals.dropLast {xs : List V} {us : List Value} (h : Vals xs us) : Vals xs.dropLast us.dropLast := by
  induction h with
  | nil => exact .nil
  | cons r t ih =>
    cases t with
    | nil => exact .nil
    | cons q t' => exact .cons r ih
theorem Vals.eraseIdx : ∀ {xs : List V} {us : List Value} (i : Nat), Vals xs us → Vals (xs.eraseIdx i) (us.eraseIdx i)
  | _, _, _, .nil => .nil
  | _, _, 0, .cons _ t => t
  | _, _, i + 1, .cons r t => .cons r (Vals.eraseIdx i t)
theorem Vals.reverse {xs : List V} {us : List Value} (h : Vals xs us) : Vals xs.reverse us.reverse := by
  induction h with
  | nil => exact .nil
  | cons r t ih => rw [List.reverse_cons, List.reverse_cons]; exact Vals.append ih (.cons r .nil)
section
variable {X : Cx} {pins : List (Addr × Obj)} {σ : St} {H : Hp} {s : Shared} {l b : Addr} {xs ys zs : List V}

/-! ### the two steps: a tracked list is rewritten, a new list is laid -/
theorem Inv.lset {its its' : List Value} {n : Nat} {f : Array Value → Array Value} {t' : Nat} (I : Inv X pins σ H s) (hH : H l = some (.lst xs))
    (e : s.heap.get? l = some { cls := .type "list", data := .seq its.toArray n }) (hf : f its.toArray = its'.toArray) (hv : Vals ys its') (hz : ys.length ≤ sizeLine) :
    Inv X pins σ (upd H l (.lst ys)) { s with heap := s.heap.update l (Obj.mapSeq f), toks := t' } := by
  have q := PySem.IsL.update e f
  rw [hf] at q
  refine I.write (x := l) (e := l) (by rw [hH]; exact trivial) (.inl rfl) (fun b' u hb hu => (Heap.get?_update_other s.heap (Obj.mapSeq f) (Ne.symm hb)).trans hu) ⟨_, q⟩ ?_
  exact ⟨hz, its', _, hv, q⟩
theorem Inv.lnew {its : List Value} {t' : Nat} (I : Inv X pins σ H s) (hv : Vals ys its) (hz : ys.length ≤ sizeLine) :
    Inv X pins σ (upd H s.heap.objs.size (.lst ys)) { s with heap := s.heap.push { cls := .type "list", data := .seq its.toArray }, toks := t' } :=
  I.laid (fun _ _ q => Heap.get?_push_of_some _ q) (Nat.le_refl _) ⟨hz, its, 0, hv, Heap.get?_push_size _ rfl⟩
theorem Inv.fresh (I : Inv X pins σ H s) : H s.heap.objs.size = none := I.hok.fresh (Nat.le_refl _)
theorem Inv.lstM (I : Inv X pins σ H s) (hH : H l = some (.lst xs)) : xs.length ≤ sizeLine ∧ ∃ (its : List Value) (n : Nat), Vals xs its ∧ xs.length = its.length ∧ s.heap.get? l = some { cls := .type "list", data := .seq its.toArray n } := by
  obtain ⟨z, its, n, r, e⟩ := I.hok l _ hH
  exact ⟨z, its, n, r, r.length, e⟩

end

section
variable {X : Cx}

/-! ### methods -/
def rAppend : V → List V → Hp → VK → Prop := fun x vs H Q => ∃ l xs y, x = .ref l ∧ vs = [y] ∧ H l = some (.lst xs) ∧ xs.length < sizeLine ∧ Q .non (upd H l (.lst (xs ++ [y])))
theorem mt_append : MtM X "list.append" rAppend := by
  intro pins s σ H x vs v us Q I rx rv h
  obtain ⟨l, xs, y, rfl, rfl, hH, hz, q⟩ := h
  cases rx
  obtain ⟨u, rfl, ru⟩ := rv.one
  obtain ⟨z, its, n, r, hl, e⟩ := I.lstM hH
  refine call_meets F.slot_list_append ⟨_, e, rfl⟩ F.entry_list_append (F.args_list_append_2 _ _) (PySem.list_append l its.toArray n u (by rw [List.size_toArray]; omega)) ⟨e, ?_⟩
  refine ⟨.non, _, I.lset (its' := its ++ [u]) hH e (by simp) (r.append (.cons ru .nil)) ?_, rfl, q⟩
  rw [List.length_append, List.length_singleton]
  omega

/-! ### list + list, list += list, list * int -/
def rCat : R2 := fun x y H Q => ∃ l b xs zs, x = .ref l ∧ y = .ref b ∧ H l = some (.lst xs) ∧ H b = some (.lst zs) ∧ xs.length + zs.length ≤ sizeLine ∧ ∀ p, H p = none → Q (.ref p) (upd H p (.lst (xs ++ zs)))
theorem op_cat : OpR X (binaryOp .Add) rCat := by
  intro pins s σ H x y v u Q I rx ry h
  obtain ⟨l, b, xs, zs, rfl, rfl, hH, hB, hz, q⟩ := h
  cases rx
  cases ry
  obtain ⟨z, its, n, r, hl, e⟩ := I.lstM hH
  obtain ⟨z2, its2, n2, r2, hl2, e2⟩ := I.lstM hB
  refine PySem.P.add_list e e2 ?_ (by rw [List.size_toArray, List.size_toArray]; omega)
  have ea : its.toArray ++ its2.toArray = (its ++ its2).toArray := by simp
  rw [ea]
  exact ⟨.ref _, _, I.lnew (t' := s.toks) (r.append r2) (by rw [List.length_append]; omega), rfl, q _ I.fresh⟩
/-! ### del xs[i] -/
end

/-! ### xs[a:b] = ys -/
section
variable {prog : Program} {w : World} {A : Around} {E : Value → Shared → Prop} {s : Shared}
end

section
variable {X : Cx}
end
end L2

namespace L2
open PySem PySem.Spec PyProof.Rows

theorem Vals.ints : ∀ {ns : List Int} {us : List Value}, Vals (ns.map V.int) us → IntsAre us ns
  | [], us, h => by
    rw [List.map_nil] at h
    cases h
    exact IntsAre.nil
  | n :: ns, us, h => by
    rw [List.map_cons] at h
    cases h with
    | cons r t =>
      obtain ⟨k, rfl⟩ := r
      exact IntsAre.cons n k (Vals.ints t)
theorem Vals.strs : ∀ {xs : List Str} {us : List Value}, Vals (xs.map V.str) us → StrsAre us xs
  | [], us, h => by
    rw [List.map_nil] at h
    cases h
    exact StrsAre.nil
  | x :: xs, us, h => by
    rw [List.map_cons] at h
    cases h with
    | cons r t =>
      obtain ⟨k, rfl⟩ := r
      exact StrsAre.cons x k (Vals.strs t)
theorem Vals.bls : ∀ {bs : List Bool} {us : List Value}, Vals (bs.map V.bl) us → us = bs.map Value.bool
  | [], us, h => by
    rw [List.map_nil] at h
    cases h
    rfl
  | b :: bs, us, h => by
    rw [List.map_cons] at h
    cases h with
    | cons r t =>
      cases r
      rw [Vals.bls t, List.map_cons]
theorem Vals.ref1 {a : Addr} {us : List Value} (r : Vals [V.ref a] us) : us = [Value.ref a] := by
  cases r with
  | cons r t =>
    cases t
    cases r
    rfl
/-! ### the library's walks over a list of ints, kept objects alone -/
section
variable {prog : Program} {w : World} {A : Around} {E : Value → Shared → Prop} {s : Shared} {l : Addr} {its : List Value} {ns : List Int} {Q : Value → Shared → Prop}
theorem sum_raw (hh : A.handled = none) (hl : s.heap.IsList l its.toArray) (hi : IntsAre its ns)
    (h : ∀ h' tk t', (∀ b o, s.heap.get? b = some o → h'.get? b = some o) → Q (.int ns.sum t') { s with heap := h', toks := tk }) : wpAny (model prog w) A (call (.builtin "sum") [.ref l]) Q E s := by
  obtain ⟨xs, e⟩ := hi.allInts.items
  have hn : numsOf (intItems xs).toList = ns := by rw [← e]; exact hi.numsOf
  rw [nums_intItems] at hn
  rw [e] at hl
  refine PySem.sum_intListG hh hl fun h' tk t' hk => ?_
  have := h h' tk t' hk
  rw [preSum_eq, List.take_of_length_le (by simp), hn]; exact this
end

/-! ### the calls, by values (CallR of 03t; MtR of 06l) -/
section
variable {X : Cx}
/-- sum(xs) of a list of ints -/
def rSum (K : PySem.W.Frag) : List V → Hp → VK → Prop := fun vs H Q => ∃ (a : Addr) (ns : List Int), vs = [V.ref a] ∧ SqL K H a (ns.map V.int) ∧ Q (.int ns.sum) H
theorem cr_sum (hc : X.calm = true) : CallR X (.builtin "sum") (rSum X.K) := by
  intro pins s σ H vs us Q I r h
  obtain ⟨a, ns, rfl, hs, q⟩ := h
  obtain ⟨its, rv, hl, _⟩ := I.list hs
  rw [Vals.ref1 r]
  exact sum_raw (I.ok.hd hc) hl.isList rv.ints fun h' tk t' hk => ⟨.int _, H, I.kept hk, ⟨_, rfl⟩, q⟩
/-! sorted, sort (fewer than 64 items: the library's own bound) -/
end

/-! ### list.index, flat items -/
section
variable {X : Cx}
end

/-! ### type(x) of an own instance; is, is not of a module's class -/
section
variable {X : Cx}
end

/-! ### any(xs), all(xs) of a list of bools -/
theorem iter_any {prog : Program} {w : World} {A : Around} {E : Value → Shared → Prop} {s : Shared} {l : Addr} {items : Array Value} {Q : Value → Shared → Prop} (hl : s.heap.IsList l items)
    (h : ∀ s₂ : Shared, s₂ = { s with heap := s.heap.push { cls := .type "list_iterator", data := .fields #[.ref l, .int 0 0] } } →
      (s₂.heap.IsListIter s.heap.objs.size l 0 ∧ s₂.heap.IsList l items) → l ≠ s.heap.objs.size → Q (.ref s.heap.objs.size) s₂) : wpAny (model prog w) A (pyIter (.ref l)) Q E s := by
  have hlt : l < s.heap.objs.size := by obtain ⟨_, e, _⟩ := hl; exact Heap.lt_size e
  exact wpAny_pyIter_list hl (h _ rfl ⟨⟨_, Heap.get?_push_size _ rfl, rfl, rfl⟩, hl.push _⟩ (Nat.ne_of_lt hlt))
theorem truth_bools {prog : Program} {w : World} {A : Around} {bs : List Bool} {its : List Value} (e : its = bs.map Value.bool) :
    TruthOf prog w A (fun i v => its.toArray[i]? = some v) (fun i => bs.getD i false) := fun i v s Q E hv hq => by
  have hv' : its[i]? = some v := by simpa using hv
  rw [e, List.getElem?_map] at hv'
  obtain ⟨b, hb, rfl⟩ := Option.map_eq_some_iff.mp hv'
  have hg : bs.getD i false = b := by rw [List.getD_eq_getElem?_getD, hb] <;> rfl
  have hq' : Q (bs.getD i false) s := hq
  rw [hg] at hq'
  exact wpAny_truthy_bool hq'
theorem all_range : ∀ bs : List Bool, (List.range bs.length).all (fun i => bs.getD i false) = bs.all id
  | [] => rfl
  | b :: bs => by
    rw [List.length_cons, List.range_succ_eq_map, List.all_cons, List.all_map, List.all_cons, ← all_range bs]
    all_goals rfl
section
variable {X : Cx}
def rAll (K : PySem.W.Frag) : List V → Hp → VK → Prop := fun vs H Q => ∃ (a : Addr) (bs : List Bool), vs = [V.ref a] ∧ SqL K H a (bs.map V.bl) ∧ Q (.bl (bs.all id)) H
theorem cr_all (hc : X.calm = true) : CallR X (.builtin "all") (rAll X.K) := by
  intro pins s σ H vs us Q I r h
  obtain ⟨a, bs, rfl, hs, q⟩ := h
  obtain ⟨its, rv, hl, _⟩ := I.list hs
  rw [Vals.ref1 r]
  have hb := rv.bls
  refine call_all_walk (iter_any hl.isList fun s₂ e2 st hne => ?_)
  subst e2
  refine ⟨_, _, _, _, _, _, _, rfl, Walks.list (A := X.A.in1) (I.ok.hd hc) _ a hne its.toArray, st, truth_bools hb, fun h' tk hk => ?_⟩
  refine ⟨.bl _, H, I.kept fun b o eo => hk b o (fun hmem => ?_) (Heap.get?_push_of_some _ eo), ?_, q⟩
  · rcases List.mem_cons.mp hmem with e1 | hmem
    · exact absurd (e1 ▸ Heap.lt_size eo) (Nat.lt_irrefl _)
    · cases hmem
  · show Value.bool _ = Value.bool _
    rw [← all_range, hb, List.size_toArray, List.length_map]
end

/-! ### == and != of data at any depth: none, bools, ints, texts, lists, tuples -/
mutual
inductive Dp (K : PySem.W.Frag) (H : Hp) : V → PyData → Prop
  | non : Dp K H .non .none
  | bl (b : Bool) : Dp K H (.bl b) (.bool b)
  | int (i : Int) : Dp K H (.int i) (.int i)
  | str (x : Str) : Dp K H (.str x) (.str x)
  | lst {a : Addr} {xs : List V} {ds : List PyData} : SqL K H a xs → DpAll K H xs ds → Dp K H (.ref a) (.list ds)
  | tup {a : Addr} {xs : List V} {ds : List PyData} : SqT K H a xs → DpAll K H xs ds → Dp K H (.ref a) (.tuple ds)
inductive DpAll (K : PySem.W.Frag) (H : Hp) : List V → List PyData → Prop
  | nil : DpAll K H [] []
  | cons {v : V} {vs : List V} {d : PyData} {ds : List PyData} : Dp K H v d → DpAll K H vs ds → DpAll K H (v :: vs) (d :: ds)
end
section
variable {X : Cx} {pins : List (Addr × Obj)} {σ : St} {H : Hp} {s : Shared}
mutual
theorem Dp.reads (I : Inv X pins σ H s) : ∀ (d : PyData) (v : V) (u : Value), Dp X.K H v d → RelV v u → ∃ as, Reads s.heap u d as
  | .none, _, _, h, r => by
    cases h
    cases r
    exact ⟨_, Reads.none⟩
  | .bool b, _, _, h, r => by
    cases h
    cases r
    exact ⟨_, Reads.bool b⟩
  | .int i, _, _, h, r => by
    cases h
    obtain ⟨t, rfl⟩ := r
    exact ⟨_, Reads.int i t⟩
  | .str x, _, _, h, r => by
    cases h
    obtain ⟨t, rfl⟩ := r
    exact ⟨_, Reads.str x t⟩
  | .list ds, _, _, h, r => by
    cases h with
    | lst hs ha =>
      cases r
      obtain ⟨its, rv, ⟨o, n, ho, hc, _, hd⟩, _⟩ := I.list hs
      obtain ⟨as, hr⟩ := Dp.readsAll I ds _ its ha rv
      exact ⟨_, Reads.list ho hc hd hr⟩
  | .tuple ds, _, _, h, r => by
    cases h with
    | tup hs ha =>
      cases r
      obtain ⟨its, rv, ⟨o, ho, hc, n, hd⟩, _⟩ := I.tuple hs
      obtain ⟨as, hr⟩ := Dp.readsAll I ds _ its ha rv
      exact ⟨_, Reads.tuple ho hc hd hr⟩
  | .dict _, _, _, h, _ => by cases h
theorem Dp.readsAll (I : Inv X pins σ H s) : ∀ (ds : List PyData) (vs : List V) (us : List Value), DpAll X.K H vs ds → Vals vs us → ∃ as, ReadsAll s.heap us ds as
  | [], _, _, h, r => by
    cases h
    cases r
    exact ⟨_, ReadsAll.nil⟩
  | d :: ds, _, _, h, r => by
    cases h with
    | cons h1 h2 =>
      cases r with
      | cons r1 r2 =>
        obtain ⟨as, q1⟩ := Dp.reads I d _ _ h1 r1
        obtain ⟨bs, q2⟩ := Dp.readsAll I ds _ _ h2 r2
        exact ⟨_, ReadsAll.cons q1 q2⟩
end
end
section
variable {X : Cx}
def rEqD (K : PySem.W.Frag) : R2 := fun x y H Q => ∃ d e, Dp K H x d ∧ Dp K H y e ∧ SeqAt.shaped d = true ∧ SeqAt.shaped e = true ∧ Q (.bl (PyData.eqv d e)) H
def rNeD (K : PySem.W.Frag) : R2 := fun x y H Q => ∃ d e, Dp K H x d ∧ Dp K H y e ∧ SeqAt.shaped d = true ∧ SeqAt.shaped e = true ∧ Q (.bl (!PyData.eqv d e)) H
theorem op_eqD (hu : X.A.units + 64 < cLine) : OpR X (compareOp .Eq) (rEqD X.K) := by
  intro pins s σ H x y v u Q I rx ry h
  obtain ⟨d, e, hd, he, sd, se, q⟩ := h
  obtain ⟨as, r1⟩ := Dp.reads I d x v hd rx
  obtain ⟨bs, r2⟩ := Dp.reads I e y u he ry
  exact SeqAt.compareEq_shaped r1 r2 sd se hu ⟨.bl _, H, I, rfl, q⟩
theorem op_neD (hu : X.A.units + 64 < cLine) : OpR X (compareOp .NotEq) (rNeD X.K) := by
  intro pins s σ H x y v u Q I rx ry h
  obtain ⟨d, e, hd, he, sd, se, q⟩ := h
  obtain ⟨as, r1⟩ := Dp.reads I d x v hd rx
  obtain ⟨bs, r2⟩ := Dp.reads I e y u he ry
  exact SeqAt.compareNe_shaped r1 r2 sd se hu ⟨.bl _, H, I, rfl, q⟩
end
end L2

namespace L2
open PySem PySem.Spec PyProof.Rows
abbrev CellAt (h : Heap) (c : Addr) (v : Option Value) : Prop := h.IsCell c v
def relS (scope sc : Scope) : Scope :=
  { scope with names := scope.names.map fun (n, k) => if (k == .free && sc.kind == .function && sc.names.lookup n == some .cell) then (n, .cell) else (n, k) }

def cloFrom (cells : List (Str × Addr)) : List (Str × NameKind) → List (Str × Addr) → List (Str × Addr)
  | [], acc => acc
  | (n, k) :: r, acc => if k == .free then cloFrom cells r ((n, (cells.lookup n).getD 0) :: acc) else cloFrom cells r acc

theorem closure_loop (env : Env) (f : Str × NameKind → List (Str × Addr) → Sem (ForInStep (List (Str × Addr))))
    (hf : ∀ n k c, f (n, k) c = if k == .free then (do let a ← cellOf env n; pure (.yield ((n, a) :: c))) else pure (.yield c)) :
    ∀ (names : List (Str × NameKind)) (acc : List (Str × Addr)), (∀ y ∈ names, y.2 = .free → ∃ c, env.cells.lookup y.1 = some c) → forIn names acc f = pure (cloFrom env.cells names acc)
  | [], acc, _ => by rw [List.forIn_nil]; rfl
  | (n, k) :: r, acc, h => by
    rw [List.forIn_cons, hf]
    have ih := fun acc => closure_loop env f hf r acc fun y hy => h y (List.mem_cons_of_mem _ hy)
    unfold cloFrom
    by_cases hk : (k == NameKind.free) = true
    · rw [if_pos hk, if_pos hk]
      obtain ⟨c, hc⟩ := h (n, k) List.mem_cons_self (by simpa using hk)
      have e : cellOf env n = pure c := by unfold cellOf; rw [hc]
      rw [e]
      have e2 : (env.cells.lookup n).getD 0 = c := by rw [hc]; rfl
      rw [e2]
      exact ih _
    · rw [if_neg hk, if_neg hk]
      exact ih _
theorem closure_ok {scope : Scope} {env : Env} (h : ∀ y ∈ scope.names, y.2 = .free → ∃ c, env.cells.lookup y.1 = some c) : closureFor scope env = pure (cloFrom env.cells scope.names []) := by
  simp only [closureFor]
  rw [closure_loop env _ (fun n k c => rfl) scope.names [] h]
  rfl

theorem mem_lookup {α : Type} : ∀ {l : List (Str × α)} {n : Str} {c : α}, (n, c) ∈ l → ∃ c', l.lookup n = some c'
  | (k, v) :: r, n, c, h => by
    rw [List.lookup_cons]
    cases hb : n == k with
    | true => exact ⟨_, rfl⟩
    | false =>
      rcases List.mem_cons.mp h with e | h
      · cases e; simp at hb
      · exact mem_lookup h

theorem cloFrom_mem {cells : List (Str × Addr)} : ∀ {names : List (Str × NameKind)} {acc : List (Str × Addr)} {n : Str} {c : Addr}, (n, c) ∈ cloFrom cells names acc → (n, c) ∈ acc ∨ ((n, .free) ∈ names ∧ c = (cells.lookup n).getD 0)
  | [], _, _, _, h => .inl h
  | (m, k) :: r, acc, n, c, h => by
    unfold cloFrom at h
    split at h
    · rename_i hk
      have hk : k = .free := by simpa using hk
      rcases cloFrom_mem h with h | ⟨h1, h2⟩
      · rcases List.mem_cons.mp h with e | h
        · cases e; exact .inr ⟨hk ▸ List.mem_cons_self, rfl⟩
        · exact .inl h
      · exact .inr ⟨List.mem_cons_of_mem _ h1, h2⟩
    · rcases cloFrom_mem h with h | ⟨h1, h2⟩
      · exact .inl h
      · exact .inr ⟨List.mem_cons_of_mem _ h1, h2⟩
theorem cloFrom_acc {cells : List (Str × Addr)} : ∀ {names : List (Str × NameKind)} {acc : List (Str × Addr)} {p : Str × Addr}, p ∈ acc → p ∈ cloFrom cells names acc
  | [], _, _, h => h
  | (m, k) :: r, acc, p, h => by
    unfold cloFrom
    split
    · exact cloFrom_acc (List.mem_cons_of_mem _ h)
    · exact cloFrom_acc h
theorem cloFrom_has {cells : List (Str × Addr)} : ∀ {names : List (Str × NameKind)} {acc : List (Str × Addr)} {n : Str}, (n, .free) ∈ names → (n, (cells.lookup n).getD 0) ∈ cloFrom cells names acc
  | (m, k) :: r, acc, n, h => by
    unfold cloFrom
    rcases List.mem_cons.mp h with e | h
    · cases e
      exact cloFrom_acc List.mem_cons_self
    · split
      · exact cloFrom_has h
      · exact cloFrom_has h

theorem cells_mem : ∀ {names : List (Str × NameKind)} {h : Heap} {acc : List (Str × Addr)} {x : Str} {c : Addr}, (x, c) ∈ cellsFrom h.objs.size names acc →
    (x, c) ∈ acc ∨ ((x, .cell) ∈ names ∧ h.objs.size ≤ c ∧ CellAt (pushCells h names) c none)
  | [], _, _, _, _, h => .inl h
  | (n, k) :: r, h, acc, x, c, hm => by
    unfold cellsFrom at hm
    unfold pushCells
    split at hm
    · rename_i hk
      rw [if_pos hk]
      have hk : k = .cell := by simpa using hk
      rw [← Heap.size_push h { cls := .type "cell", data := .cell none }] at hm
      rcases cells_mem hm with hm | ⟨h1, h2, h3⟩
      · rcases List.mem_cons.mp hm with e | hm
        · cases e
          exact .inr ⟨hk ▸ List.mem_cons_self, Nat.le_refl _, _, pushCells_keeps r _ _ _ (Heap.get?_push_size _ rfl), rfl⟩
        · exact .inl hm
      · rw [Heap.size_push] at h2
        exact .inr ⟨List.mem_cons_of_mem _ h1, Nat.le_of_succ_le h2, h3⟩
    · rename_i hk
      rw [if_neg hk]
      rcases cells_mem hm with hm | ⟨h1, h2, h3⟩
      · exact .inl hm
      · exact .inr ⟨List.mem_cons_of_mem _ h1, h2, h3⟩
theorem cells_acc : ∀ {names : List (Str × NameKind)} {n : Nat} {acc : List (Str × Addr)} {p : Str × Addr}, p ∈ acc → p ∈ cellsFrom n names acc
  | [], _, _, _, h => h
  | (m, k) :: r, n, acc, p, h => by
    unfold cellsFrom
    split
    · exact cells_acc (List.mem_cons_of_mem _ h)
    · exact cells_acc h
theorem cells_has : ∀ {names : List (Str × NameKind)} {n : Nat} {acc : List (Str × Addr)} {x : Str}, (x, .cell) ∈ names → ∃ c, (x, c) ∈ cellsFrom n names acc
  | (m, k) :: r, n, acc, x, h => by
    unfold cellsFrom
    rcases List.mem_cons.mp h with e | h
    · cases e
      exact ⟨n, cells_acc List.mem_cons_self⟩
    · split
      · exact cells_has h
      · exact cells_has h
theorem cells_inj : ∀ {names : List (Str × NameKind)} {h : Heap} {acc : List (Str × Addr)} {x y : Str} {c : Addr}, (∀ p ∈ acc, p.2 < h.objs.size) → (∀ x y c, (x, c) ∈ acc → (y, c) ∈ acc → x = y) →
    (x, c) ∈ cellsFrom h.objs.size names acc → (y, c) ∈ cellsFrom h.objs.size names acc → x = y
  | [], _, _, _, _, _, _, hi, h1, h2 => hi _ _ _ h1 h2
  | (n, k) :: r, h, acc, x, y, c, hl, hi, h1, h2 => by
    unfold cellsFrom at h1 h2
    split at h1
    · rename_i hk
      rw [if_pos hk] at h2
      rw [← Heap.size_push h { cls := .type "cell", data := .cell none }] at h1 h2
      refine cells_inj (h := h.push _) (fun p hp => ?_) (fun x y c a b => ?_) h1 h2
      · rw [Heap.size_push]
        rcases List.mem_cons.mp hp with rfl | hp
        · exact Nat.lt_succ_self _
        · exact Nat.lt_succ_of_lt (hl p hp)
      · rcases List.mem_cons.mp a with e | a <;> rcases List.mem_cons.mp b with e' | b
        · cases e; cases e'; rfl
        · cases e; exact absurd (hl _ b) (Nat.lt_irrefl _)
        · cases e'; exact absurd (hl _ a) (Nat.lt_irrefl _)
        · exact hi _ _ _ a b
    · rename_i hk
      rw [if_neg hk] at h2
      exact cells_inj hl hi h1 h2

theorem newEnv_comp {M : Model} {A : Around} {E : Value → Shared → Prop} {s : Shared} {scope : Scope} {globals : Addr} {closure : List (Str × Addr)} {qual : Str} {func : Option Addr} {code : Value} {around : Env} {builtins : Addr} {Q : Env → Shared → Prop}
    (h : Q (newEnv scope s.heap.objs.size globals (cellsFrom (s.heap.objs.size + 1) scope.names closure) qual func code (some around) builtins)
      { s with heap := pushCells (s.heap.push { cls := .type "dict", data := .dict #[] }) scope.names }) :
    wpAny M A (newFunctionEnv scope globals closure [] qual func code (some around) builtins) Q E s := by
  simp only [newFunctionEnv, Option.isSome_some, if_true]
  refine wpAny_bind (wpAny_alloc ?_)
  refine wpAny_bind (wpAny_layCells _ (fun n k c => rfl) scope.names closure _ _ ?_)
  rw [show ({ s with heap := s.heap.push { cls := .type "dict", data := .dict #[] } } : Shared).heap.objs.size = s.heap.objs.size + 1 from Heap.size_push ..]
  rw [List.forIn_nil]
  exact wpAny_bind (wpAny_pure (wpAny_pure h))

/-- every name of the written scope, in the scope that runs -/
theorem lookup_relS {sc : Scope} : ∀ {names : List (Str × NameKind)} {x : Str} {k : NameKind},
    (names.map fun (n, k) => if (k == NameKind.free && sc.kind == .function && sc.names.lookup n == some .cell) then (n, NameKind.cell) else (n, k)).lookup x = some k →
    ∃ k', names.lookup x = some k' ∧ (k = k' ∨ (k' = .free ∧ k = .cell))
  | [], _, _, h => by simp at h
  | (n, k₀) :: r, x, k, h => by
    have ih := @lookup_relS sc r x k
    have h' : List.lookup x ((if (k₀ == NameKind.free && sc.kind == .function && sc.names.lookup n == some .cell) = true then (n, NameKind.cell) else (n, k₀)) :: (r.map _)) = some k := h
    cases hx : x == n with
    | true =>
      simp only [List.lookup_cons, hx]
      by_cases hc : (k₀ == NameKind.free && sc.kind == .function && sc.names.lookup n == some .cell) = true
      · rw [if_pos hc] at h'
        simp only [List.lookup_cons, hx] at h'
        cases h'
        simp only [Bool.and_eq_true, beq_iff_eq] at hc
        exact ⟨k₀, rfl, .inr ⟨hc.1.1, rfl⟩⟩
      · rw [if_neg hc] at h'
        simp only [List.lookup_cons, hx] at h'
        cases h'
        exact ⟨_, rfl, .inl rfl⟩
    | false =>
      simp only [List.lookup_cons, hx]
      by_cases hc : (k₀ == NameKind.free && sc.kind == .function && sc.names.lookup n == some .cell) = true
      · rw [if_pos hc] at h'
        simp only [List.lookup_cons, hx] at h'
        exact ih h'
      · rw [if_neg hc] at h'
        simp only [List.lookup_cons, hx] at h'
        exact ih h'
/-- the names of a comprehension's block: its own (with their places in N), or captured -/
structure BlkOk (N : List Str) (sc scope : Scope) (own : List (Str × Nat)) : Prop where
  kind : scope.kind = .function
  uniq : ∀ y ∈ scope.names, scope.names.lookup y.1 = some y.2
  ix : ∀ p ∈ own, N[p.2]? = some p.1
  free : ∀ y ∈ scope.names, y.2 = .free → sc.names.lookup y.1 = some .cell ∨ sc.names.lookup y.1 = some .free
  own : ∀ y ∈ scope.names, y.2 = .local ∨ y.2 = .cell → y.1 ∈ own.map (·.1) ∨ y.1 ∉ N
/-- the slots of the block's own names forgotten -/
def wipe (σ : St) : List Nat → St
  | [] => σ
  | v :: vs => (wipe σ vs).set v none
theorem wipe_length (σ : St) : ∀ vs : List Nat, (wipe σ vs).length = σ.length
  | [] => rfl
  | v :: vs => by unfold wipe; rw [List.length_set, wipe_length σ vs]
theorem wipe_some {σ : St} {i : Nat} {x : V} : ∀ {vs : List Nat}, (wipe σ vs)[i]? = some (some x) → σ[i]? = some (some x) ∧ i ∉ vs
  | [], h => ⟨h, by simp⟩
  | v :: vs, h => by
    unfold wipe at h
    by_cases hi : v = i
    · subst hi
      by_cases hv : v < (wipe σ vs).length
      · rw [List.getElem?_set_self hv] at h; cases h
      · rw [List.getElem?_eq_none (by simpa using hv)] at h; cases h
    · rw [List.getElem?_set_ne hi] at h
      obtain ⟨h1, h2⟩ := wipe_some h
      exact ⟨h1, by simp only [List.mem_cons, not_or]; exact ⟨fun e => hi e.symm, h2⟩⟩

/-- the context of a block that starts at s, its iterator's objects at fp -/
abbrev Cx.blk (X : Cx) (s : Shared) (H : Hp) (scope : Scope) (cenv : Env) (fp : List Addr) : Cx := { X with s_0 := s, H_0 := H, env := cenv, outer := X.stack, ex := fp, fn := fun x => scope.names.lookup x == some .cell, pn := [], xe := fun _ _ => False }
section
variable {X : Cx} {pins : List (Addr × Obj)} {σ : St} {H : Hp} {s : Shared}
theorem block_start {scope : Scope} {own : List (Str × Nat)} {fp : List Addr} (I : Inv X pins σ H s) (ok : BlkOk X.N X.env.scope scope own) (hN : X.N.Nodup) (hfp : ∀ b ∈ fp, FpOk X pins H b ∧ b < s.heap.objs.size) :
    Inv (X.blk s H scope (compEnvC scope (cellsFrom (s.heap.objs.size + 1) scope.names (cloFrom X.env.cells scope.names [])) s.heap.objs.size X.env) fp) [] (wipe σ (own.map (·.2))) H { s with heap := pushCells (s.heap.push { cls := .type "dict", data := .dict #[] }) scope.names } := by
  have hfree : ∀ y ∈ scope.names, y.2 = .free → ∃ c, X.env.cells.lookup y.1 = some c := fun y hy e => by
    rcases ok.free y hy e with k | k
    · exact I.ok.has _ (.inl k)
    · exact I.ok.has _ (.inr k)
  generalize hcenv : compEnvC scope (cellsFrom (s.heap.objs.size + 1) scope.names (cloFrom X.env.cells scope.names [])) s.heap.objs.size X.env = cenv
  have kp : ∀ b o, s.heap.get? b = some o → (pushCells (s.heap.push { cls := .type "dict", data := .dict #[] }) scope.names).get? b = some o := fun b o e => pushCells_keeps _ _ _ _ (Heap.get?_push_of_some _ e)
  have hL : cenv.locals = s.heap.objs.size := by rw [← hcenv]; rfl
  have hcl : cenv.cells = cellsFrom (s.heap.objs.size + 1) scope.names (cloFrom X.env.cells scope.names []) := by rw [← hcenv]; rfl
  have hsc : cenv.scope = relS scope X.env.scope := by rw [← hcenv]; rfl
  rw [← Heap.size_push s.heap { cls := .type "dict", data := .dict #[] }] at hcl
  have cm : ∀ {y c}, (y, c) ∈ cloFrom X.env.cells scope.names [] → X.env.cells.lookup y = some c ∧ c < s.heap.objs.size := fun {y c} hm => by
    rcases cloFrom_mem hm with hm | ⟨h1, rfl⟩
    · cases hm
    · obtain ⟨c, hc⟩ := hfree _ h1 rfl
      rw [hc]
      obtain ⟨w, z⟩ := I.cell _ _ hc
      exact ⟨rfl, z.lt⟩
  have mem : ∀ {y c}, cenv.cells.lookup y = some c → (X.env.cells.lookup y = some c ∧ c < s.heap.objs.size) ∨ (s.heap.objs.size + 1 ≤ c ∧ CellAt (pushCells (s.heap.push { cls := .type "dict", data := .dict #[] }) scope.names) c none) := fun {y c} e => by
    rw [hcl] at e
    rcases cells_mem (PySem.mem_of_lookup e) with hm | ⟨_, h2, h3⟩
    · exact .inl (cm hm)
    · rw [Heap.size_push] at h2; exact .inr ⟨h2, h3⟩
  have look : ∀ {y}, scope.names.lookup y = some .free → ∃ c, cenv.cells.lookup y = some c ∧ X.env.cells.lookup y = some c := fun {y} hl => by
    have hy : (y, NameKind.free) ∈ scope.names := PySem.mem_of_lookup hl
    obtain ⟨c', e'⟩ := mem_lookup (cells_acc (names := scope.names) (n := (s.heap.push { cls := .type "dict", data := .dict #[] }).objs.size) (cloFrom_has (cells := X.env.cells) (acc := []) hy))
    rw [← hcl] at e'
    refine ⟨c', e', ?_⟩
    rw [hcl] at e'
    rcases cells_mem (PySem.mem_of_lookup e') with hm | ⟨h1, _, _⟩
    · exact (cm hm).1
    · have := ok.uniq _ h1
      rw [hl] at this; cases this
  have okB : (X.blk s H scope cenv fp).Ok := by
    refine ⟨I.ok.mod, by show cenv.scope.kind = _; rw [hsc]; exact ok.kind, by show cenv.globals = _; rw [← hcenv]; exact I.ok.glob, by show cenv.builtins = _; rw [← hcenv]; exact I.ok.blt, by show s.heap.objs.size ≤ cenv.locals; rw [hL]; exact Nat.le_refl _,
      fun y z c e1 e2 => ?_, fun y hy => ?_, fun y c z e => ?_, I.ok.hd, I.ok.frames, .inl rfl, fun b hb => ⟨?_, fun y c e z => ?_⟩, I.bs, Nat.le_trans I.ok.bsz I.sz, fun b o e hb => ?_, fun b hb z => ?_, I.stack, I.stkFree⟩
    · have e1 : cenv.cells.lookup y = some c := e1
      have e2 : cenv.cells.lookup z = some c := e2
      rw [hcl] at e1 e2
      refine cells_inj (fun p hp => ?_) (fun y z c a b => I.ok.inj y z c (cm a).1 (cm b).1) (PySem.mem_of_lookup e1) (PySem.mem_of_lookup e2)
      rw [Heap.size_push]
      exact Nat.lt_succ_of_lt (cm (y := p.1) (c := p.2) hp).2
    · show ∃ c, cenv.cells.lookup y = some c
      have key : ∀ k, cenv.kindOf y = some k → (k = .cell ∨ k = .free) → ∃ c, cenv.cells.lookup y = some c := fun k hk hk' => by
        unfold Env.kindOf at hk
        rw [hsc] at hk
        obtain ⟨k', e, r⟩ := lookup_relS hk
        have : k' = .cell ∨ k' = .free := by
          rcases r with rfl | ⟨rfl, _⟩
          · exact hk'
          · exact .inr rfl
        rcases this with rfl | rfl
        · obtain ⟨c, hm⟩ := cells_has (n := (s.heap.push { cls := .type "dict", data := .dict #[] }).objs.size) (acc := cloFrom X.env.cells scope.names []) (PySem.mem_of_lookup e)
          obtain ⟨c', e'⟩ := mem_lookup hm
          exact ⟨c', by rw [hcl]; exact e'⟩
        · obtain ⟨c, h1, _⟩ := look e
          exact ⟨c, h1⟩
      rcases hy with hy | hy
      · exact key _ hy (.inl rfl)
      · exact key _ hy (.inr rfl)
    · have z : (scope.names.lookup y == some NameKind.cell) = true := z
      have z : scope.names.lookup y = some .cell := by simpa using z
      have e : cenv.cells.lookup y = some c := e
      rw [hcl] at e
      rcases cells_mem (PySem.mem_of_lookup e) with hm | ⟨_, h2, _⟩
      · rcases cloFrom_mem hm with hm | ⟨h1, _⟩
        · cases hm
        · have q := ok.uniq _ h1
          rw [z] at q; cases q
      · rw [Heap.size_push] at h2
        exact Nat.le_of_succ_le h2
    · show b ≠ cenv.locals
      rw [hL]; exact Nat.ne_of_lt (hfp b hb).2
    · have e : cenv.cells.lookup y = some c := e
      rcases mem e with ⟨h1, _⟩ | ⟨h1, _⟩
      · exact (hfp b hb).1.2.2.2.2.1 y c h1 z
      · have h2 : s.heap.objs.size + 1 ≤ b := by rw [← z]; exact h1
        exact absurd (Nat.lt_of_lt_of_le (hfp b hb).2 (Nat.le_of_succ_le h2)) (Nat.lt_irrefl _)
    · rcases (hfp b hb).1.2.2.2.1 with z | z
      · exact I.ok.noex b o e z
      · exact absurd (Nat.lt_of_lt_of_le (Heap.lt_size e) (Nat.le_trans I.ok.bsz z)) (Nat.lt_irrefl _)
    · rcases List.mem_cons.mp (I.stkSub b z) with z | z
      · exact (hfp b hb).1.2.1 z
      · exact (hfp b hb).1.2.2.1 z
  refine ⟨okB, rfl, I.bare, Un.kept kp, ⟨fun _ => none, ?_, fun i y av e1 e2 e3 => ?_⟩, fun y c e => ?_, ?_, fun y c e => ?_, fun p hp => ?_, I.hok.kept kp, by rw [wipe_length]; exact I.len⟩
  · show Heap.Ns _ cenv.locals _
    rw [hL]
    exact Heap.Ns.keeps (Heap.Ns.new ..) fun b o e => pushCells_keeps _ _ _ _ e
  · obtain ⟨e2, hne⟩ := wipe_some e2
    have hfr : scope.names.lookup y = some .free ∧ (cenv.kindOf y = some .cell ∨ cenv.kindOf y = some .free) := by
      have key : ∀ k, cenv.scope.names.lookup y = some k → k = .local ∨ k = .cell ∨ k = .free → scope.names.lookup y = some .free ∧ (cenv.kindOf y = some .cell ∨ cenv.kindOf y = some .free) := fun k hk hk' => by
        have hk0 := hk
        rw [hsc] at hk
        obtain ⟨k', e, r⟩ := lookup_relS hk
        have no : ¬ (k' = .local ∨ k' = .cell) := fun hh => by
          rcases ok.own _ (PySem.mem_of_lookup e) hh with e' | e'
          · obtain ⟨p, hp, hpy⟩ := List.mem_map.mp e'
            have e3 := ok.ix p hp
            have : p.1 = y := hpy
            rw [this] at e3
            exact hne (List.mem_map.mpr ⟨p, hp, nodup_ix hN e3 e1⟩)
          · exact e' (List.mem_of_getElem? e1)
        rcases r with rfl | ⟨rfl, rfl⟩
        · rcases hk' with rfl | rfl | rfl
          · exact absurd (.inl rfl) no
          · exact absurd (.inr rfl) no
          · exact ⟨e, .inr hk0⟩
        · exact ⟨e, .inl hk0⟩
      have e3 : Vis cenv.scope y := e3
      rcases e3 with e3 | e3 | e3
      · exact key _ e3 (.inl rfl)
      · exact key _ e3 (.inr (.inl rfl))
      · exact key _ e3 (.inr (.inr rfl))
    obtain ⟨m, hn, hl⟩ := I.loc
    have hvis : Vis X.env.scope y := (ok.free _ (PySem.mem_of_lookup hfr.1) rfl).elim (fun k => .inr (.inl k)) (fun k => .inr (.inr k))
    obtain ⟨w, r, q⟩ := hl i y av e1 e2 hvis
    refine ⟨w, r, .inr ⟨hfr.2, ?_⟩⟩
    obtain ⟨c, h1, h2⟩ := look hfr.1
    rcases q with ⟨k, _⟩ | ⟨_, c', e', z⟩
    · have k : X.env.scope.names.lookup y = some .local := k
      rcases ok.free _ (PySem.mem_of_lookup hfr.1) rfl with k' | k' <;> rw [show X.env.scope.names.lookup y = _ from k'] at k <;> cases k
    · rw [h2] at e'; cases e'
      exact ⟨c, h1, z.keeps kp⟩
  · have e : cenv.cells.lookup y = some c := e
    rcases mem e with ⟨h1, _⟩ | ⟨_, z⟩
    · obtain ⟨w, z⟩ := I.cell y c h1
      exact ⟨w, z.keeps kp⟩
    · exact ⟨_, z⟩
  · show H cenv.locals = none
    rw [hL]; exact I.hok.fresh (Nat.le_refl _)
  · have e : cenv.cells.lookup y = some c := e
    rcases mem e with ⟨h1, _⟩ | ⟨h1, _⟩
    · exact I.freeC y c h1
    · exact I.hok.fresh (Nat.le_of_succ_le h1)
  · exact absurd (show p ∈ ([] : List (Addr × Obj)) ++ [] from hp) (by simp)

/-- an item appended to a tracked list -/
theorem app_ok {E : Value → Shared → Prop} {D : Addr} {xs : List V} {y : V} {v : Value} {Q : Value → Shared → Prop} (I : Inv X pins σ H s) (hD : H D = some (.lst xs)) (hz : xs.length < sizeLine) (r : RelV y v)
    (h : ∀ s', Inv X pins σ (upd H D (.lst (xs ++ [y]))) s' → Q .none s') : wpAny (model X.prog X.w) X.A (call (.builtin "list.append") [.ref D, v]) Q E s := by
  obtain ⟨hz', its, n, ri, e⟩ := I.hok D _ hD
  have hl := ri.length
  refine append_at (hsz := by rw [List.size_toArray]; omega) e fun h' sb ho' => ?_
  refine h { s with heap := h' } (I.write (t' := s.toks) (by rw [hD]; trivial) (.inl rfl) (fun b u hb q => (sb.2 b hb).trans q) ⟨_, ho'⟩ ⟨by rw [List.length_append]; exact hz, its ++ [v], n + 1, ri.append (.cons r .nil), ?_⟩)
  rw [ho']
  simp

/-- a clause's tests -/
def PTs (X : Cx) (ifs : List Expr) (t : TT) : Prop :=
  ∀ (pins : List (Addr × Obj)) (s : Shared) (σ : St) (H : Hp) (Q : Bool → Hp → Prop), Inv X pins σ H s → t σ H Q →
    wpAny (model X.prog X.w) X.A (forIn ifs true fun c r => if r = true then do let ok ← isTrue c X.env (eval c X.env); pure (ForInStep.yield ok) else pure (ForInStep.yield r)) (TP X pins σ Q) X.xe s
def tYes : TT := fun _ H Q => Q true H
theorem pts_nil : PTs X [] tYes := fun _ _ _ H _ I h => wpAny_tests_nil ⟨H, I, h⟩
theorem pts_one {c : Expr} {t : TT} (h : PT X c t) : PTs X [c] t := fun pins s σ H Q I hw => wpAny_tests_one (h pins s σ H Q I hw)
end

theorem thnF {α : Type} {t : Sem α} {Q Q' : α → Shared → Prop} {M : Model} {A : Around} {E : Value → Shared → Prop} {s : Shared} (h : wpAny M A t Q (fun _ _ => False) s) (hQ : ∀ a s, Q a s → Q' a s) : wpAny M A t Q' E s := wpAny_mono h hQ fun _ _ z => False.elim z

/-- the loop of a list comprehension's block, the target of any form (codeAny_compLoop_tests asks a target that no tuple goes to; statement and proof follow it, PyProof/CompMap.lean:41-61, with the step letOwnedTupleGo kept) -/
theorem compLoop_any {prog : Program} {w : World} {A : Around} {R : Result → Shared → Prop} {s : Shared} {elt target iter : Expr} {ifs : List Expr} {scope : Scope} {pos : Pos} {it acc : Value} {env : Env} (I : Nat → Shared → Prop)
    (turn : ∀ n s, I n s → wpAny (model prog w) A (pyNext it) (fun r s₁ => match r with
      | none => R (.ok .next) s₁
      | some v => wpAny (model prog w) A (letOwnedTupleGo target it v) (fun _ s₁' => wpAny (model prog w) A (assign target env v) (fun _ s₂ =>
          wpAny (model prog w) A (forIn ifs true fun c r => if r = true then do let ok ← isTrue c env (eval c env); pure (ForInStep.yield ok) else pure (ForInStep.yield r)) (fun ok s₃ =>
            if ok = true then wpAny (model prog w) A (eval elt env) (fun x s₄ =>
              wpAny (model prog w) A (call (.builtin "list.append") [acc, x]) (fun _ s₅ => ∃ m, m < n ∧ I m s₅) (notedBy (model prog w) A env fun e s' => R (.error e) s') s₄) (notedBy (model prog w) A env fun e s' => R (.error e) s') s₃
            else ∃ m, m < n ∧ I m s₃) (notedBy (model prog w) A env fun e s' => R (.error e) s') s₂) (notedBy (model prog w) A env fun e s' => R (.error e) s') s₁') (notedBy (model prog w) A env fun e s' => R (.error e) s') s₁) (notedBy (model prog w) A env fun e s' => R (.error e) s') s)
    (n : Nat) (h : I n s) :
    codeAny (model prog w) A (.compLoop (.ListComp elt [⟨target, iter, ifs, 0⟩] scope pos) 0 it acc env) R s := by
  refine codeAny_loop rfl I (fun n s hI => ?_) n h
  show wpAny _ A ((compTurn (.ListComp elt [⟨target, iter, ifs, 0⟩] scope pos) 0 it acc env).onRaise (fun x => do noteFrame x env; theTreesLotGoes x)) _ _ s
  refine wpAny_noted ?_
  rw [compTurn_list]
  refine wpAny_bind (wpAny_standAt (wpAny_bind (wpAny_mono (turn n s hI) (fun r s₁ h₁ => ?_) fun _ _ h' => h')))
  cases r with
  | none => exact wpAny_pure h₁
  | some v =>
    refine wpAny_bind (wpAny_mono h₁ (fun _ s₁' h₁' => ?_) fun _ _ h' => h')
    refine wpAny_bind (wpAny_mono h₁' (fun _ s₂ h₂ => wpAny_bind (wpAny_mono h₂ (fun ok s₃ h₃ => ?_) fun _ _ h' => h')) fun _ _ h' => h')
    cases ok with
    | false => exact wpAny_pure ⟨rfl, h₃⟩
    | true =>
      exact wpAny_bind (wpAny_bind (wpAny_mono h₃ (fun x s₄ h₄ => wpAny_bind (wpAny_mono h₄ (fun _ s₅ h₅ => wpAny_pure (wpAny_pure ⟨rfl, h₅⟩)) fun _ _ h' => h')) fun _ _ h' => h'))

section
variable {X : Cx}
/-- [elt for target in iter if ..]: D the new list; W by the turn and a measure, Nx what a turn is to reach -/
def tLc (wi : TI) (g : TG) (tt : TT) (te : TE) (vs : List Nat) : TE := fun σ H Q => wi σ H fun J H1 => ∀ D, H1 D = none → ∃ W : Nat → Nat → Hp → Prop, (∃ m, W 0 m (upd H1 D (.lst []))) ∧ ∀ i m H, W i m H →
  (J.stop i H ∧ Q (.ref D) H) ∨ (J.go i H ∧ ∃ Nx : Hp → Prop, (∀ H', Nx H' → ∃ m', m' < m ∧ W (i + 1) m' H') ∧ ∀ x H', J.yld i H x H' → g x (wipe σ vs) H' fun σ2 H2 => wipe σ2 vs = wipe σ vs ∧ tt σ2 H2 fun b H3 =>
    if b = true then te σ2 H3 fun y H4 => ∃ acc, H4 D = some (.lst acc) ∧ acc.length < sizeLine ∧ Nx (upd H4 D (.lst (acc ++ [y]))) else Nx H3)
theorem lc_core {pins : List (Addr × Obj)} {s : Shared} {σ : St} {H : Hp} {Q : VK} {elt tg iter : Expr} {ifs : List Expr} {scope : Scope} {own : List (Str × Nat)} {pos pos' : Pos} {wi : TI} {g : TG} {tt : TT} {te : TE} {use : Option (Value → Sem Unit)} {Qf : Value → Shared → Prop}
    (hc : X.calm = true) (hN : X.N.Nodup) (I : Inv X pins σ H s) (hi : PI X tg iter wi) (ok : BlkOk X.N X.env.scope scope own)
    (hg : ∀ (s : Shared) (H : Hp) (C : Addr) (cl : List (Str × Addr)) (fp : List Addr), PG (X.blk s H scope (compEnvC scope cl C X.env) fp) tg g) (ht : ∀ (s : Shared) (H : Hp) (C : Addr) (cl : List (Str × Addr)) (fp : List Addr), PTs (X.blk s H scope (compEnvC scope cl C X.env) fp) ifs tt)
    (he : ∀ (s : Shared) (H : Hp) (C : Addr) (cl : List (Str × Addr)) (fp : List Addr), PE (X.blk s H scope (compEnvC scope cl C X.env) fp) elt te) (hs : ∀ x, foldedSetIterable iter X.env x = pure x)
    (h : tLc wi g tt te (own.map (·.2)) σ H Q)
    (hRR : ∀ D C s' m H', Inv X pins σ H' s' → Q (.ref D) H' → s'.heap.Ns C m → FpOk X pins H' C → compPost (model X.prog X.w) X.A X.xe use Qf (.ref D) C (.ok .next) s') :
    wpAny (model X.prog X.w) X.A (comprehension (.ListComp elt [⟨tg, iter, ifs, 0⟩] scope pos) scope X.env pos' (newList []) false (eval iter X.env) use) Qf X.xe s := by
  have hfree : ∀ y ∈ scope.names, y.2 = .free → ∃ c, X.env.cells.lookup y.1 = some c := fun y hy e => by
    rcases ok.free y hy e with k | k
    · exact I.ok.has _ (.inl k)
    · exact I.ok.has _ (.inr k)
  refine wpAny_comprehension_free (use := use) rfl hs (closure_ok hfree) ok.kind (fun y hy e => by rw [ok.uniq y hy, e])
    (thn (hi pins s σ H _ I h) fun xv s1 hx => thn hx fun itv s2 h2 => ?_)
  obtain ⟨it, fp, tn, J, H2, e, I2, T, st2, f2, q⟩ := h2
  subst e
  refine wpAny_newObj_type (newEnv_comp ?_) (by show 0 ≤ sizeLine; decide)
  generalize hD : s2.heap.objs.size = D
  have hDn : H2 D = none := I2.hok.fresh (Nat.le_of_eq hD)
  obtain ⟨W, ⟨m0, w0⟩, turn⟩ := q D hDn
  -- the new list
  generalize hs3 : ({ s2 with heap := s2.heap.push { cls := .type "list", data := .seq ([] : List Value).toArray } } : Shared) = s3
  have I3 : Inv X pins σ (upd H2 D (.lst [])) s3 := by
    rw [← hs3]
    refine I2.laid (t' := s2.toks) (fun b o e => Heap.get?_push_of_some _ e) (Nat.le_of_eq hD) ⟨Nat.zero_le _, [], 0, .nil, ?_⟩
    rw [← hD]
    exact Heap.get?_push_size _ rfl
  have h3 : s3.heap = s2.heap.push { cls := .type "list", data := .seq ([] : List Value).toArray } := by rw [← hs3]
  have sz : ∀ b ∈ fp, b < s2.heap.objs.size := fun b hb => by
    obtain ⟨o, e, _⟩ := T.obj _ _ st2 b hb
    exact Heap.lt_size e
  have f3 : ∀ b ∈ fp, FpOk X pins (upd H2 D (.lst [])) b ∧ b < s3.heap.objs.size := fun b hb => by
    have hlt := sz b hb
    refine ⟨⟨?_, (f2 b hb).2⟩, by rw [h3, Heap.size_push]; exact Nat.lt_succ_of_lt hlt⟩
    rw [upd_ne (by rw [← hD]; exact Nat.ne_of_lt hlt)]
    exact (f2 b hb).1
  have st3 : tn 0 s3.heap := T.keep _ _ _ st2 fun b _ o e => by rw [h3]; exact Heap.get?_push_of_some _ e
  have I4 := block_start I3 ok hN f3
  have pg := hg s3 (upd H2 D (.lst [])) s3.heap.objs.size (cellsFrom (s3.heap.objs.size + 1) scope.names (cloFrom X.env.cells scope.names [])) fp
  have pt := ht s3 (upd H2 D (.lst [])) s3.heap.objs.size (cellsFrom (s3.heap.objs.size + 1) scope.names (cloFrom X.env.cells scope.names [])) fp
  have pe := he s3 (upd H2 D (.lst [])) s3.heap.objs.size (cellsFrom (s3.heap.objs.size + 1) scope.names (cloFrom X.env.cells scope.names [])) fp
  show codeAny _ _ (.compStart (.ListComp elt [⟨tg, iter, ifs, 0⟩] scope pos) 0 (.ref it) (.ref D) (compEnvC scope (cellsFrom (s3.heap.objs.size + 1) scope.names (cloFrom X.env.cells scope.names [])) s3.heap.objs.size X.env)) (compPost (model X.prog X.w) X.A X.xe use Qf (.ref D) s3.heap.objs.size) { s3 with heap := pushCells (s3.heap.push { cls := .type "dict", data := .dict #[] }) scope.names }
  have nfp : ∀ b ∈ fp, (upd H2 D (.lst [])) b = none := fun b hb => (f3 b hb).1.1
  generalize hce : compEnvC scope (cellsFrom (s3.heap.objs.size + 1) scope.names (cloFrom X.env.cells scope.names [])) s3.heap.objs.size X.env = ce at I4 pg pt pe ⊢
  have cL : ce.locals = s3.heap.objs.size := by subst hce; rfl
  generalize hH3 : upd H2 D (.lst []) = H3 at I3 I4 pg pt pe w0 nfp f3
  generalize hs4 : ({ s3 with heap := pushCells (s3.heap.push { cls := .type "dict", data := .dict #[] }) scope.names } : Shared) = s4 at I4 ⊢
  have st4 : tn 0 s4.heap := T.keep _ _ _ st3 fun b _ o e => by rw [← hs4]; exact pushCells_keeps _ _ _ _ (Heap.get?_push_of_some _ e)
  have stat : ∀ {σ' : St} {H' : Hp} {s' : Shared}, Inv (X.blk s3 H3 scope ce fp) [] σ' H' s' → (∀ b ∈ fp, H' b = none) → ∀ b ∈ fp, FpOk (X.blk s3 H3 scope ce fp) [] H' b := fun {σ' H' s'} I' hn b hb =>
    ⟨hn b hb, (I'.ok.exf b hb).1, I'.ok.exfs b hb, .inl hb, fun x c e => (I'.ok.exf b hb).2 x c e, fun p hp => absurd (show p ∈ ([] : List (Addr × Obj)) ++ [] from hp) (by simp)⟩
  have loop : codeAny (model X.prog X.w) X.A (.compLoop (.ListComp elt [⟨tg, iter, ifs, 0⟩] scope pos) 0 (.ref it) (.ref D) ce) (compPost (model X.prog X.w) X.A X.xe use Qf (.ref D) s3.heap.objs.size) s4 := by
    refine compLoop_any (fun n s' => ∃ i H', Inv (X.blk s3 H3 scope ce fp) [] (wipe σ (own.map (·.2))) H' s' ∧ tn i s'.heap ∧ (∀ b ∈ fp, H' b = none) ∧ W i n H') ?_ m0 ⟨0, H3, I4, st4, nfp, w0⟩
    rintro n s5 ⟨i, H5, I5, st5, n5, w5⟩
    rcases turn i n H5 w5 with ⟨stop, qq⟩ | ⟨go, Nx, hNx, step⟩
    · have td := T.done (X.blk s3 H3 scope ce fp) rfl rfl rfl hc i [] s5 _ H5 (fun _ _ => False) I5 (stat I5 n5) st5 stop
      refine thnF td fun r s6 ⟨hr, I6⟩ => ?_
      subst hr
      -- back in the def's context
      have I7 : Inv X pins σ H5 s6 := I3.call' (ch := fp) I6.os I6.base I6.hok I6.bare fun b hb => ⟨(f3 b hb).1.2.2.2.1, (f3 b hb).1.2.1, (f3 b hb).1.2.2.2.2.1, (f3 b hb).1.2.2.2.2.2⟩
      have nC : H5 s3.heap.objs.size = none := by
        have z : H5 ce.locals = none := I6.free
        rw [cL] at z
        exact z
      obtain ⟨m, hn, _⟩ := I6.loc
      have hn : s6.heap.Ns ce.locals m := hn
      rw [cL] at hn
      exact hRR D s3.heap.objs.size s6 m H5 I7 qq hn (I3.fpOk (Nat.le_refl _) nC)
    · have ti := T.item (X.blk s3 H3 scope ce fp) rfl rfl rfl hc i [] s5 _ H5 (fun _ _ => False) I5 (stat I5 n5) st5 go
      refine thnF ti fun r s6 ⟨u, hr, h6⟩ => ?_
      subst hr
      refine thnF h6 fun _ s7 ⟨x, H7, I7, r7, y7, st7, n7⟩ => ?_
      have I7' := I7.pinned (stat I7 n7) (T.obj _ _ st7)
      refine thnF (pg _ s7 _ H7 x u _ I7' r7 (step x H7 y7)) fun _ s8 ⟨σ8, H8, I8, hw8, q8⟩ => ?_
      refine thnF (pt _ s8 σ8 H8 _ I8 q8) fun b s9 ⟨H9, I9, q9⟩ => ?_
      -- the turn's end
      have fin : ∀ {s' : Shared} {H' : Hp}, Inv (X.blk s3 H3 scope ce fp) ([] ++ pinsAt fp s7.heap) σ8 H' s' → Nx H' → ∃ m, m < n ∧ ∃ i H', Inv (X.blk s3 H3 scope ce fp) [] (wipe σ (own.map (·.2))) H' s' ∧ tn i s'.heap ∧ (∀ b ∈ fp, H' b = none) ∧ W i m H' := fun {s' H'} I' nx => by
        obtain ⟨m', hm, w'⟩ := hNx H' nx
        have pin' : ∀ b ∈ fp, ∀ o, s7.heap.get? b = some o → s'.heap.get? b = some o ∧ H' b = none := fun b hb o e =>
          let z := I'.pin (b, o) (List.mem_append_right _ (List.mem_append_right _ (mem_pinsAt hb e)))
          ⟨z.1, z.2.1⟩
        have hl : (wipe σ (own.map (·.2))).length = σ8.length := by rw [← hw8, wipe_length]
        refine ⟨m', hm, i + 1, H', (I'.unpinned (pins := [])).weak hl (fun j v e => ?_), T.keep _ _ _ st7 fun b hb o e => (pin' b hb o e).1, fun b hb => ?_, w'⟩
        · rw [← hw8] at e
          exact (wipe_some e).1
        · obtain ⟨o, e, _⟩ := T.obj _ _ st7 b hb
          exact (pin' b hb o e).2
      cases b with
      | false =>
        simp only [Bool.false_eq_true, if_false] at q9 ⊢
        exact fin I9 q9
      | true =>
        simp only [if_true] at q9 ⊢
        refine thnF (pe _ s9 σ8 H9 _ I9 q9) fun z s10 ⟨yv, H10, I10, r10, acc, hD10, hz10, nx⟩ => ?_
        exact app_ok (X := X.blk s3 H3 scope ce fp) I10 hD10 hz10 r10 fun s11 I11 => fin I11 nx
  exact codeAny_compStart_list loop (T.self X.A 0 _ _ _ st4 loop)
/-- as a value -/
theorem pe_lc {elt tg iter : Expr} {ifs : List Expr} {scope : Scope} {own : List (Str × Nat)} {pos : Pos} {wi : TI} {g : TG} {tt : TT} {te : TE} (hc : X.calm = true) (hN : X.N.Nodup) (hi : PI X tg iter wi) (ok : BlkOk X.N X.env.scope scope own)
    (hg : ∀ (s : Shared) (H : Hp) (C : Addr) (cl : List (Str × Addr)) (fp : List Addr), PG (X.blk s H scope (compEnvC scope cl C X.env) fp) tg g) (ht : ∀ (s : Shared) (H : Hp) (C : Addr) (cl : List (Str × Addr)) (fp : List Addr), PTs (X.blk s H scope (compEnvC scope cl C X.env) fp) ifs tt)
    (he : ∀ (s : Shared) (H : Hp) (C : Addr) (cl : List (Str × Addr)) (fp : List Addr), PE (X.blk s H scope (compEnvC scope cl C X.env) fp) elt te) (hs : ∀ x, foldedSetIterable iter X.env x = pure x := by intro _; rfl) :
    PE X (.ListComp elt [⟨tg, iter, ifs, 0⟩] scope pos) (tLc wi g tt te (own.map (·.2))) := by
  intro pins s σ H Q I h
  rw [eval_ListComp]
  refine lc_core hc hN I hi ok hg ht he hs h fun D C s' m H' I' q hn f => ⟨m, hn, fun h'' sb => ?_⟩
  obtain ⟨f0, f1, f2, f3, f4, f5⟩ := f
  exact ⟨.ref D, H', I'.turned (t' := s'.toks) (fun b o hb e => (sb.2 b hb).trans e) f0 f1 f3 f4 f5, rfl, q⟩
/-- name = [..] on one line, the name a local -/
theorem ps_setLc {i : Nat} {y : Str} {py : Pos} {elt tg iter : Expr} {ifs : List Expr} {scope : Scope} {own : List (Str × Nat)} {pos spos : Pos} {wi : TI} {g : TG} {tt : TT} {te : TE} (hc : X.calm = true) (hN : X.N.Nodup) (hy : X.N[i]? = some y) (hyl : X.env.scope.names.lookup y = some .local)
    (hsw : swapsWith (.ListComp elt [⟨tg, iter, ifs, 0⟩] scope pos) (some (.Name y py)) spos.line X.env = pure true) (hi : PI X tg iter wi) (ok : BlkOk X.N X.env.scope scope own)
    (hg : ∀ (s : Shared) (H : Hp) (C : Addr) (cl : List (Str × Addr)) (fp : List Addr), PG (X.blk s H scope (compEnvC scope cl C X.env) fp) tg g) (ht : ∀ (s : Shared) (H : Hp) (C : Addr) (cl : List (Str × Addr)) (fp : List Addr), PTs (X.blk s H scope (compEnvC scope cl C X.env) fp) ifs tt)
    (he : ∀ (s : Shared) (H : Hp) (C : Addr) (cl : List (Str × Addr)) (fp : List Addr), PE (X.blk s H scope (compEnvC scope cl C X.env) fp) elt te) (hs : ∀ x, foldedSetIterable iter X.env x = pure x := by intro _; rfl) :
    PS X (.Assign [.Name y py] (.ListComp elt [⟨tg, iter, ifs, 0⟩] scope pos) spos) (tAsg (tLc wi g tt te (own.map (·.2))) (gName i)) := by
  intro pins s σ H D I h
  rw [exec_Assign_Name_used _ _ _ _ hsw]
  refine wpAny_bind (wpAny_standAt (wpAny_bind ?_))
  show wpAny _ X.A (do let _ ← comprehension (.ListComp elt [⟨tg, iter, ifs, 0⟩] scope pos) scope X.env (firstIterPos [⟨tg, iter, ifs, 0⟩] pos) (newList []) false (eval iter X.env) (some (assign (.Name y py) X.env))) _ _ s
  have h : tLc wi g tt te (own.map (·.2)) σ H (fun x H1 => gName i x σ H1 D.nx) := h
  refine wpAny_bind (thn (lc_core (Qf := fun _ s' => SP X pins D .next s') hc hN I hi ok hg ht he hs h fun L C s' m H' I' q hn f => ?_) fun _ s' hq => wpAny_pure (wpAny_pure hq))
  show wpAny _ _ (assign (.Name y py) X.env (.ref L)) _ _ _
  refine wpAny_assign_Name (store_ok2 (v := V.ref L) I' hN hy (.inl hyl) rfl (fun s2 I2 ⟨a, sb, ha⟩ => ?_) (.inr hyl))
  obtain ⟨f0, f1, f2, f3, f4, f5⟩ := f
  have haC : C ≠ a := by
    rcases ha with z | z
    · rw [z]; exact f1
    · exact fun e => f4 y a z e.symm
  refine ⟨m, hn.sameBut sb haC, fun h3 sb3 => ?_⟩
  exact ⟨_, H', I2.turned (t' := s2.toks) (fun b o hb e => (sb3.2 b hb).trans e) f0 f1 f3 f4 f5, q⟩
theorem sw_true {elt : Expr} {gs : List Comprehension} {scope : Scope} {pos py : Pos} {y : Str} {l : Nat} {env : Env} (hk : env.scope.kind = .function) (hy : env.scope.names.lookup y = some .local) (hl : (py.line == pos.line) = true)
    (ha : (scope.names.any fun (n, k) => n == y && (k == .local || k == .cell)) = false) : swapsWith (.ListComp elt gs scope pos) (some (.Name y py)) l env = pure true := by
  have ky : env.kindOf y = some .local := hy
  have hb : env.blockKind = .function := by unfold Env.blockKind; rw [hk]; rfl
  unfold swapsWith
  simp only [hb, ky, ha, Expr.pos, hl]
  rfl
end

/-! ### the forms one uses -/
/-- over a range: Pv by the turn and the heap (the new list at D within) -/
theorem lc_range {lo : Int} {n : Nat} {g : TG} {tt : TT} {te : TE} {vs : List Nat} {σ : St} {H1 : Hp} {D : Addr} {Qd : Hp → Prop} (Pv : Nat → Hp → Prop) (h0 : Pv 0 (upd H1 D (.lst [])))
    (hs : ∀ i H, i < n → Pv i H → g (.int (lo + i)) (wipe σ vs) H fun σ2 H2 => wipe σ2 vs = wipe σ vs ∧ tt σ2 H2 fun b H3 =>
      if b = true then te σ2 H3 fun y H4 => ∃ acc, H4 D = some (.lst acc) ∧ acc.length < sizeLine ∧ Pv (i + 1) (upd H4 D (.lst (acc ++ [y]))) else Pv (i + 1) H3) (hd : ∀ H, Pv n H → Qd H) :
    ∃ W : Nat → Nat → Hp → Prop, (∃ m, W 0 m (upd H1 D (.lst []))) ∧ ∀ i m H, W i m H →
      ((Itr lo n).stop i H ∧ Qd H) ∨ ((Itr lo n).go i H ∧ ∃ Nx : Hp → Prop, (∀ H', Nx H' → ∃ m', m' < m ∧ W (i + 1) m' H') ∧ ∀ x H', (Itr lo n).yld i H x H' → g x (wipe σ vs) H' fun σ2 H2 => wipe σ2 vs = wipe σ vs ∧ tt σ2 H2 fun b H3 =>
        if b = true then te σ2 H3 fun y H4 => ∃ acc, H4 D = some (.lst acc) ∧ acc.length < sizeLine ∧ Nx (upd H4 D (.lst (acc ++ [y]))) else Nx H3) := by
  refine ⟨fun i m H => m = n - i ∧ i ≤ n ∧ Pv i H, ⟨n, by simp, Nat.zero_le _, h0⟩, ?_⟩
  rintro i m H ⟨rfl, hi, p⟩
  by_cases hlt : i < n
  · refine .inr ⟨hlt, Pv (i + 1), fun H' p' => ⟨n - (i + 1), by omega, rfl, hlt, p'⟩, fun x H' y => ?_⟩
    obtain ⟨e, y⟩ := y
    subst e y
    exact hs i _ hlt p
  · have e : i = n := by omega
    subst e
    exact .inl ⟨Nat.le_refl _, hd H p⟩
/-- over a list that the block leaves as it is -/
theorem lc_list {K : PySem.W.Frag} {a : Addr} {xs : List V} {g : TG} {tt : TT} {te : TE} {vs : List Nat} {σ : St} {H1 : Hp} {D : Addr} {Qd : Hp → Prop} (Pv : Nat → Hp → Prop) (h0 : Pv 0 (upd H1 D (.lst []))) (hl : ∀ i H, i ≤ xs.length → Pv i H → SqL K H a xs)
    (hs : ∀ i x H, xs[i]? = some x → Pv i H → g x (wipe σ vs) H fun σ2 H2 => wipe σ2 vs = wipe σ vs ∧ tt σ2 H2 fun b H3 =>
      if b = true then te σ2 H3 fun y H4 => ∃ acc, H4 D = some (.lst acc) ∧ acc.length < sizeLine ∧ Pv (i + 1) (upd H4 D (.lst (acc ++ [y]))) else Pv (i + 1) H3) (hd : ∀ H, Pv xs.length H → Qd H) :
    ∃ W : Nat → Nat → Hp → Prop, (∃ m, W 0 m (upd H1 D (.lst []))) ∧ ∀ i m H, W i m H →
      ((Itl K a).stop i H ∧ Qd H) ∨ ((Itl K a).go i H ∧ ∃ Nx : Hp → Prop, (∀ H', Nx H' → ∃ m', m' < m ∧ W (i + 1) m' H') ∧ ∀ x H', (Itl K a).yld i H x H' → g x (wipe σ vs) H' fun σ2 H2 => wipe σ2 vs = wipe σ vs ∧ tt σ2 H2 fun b H3 =>
        if b = true then te σ2 H3 fun y H4 => ∃ acc, H4 D = some (.lst acc) ∧ acc.length < sizeLine ∧ Nx (upd H4 D (.lst (acc ++ [y]))) else Nx H3) := by
  refine ⟨fun i m H => m = xs.length - i ∧ i ≤ xs.length ∧ Pv i H, ⟨xs.length, by simp, Nat.zero_le _, h0⟩, ?_⟩
  rintro i m H ⟨rfl, hi, p⟩
  have q := hl i H hi p
  by_cases hlt : i < xs.length
  · refine .inr ⟨⟨xs, xs[i], q, by simp [hlt]⟩, Pv (i + 1), fun H' p' => ⟨xs.length - (i + 1), by omega, rfl, hlt, p'⟩, fun x H' y => ?_⟩
    obtain ⟨e, y⟩ := y
    subst e
    exact hs i x _ (y xs q) p
  · have e : i = xs.length := by omega
    subst e
    exact .inl ⟨⟨xs, q, Nat.le_refl _⟩, hd H p⟩
/-- over a tuple -/
theorem lc_tup {K : PySem.W.Frag} {a : Addr} {xs : List V} {g : TG} {tt : TT} {te : TE} {vs : List Nat} {σ : St} {H1 : Hp} {D : Addr} {Qd : Hp → Prop} (Pv : Nat → Hp → Prop) (h0 : Pv 0 (upd H1 D (.lst []))) (hl : ∀ i H, i ≤ xs.length → Pv i H → SqT K H a xs)
    (hs : ∀ i x H, xs[i]? = some x → Pv i H → g x (wipe σ vs) H fun σ2 H2 => wipe σ2 vs = wipe σ vs ∧ tt σ2 H2 fun b H3 =>
      if b = true then te σ2 H3 fun y H4 => ∃ acc, H4 D = some (.lst acc) ∧ acc.length < sizeLine ∧ Pv (i + 1) (upd H4 D (.lst (acc ++ [y]))) else Pv (i + 1) H3) (hd : ∀ H, Pv xs.length H → Qd H) :
    ∃ W : Nat → Nat → Hp → Prop, (∃ m, W 0 m (upd H1 D (.lst []))) ∧ ∀ i m H, W i m H →
      ((Itt K a).stop i H ∧ Qd H) ∨ ((Itt K a).go i H ∧ ∃ Nx : Hp → Prop, (∀ H', Nx H' → ∃ m', m' < m ∧ W (i + 1) m' H') ∧ ∀ x H', (Itt K a).yld i H x H' → g x (wipe σ vs) H' fun σ2 H2 => wipe σ2 vs = wipe σ vs ∧ tt σ2 H2 fun b H3 =>
        if b = true then te σ2 H3 fun y H4 => ∃ acc, H4 D = some (.lst acc) ∧ acc.length < sizeLine ∧ Nx (upd H4 D (.lst (acc ++ [y]))) else Nx H3) := by
  refine ⟨fun i m H => m = xs.length - i ∧ i ≤ xs.length ∧ Pv i H, ⟨xs.length, by simp, Nat.zero_le _, h0⟩, ?_⟩
  rintro i m H ⟨rfl, hi, p⟩
  have q := hl i H hi p
  by_cases hlt : i < xs.length
  · refine .inr ⟨⟨xs, xs[i], q, by simp [hlt]⟩, Pv (i + 1), fun H' p' => ⟨xs.length - (i + 1), by omega, rfl, hlt, p'⟩, fun x H' y => ?_⟩
    obtain ⟨e, y⟩ := y
    subst e
    exact hs i x _ (y xs q) p
  · have e : i = xs.length := by omega
    subst e
    exact .inl ⟨⟨xs, q, Nat.le_refl _⟩, hd H p⟩
def blkC (N : List Str) (sc scope : Scope) (own : List (Str × Nat)) : Bool :=
  (match scope.kind with | .function => true | _ => false) && (scope.names.all fun y => decide (scope.names.lookup y.1 = some y.2)) && (own.all fun p => decide (N[p.2]? = some p.1)) &&
    (scope.names.all fun y => match y.2 with
      | .free => (match sc.names.lookup y.1 with | some .cell => true | some .free => true | _ => false)
      | .local => decide (y.1 ∈ own.map (·.1)) || decide (y.1 ∉ N)
      | .cell => decide (y.1 ∈ own.map (·.1)) || decide (y.1 ∉ N)
      | _ => true)
theorem blkOk_by {N : List Str} {sc scope : Scope} {own : List (Str × Nat)} (h : blkC N sc scope own = true) : BlkOk N sc scope own := by
  unfold blkC at h
  simp only [Bool.and_eq_true, List.all_eq_true, decide_eq_true_eq] at h
  obtain ⟨⟨⟨h1, h2⟩, h3⟩, h4⟩ := h
  refine ⟨?_, h2, h3, fun y hy e => ?_, fun y hy e => ?_⟩
  · split at h1
    · assumption
    · cases h1
  · have q := h4 y hy
    simp only [e] at q
    split at q <;> first | exact .inl (by assumption) | exact .inr (by assumption) | cases q
  · have q := h4 y hy
    rcases e with e | e <;> (simp only [e, Bool.or_eq_true, decide_eq_true_eq] at q; exact q)
end L2

namespace L2
open PySem PySem.Spec PyProof.Rows

section
variable {prog : Program} {w : World} {A : Around} {R : Result → Shared → Prop} {s : Shared} {elt t0 i0 t1 i1 : Expr} {ifs0 ifs1 : List Expr} {scope : Scope} {pos : Pos} {it acc : Value} {env : Env}
end

section
variable {X : Cx}
end
end L2

namespace L2
open PySem PySem.Spec PyProof.Rows

/-! ### lists of pairs as tables -/
section
variable {κ : Type} [DecidableEq κ]
def valV (kvs : List (κ × V)) (k : κ) : Option V := (kvs.find? fun kv => decide (kv.1 = k)).map (·.2)
/-- in its place, or at the end -/
def putK (kvs : List (κ × V)) (k : κ) (v : V) : List (κ × V) :=
  if (kvs.any fun kv => decide (kv.1 = k)) = true then kvs.map (fun kv => if kv.1 = k then (kv.1, v) else kv) else kvs ++ [(k, v)]
def dropK (kvs : List (κ × V)) (k : κ) : List (κ × V) := kvs.filter fun kv => decide (kv.1 ≠ k)

theorem valV_pos {p : κ × V} {r : List (κ × V)} {k : κ} (e : p.1 = k) : valV (p :: r) k = some p.2 := by simp [valV, List.find?_cons, e]
theorem valV_neg {p : κ × V} {r : List (κ × V)} {k : κ} (e : ¬ p.1 = k) : valV (p :: r) k = valV r k := by simp [valV, List.find?_cons, e]
theorem valV_any (k : κ) : ∀ kvs : List (κ × V), (kvs.any fun kv => decide (kv.1 = k)) = (valV kvs k).isSome
  | [] => rfl
  | p :: r => by
    rw [List.any_cons]
    by_cases e : p.1 = k
    · simp only [valV_pos e, decide_eq_true e, Bool.true_or, Option.isSome_some]
    · rw [valV_neg e, decide_eq_false e, Bool.false_or]; exact valV_any k r
theorem RelO.isSome_eq {o : Option V} {u : Option Value} (r : RelO o u) : o.isSome = u.isSome := by
  cases o with
  | none => cases u with
    | none => rfl
    | some _ => exact (show False from r).elim
  | some _ => cases u with
    | none => exact (show False from r).elim
    | some _ => rfl
theorem RelO.getD {o : Option V} {u : Option Value} {d : V} {d' : Value} (r : RelO o u) (rd : RelV d d') : RelV (o.getD d) (u.getD d') := by
  cases o with
  | none => cases u with
    | none => exact rd
    | some _ => exact (show False from r).elim
  | some _ => cases u with
    | none => exact (show False from r).elim
    | some _ => exact r

/-- raw tables of the same keys -/
theorem KV.val {kvs : List (κ × V)} {vs : List (κ × Value)} (r : KV kvs vs) (k : κ) : RelO (valV kvs k) (valueAt vs k) := by
  unfold KV at r
  induction r with
  | nil => exact True.intro
  | @cons p q ps qs h t ih =>
    obtain ⟨h1, h2⟩ := h
    by_cases e : p.1 = k
    · have e' : q.1 = k := h1.symm.trans e
      have b : valueAt (q :: qs) k = some q.2 := by simp [valueAt, List.find?_cons, e']
      rw [valV_pos e, b]; exact h2
    · have e' : ¬ q.1 = k := fun z => e (h1.trans z)
      have b : valueAt (q :: qs) k = valueAt qs k := by simp [valueAt, List.find?_cons, e']
      rw [valV_neg e, b]; exact ih
theorem KV.any {kvs : List (κ × V)} {vs : List (κ × Value)} (r : KV kvs vs) (k : κ) : (kvs.any fun kv => decide (kv.1 = k)) = vs.any fun kv => decide (kv.1 = k) := by
  unfold KV at r
  induction r with
  | nil => rfl
  | cons h t ih => rw [List.any_cons, List.any_cons, ih, h.1]
theorem KV.repl {kvs : List (κ × V)} {vs : List (κ × Value)} (r : KV kvs vs) (k : κ) {y : V} {u : Value} (ry : RelV y u) :
    KV (kvs.map fun kv => if kv.1 = k then (kv.1, y) else kv) (vs.map fun kv => if kv.1 = k then (kv.1, u) else kv) := by
  unfold KV at r ⊢
  induction r with
  | nil => exact .nil
  | @cons p q ps qs h t ih =>
    rw [List.map_cons, List.map_cons]
    refine .cons ?_ ih
    obtain ⟨h1, h2⟩ := h
    by_cases e : p.1 = k
    · rw [if_pos e, if_pos (h1.symm.trans e)]; exact ⟨h1, ry⟩
    · rw [if_neg e, if_neg (fun z => e (h1.trans z))]; exact ⟨h1, h2⟩
theorem KV.put {kvs : List (κ × V)} {vs : List (κ × Value)} (r : KV kvs vs) (k : κ) {y : V} {u : Value} (ry : RelV y u) : KV (putK kvs k y) (stored vs k u) := by
  unfold putK stored
  rw [r.any k]
  by_cases e : (vs.any fun kv => decide (kv.1 = k)) = true
  · rw [if_pos e, if_pos e]; exact r.repl k ry
  · rw [if_neg e, if_neg e]; exact Paired.snoc r ⟨rfl, ry⟩
theorem KV.drop {kvs : List (κ × V)} {vs : List (κ × Value)} (r : KV kvs vs) (k : κ) : KV (dropK kvs k) (without vs k) := by
  unfold KV at r ⊢
  unfold dropK without
  induction r with
  | nil => exact .nil
  | @cons p q ps qs h t ih =>
    obtain ⟨h1, h2⟩ := h
    rw [List.filter_cons, List.filter_cons]
    by_cases e : p.1 = k
    · have a : ¬ decide (p.1 ≠ k) = true := by simp [e]
      have b : ¬ decide (q.1 ≠ k) = true := by simp [h1.symm.trans e]
      rw [if_neg a, if_neg b]; exact ih
    · have e' : ¬ q.1 = k := fun z => e (h1.trans z)
      have a : decide (p.1 ≠ k) = true := by simp [e]
      have b : decide (q.1 ≠ k) = true := by simp [e']
      rw [if_pos a, if_pos b]; exact .cons ⟨h1, h2⟩ ih
theorem KV.keys {kvs : List (κ × V)} {vs : List (κ × Value)} (r : KV kvs vs) : kvs.map (·.1) = vs.map (·.1) := by
  unfold KV at r
  induction r with
  | nil => rfl
  | cons h t ih => rw [List.map_cons, List.map_cons, ih, h.1]
theorem KV.length {kvs : List (κ × V)} {vs : List (κ × Value)} (r : KV kvs vs) : kvs.length = vs.length := Paired.length r
end


/-! ### a tracked dict, its keys ints and texts or tuples of these -/
/-- raw entries of a dict with tuple keys -/
abbrev KT (H : Hp) : List (List Key × V) → List (List Key × Addr × Value) → Prop := Paired fun p q => p.1 = q.1 ∧ H q.2.1 = some (.tup (p.1.map kV)) ∧ RelV p.2 q.2.2
theorem KT.val {H : Hp} {kvs : List (List Key × V)} {xs : List (List Key × Addr × Value)} (r : KT H kvs xs) (k : List Key) : RelO (valV kvs k) ((atKey xs k).map (·.2)) := by
  induction r with
  | nil => exact True.intro
  | @cons p q ps qs h t ih =>
    obtain ⟨h1, _, h2⟩ := h
    by_cases e : p.1 = k
    · have e' : q.1 = k := h1.symm.trans e
      have b : atKey (q :: qs) k = some q.2 := by simp [atKey, List.find?_cons, e']
      rw [valV_pos e, b]; exact h2
    · have e' : ¬ q.1 = k := fun z => e (h1.trans z)
      have b : atKey (q :: qs) k = atKey qs k := by simp [atKey, List.find?_cons, e']
      rw [valV_neg e, b]; exact ih
theorem KT.repl {H : Hp} {kvs : List (List Key × V)} {xs : List (List Key × Addr × Value)} (r : KT H kvs xs) (k : List Key) {y : V} {u : Value} (ry : RelV y u) :
    KT H (kvs.map fun kv => if kv.1 = k then (kv.1, y) else kv) (xs.map (putAt k u)) := by
  induction r with
  | nil => exact .nil
  | @cons p q ps qs h t ih =>
    rw [List.map_cons, List.map_cons]
    refine .cons ?_ ih
    obtain ⟨h1, h2, h3⟩ := h
    unfold putAt
    by_cases e : p.1 = k
    · rw [if_pos e, if_pos (h1.symm.trans e)]; exact ⟨h1, h2, ry⟩
    · rw [if_neg e, if_neg (fun z => e (h1.trans z))]; exact ⟨h1, h2, h3⟩
theorem KT.put {H : Hp} {kvs : List (List Key × V)} {xs : List (List Key × Addr × Value)} (r : KT H kvs xs) (k : List Key) {b : Addr} {y : V} {u : Value} (hb : H b = some (.tup (k.map kV))) (ry : RelV y u) :
    KT H (putK kvs k y) (storedH xs k b u) := by
  have e : (kvs.any fun kv => decide (kv.1 = k)) = (atKey xs k).isSome := by
    rw [valV_any, (r.val k).isSome_eq, Option.isSome_map]
  unfold putK storedH
  rw [e]
  by_cases q : (atKey xs k).isSome = true
  · rw [if_pos q, if_pos q]; exact r.repl k ry
  · rw [if_neg q, if_neg q]; exact Paired.snoc r ⟨rfl, hb, ry⟩
theorem KT.keeps {H H' : Hp} {kvs : List (List Key × V)} {xs : List (List Key × Addr × Value)} (r : KT H kvs xs) (ht : ∀ b ys, H b = some (.tup ys) → H' b = some (.tup ys)) : KT H' kvs xs :=
  Paired.mapP r fun _ _ z => ⟨z.1, ht _ _ z.2.1, z.2.2⟩

section
variable {P : Program} {w : World} {H : Hp} {h : Heap} {a : Addr}
end

/-- what the dict at a holds at the key y -/
def DGet (H : Hp) (a : Addr) (y : V) (r : Option V) : Prop :=
  (∃ kvs k, Rd H a (.dK kvs) ∧ y = kV k ∧ r = valV kvs k) ∨ ∃ kvs k b, Rd H a (.dT kvs) ∧ y = .ref b ∧ H b = some (.tup (k.map kV)) ∧ r = valV kvs k
/-- the heap behind a[y] = v -/
def DPut (H : Hp) (a : Addr) (y v : V) (H' : Hp) : Prop :=
  (∃ kvs k, H a = some (.dK kvs) ∧ y = kV k ∧ kvs.length < sizeLine ∧ H' = upd H a (.dK (putK kvs k v))) ∨
  ∃ kvs k b, H a = some (.dT kvs) ∧ y = .ref b ∧ H b = some (.tup (k.map kV)) ∧ kvs.length < sizeLine ∧ H' = upd H a (.dT (putK kvs k v))
theorem DGet.k {H : Hp} {a : Addr} {kvs : List (Key × V)} {k : Key} (e : H a = some (.dK kvs)) : DGet H a (kV k) (valV kvs k) := .inl ⟨kvs, k, .inl e, rfl, rfl⟩
theorem DGet.t {H : Hp} {a b : Addr} {kvs : List (List Key × V)} {k : List Key} (e : H a = some (.dT kvs)) (eb : H b = some (.tup (k.map kV))) : DGet H a (.ref b) (valV kvs k) := .inr ⟨kvs, k, b, .inl e, rfl, eb, rfl⟩
theorem DPut.k {H : Hp} {a : Addr} {kvs : List (Key × V)} {k : Key} {v : V} (e : H a = some (.dK kvs)) (hl : kvs.length < sizeLine) : DPut H a (kV k) v (upd H a (.dK (putK kvs k v))) := .inl ⟨kvs, k, e, rfl, hl, rfl⟩
theorem DPut.t {H : Hp} {a b : Addr} {kvs : List (List Key × V)} {k : List Key} {v : V} (e : H a = some (.dT kvs)) (eb : H b = some (.tup (k.map kV))) (hl : kvs.length < sizeLine) :
    DPut H a (.ref b) v (upd H a (.dT (putK kvs k v))) := .inr ⟨kvs, k, b, e, rfl, eb, hl, rfl⟩


section
variable {X : Cx} {pins : List (Addr × Obj)} {σ : St} {H : Hp} {s : Shared} {a : Addr} {y v : V} {u r : Value} {o : Option V} {A : Around} {E : Value → Shared → Prop}

theorem Inv.big (I : Inv X pins σ H s) : sysModules < s.heap.objs.size := by
  have h : mainGlobals < s.heap.objs.size := (I.mod.glob.keeps I.bk).lt
  exact Nat.lt_trans (by decide) h

end

section
variable {X : Cx} {pins : List (Addr × Obj)} {σ : St} {H : Hp} {s : Shared} {a : Addr} {kvs : List (Key × V)} {k : Key} {u : Value} {A : Around} {E : Value → Shared → Prop}
end


/-! ### readings and rules -/
section
variable {X : Cx} {o i e value : Expr} {pos pos' tpos : Pos} {td ty tv : TE}
end


/-! ### displays -/
section
variable {X : Cx} {pos : Pos}
end

def mergeK (kvs more : List (Key × V)) : List (Key × V) := more.foldl (fun acc kv => putK acc kv.1 kv.2) kvs
theorem KV.merge : ∀ {more : List (Key × V)} {rs : List (Key × Value)} {kvs : List (Key × V)} {vs : List (Key × Value)}, KV more rs → KV kvs vs → KV (mergeK kvs more) (merged vs rs) := by
  intro more rs kvs vs r
  unfold KV at r
  induction r generalizing kvs vs with
  | nil => intro q; exact q
  | @cons p q ps qs h t ih =>
    intro r0
    have e : KV (putK kvs p.1 p.2) (stored vs q.1 q.2) := by
      have := r0.put p.1 h.2
      rw [← h.1]; exact this
    exact ih e
/-! ### methods -/
/-- a method call o.m(e) of a built-in, with one argument: what must be seen of the text -/
structure M1 (X : Cx) (o : Expr) (m : Str) (apos : Pos) (e : Expr) (cpos : Pos) : Prop where
  base : attributeBase o m X.env (eval o X.env) = eval o X.env
  few : ((backTo cpos (starEach [e] X.env)).all (fun x => !x.1) && (backToKw cpos (keywordEach [] X.env)).all (fun x => x.1.isSome)
    && decide (([e] : List Expr).length + ([] : List Keyword).length + (if ([] : List Keyword).isEmpty then 0 else 1) < 30)) = true
  line : (apos.endLine == cpos.line) = true
  trees : backTo cpos (starEach [e] X.env) = [(false, eval e X.env)]
structure M2 (X : Cx) (o : Expr) (m : Str) (apos : Pos) (e f : Expr) (cpos : Pos) : Prop where
  base : attributeBase o m X.env (eval o X.env) = eval o X.env
  few : ((backTo cpos (starEach [e, f] X.env)).all (fun x => !x.1) && (backToKw cpos (keywordEach [] X.env)).all (fun x => x.1.isSome)
    && decide (([e, f] : List Expr).length + ([] : List Keyword).length + (if ([] : List Keyword).isEmpty then 0 else 1) < 30)) = true
  line : (apos.endLine == cpos.line) = true
  trees : backTo cpos (starEach [e, f] X.env) = [(false, eval e X.env), (false, eval f X.env)]

section
variable {X : Cx} {pins : List (Addr × Obj)} {σ : St} {H : Hp} {s : Shared} {a : Addr} {y d : V} {u r : Value} {o : Option V} {A : Around} {E : Value → Shared → Prop}
end

section
variable {X : Cx} {o e f : Expr} {apos cpos : Pos} {td ty tx : TE}
end

/-! ### dict(d): a copy -/
section
variable {X : Cx} {pins : List (Addr × Obj)} {σ : St} {H : Hp} {s : Shared} {a : Addr} {kvs : List (Key × V)} {A : Around} {E : Value → Shared → Prop}
end


section
variable {X : Cx} {pins : List (Addr × Obj)} {σ : St} {H : Hp} {s : Shared} {a : Addr} {y : V} {u : Value} {A : Around} {E : Value → Shared → Prop}
end
end L2

namespace L2
open PySem PySem.Spec PyProof.Rows

section
variable {prog : Program} {w : World} {A : Around} {E : Value → Shared → Prop}
end

section
variable {X : Cx}
end
end L2

namespace L2
open PySem PySem.Spec PyProof.Rows

section
variable {X : Cx} {pins : List (Addr × Obj)} {σ : St} {H : Hp} {s : Shared} {h' : Heap}
/-- several records of ours have turned -/
theorem Inv.turnedL {t' : Nat} {ch : List Addr} (I : Inv X pins σ H s) (k : ∀ b o, b ∉ ch → s.heap.get? b = some o → h'.get? b = some o) (hf : ∀ b ∈ ch, FpOk X pins H b) : Inv X pins σ H { s with heap := h', toks := t' } := by
  have nit : ∀ b u, H b = some u → b ∉ ch := fun b u e z => by
    have q := (hf b z).1
    rw [q] at e; cases e
  refine I.step (g' := s.gens) (d' := s.drawn) (ch := ch) (fun b hb => ⟨(hf b hb).2.2.2.1, (hf b hb).2.1, (hf b hb).2.2.2.2.1, (hf b hb).2.2.2.2.2⟩) (fun b o _ _ hc e _ => k b o hc e) (fun b o _ _ hc e _ => ⟨o.slots, k b o hc e⟩)
    (fun _ _ _ _ n => n) (fun b o hc e => ⟨o, k b o hc e⟩) (fun _ _ e => e) (fun _ _ _ e => e) (fun b ps e => ⟨#[], by rw [e]; simp⟩) (fun m hm => ?_) (fun b u e => ?_) I.bare
  · obtain ⟨o, es, ep, ho, r⟩ := hm
    exact ⟨o, es, ep, k _ o (fun z => (hf _ z).2.1 rfl) ho, r⟩
  · refine (I.hok b u e).stay (fun c v hc q => k c v ?_ q) (fun _ q => q) fun _ _ q => q
    rcases hc with z | z
    · rw [z]; exact nit b u e
    · exact nit c _ z
/-- .. and one new object is laid -/
theorem Inv.turnedNew {t' : Nat} {ch : List Addr} {T : Addr} {ob : HO} (I : Inv X pins σ H s) (k : ∀ b o, b ∉ ch → s.heap.get? b = some o → h'.get? b = some o) (hf : ∀ b ∈ ch, FpOk X pins H b) (hT : s.heap.objs.size ≤ T)
    (new : ObjOk X.prog X.w (upd H T ob) h' T ob) : Inv X pins σ (upd H T ob) { s with heap := h', toks := t' } := by
  have hn : H T = none := I.hok.fresh hT
  have nit : ∀ b u, H b = some u → b ∉ ch := fun b u e z => by
    have q := (hf b z).1
    rw [q] at e; cases e
  refine I.step (g' := s.gens) (d' := s.drawn) (ch := ch) (fun b hb => ⟨(hf b hb).2.2.2.1, (hf b hb).2.1, (hf b hb).2.2.2.2.1, (hf b hb).2.2.2.2.2⟩) (fun b o _ _ hc e _ => k b o hc e) (fun b o _ _ hc e _ => ⟨o.slots, k b o hc e⟩)
    (fun b o _ e n => ?_) (fun b o hc e => ⟨o, k b o hc e⟩) (fun b xs e => ?_) (fun b o u e => ?_) (fun b ps e => ⟨#[], ?_⟩) (fun m hm => ?_) (fun b u e => ?_) I.bare
  · rw [upd_ne (Nat.ne_of_lt (Nat.lt_of_lt_of_le (Heap.lt_size e) hT))]; exact n
  · rw [upd_ne (ne_of_none e hn)]; exact e
  · rw [upd_ne (ne_of_none e hn)]; exact e
  · rw [upd_ne (ne_of_none e hn), e]; simp
  · obtain ⟨o, es, ep, ho, r⟩ := hm
    exact ⟨o, es, ep, k _ o (fun z => (hf _ z).2.1 rfl) ho, r⟩
  · by_cases hb : b = T
    · subst hb
      rw [upd_same] at e
      cases e
      exact new
    · rw [upd_ne hb] at e
      refine (I.hok b u e).stay (fun c v hc q => k c v ?_ q) (fun c q => by rw [upd_ne (ne_of_none q hn)]; exact q) fun c xs q => by rw [upd_ne (ne_of_none q hn)]; exact q
      rcases hc with z | z
      · rw [z]; exact nit b u e
      · exact nit c _ z

/-! ### locking a thing while a statement runs -/
end
section
variable {X : Cx}
/-! ### one iterator just laid -/
theorem pi_one {tg : Expr} {pins : List (Addr × Obj)} {σ : St} {H : Hp} {s : Shared} {R : It → Hp → Prop} {J : It} {tn : Nat → Heap → Prop} {tk : Nat} (I : Inv X pins σ H s) (o : Obj)
    (T : Turn X.prog X.w X.K tg J [s.heap.objs.size] s.heap.objs.size tn) (st : tn 0 (s.heap.push o)) (q : R J H) : PIE X pins σ tg R (.ref s.heap.objs.size) { s with heap := s.heap.push o, toks := tk } := by
  refine ⟨s.heap.objs.size, [s.heap.objs.size], tn, J, H, rfl, I.kept fun b ob e => Heap.get?_push_of_some _ e, T, st, fun b hb => ?_, q⟩
  have e : b = s.heap.objs.size := by simpa using hb
  subst e
  exact I.fpOk (Nat.le_refl _) (I.hok.fresh (Nat.le_refl _))
end

/-! ### range with a step -/
/-- range(i, j, c): small bounds, n items -/
def RgC (i j c : Int) (n : Nat) : Prop := c ≠ 0 ∧ c.natAbs < 1073741824 ∧ Builtin.Range.small i j c = true ∧ Builtin.Range.rangeSize i j c = n
theorem RgC.neg {i j : Int} (ha : -(2 ^ 62) ≤ i) (ha' : i < 2 ^ 62) (hb : -(2 ^ 62) ≤ j) (hb' : j < 2 ^ 62) : RgC i j (-1) (i - j).toNat :=
  ⟨by decide, by decide, PySem.W.small_down ha ha' hb hb', PySem.W.rangeSize_downNat i j⟩
section
variable {X : Cx} {tg : Expr}
end
/-! ### reversed(list) -/
section
variable {X : Cx} {tg : Expr}
end

/-! ### a str -/
def Its (x : Str) : It := ⟨fun i _ => i < x.cps.size, fun i H v H' => H' = H ∧ ∃ c, x.cps[i]? = some c ∧ v = .str ⟨#[c]⟩, fun i _ => x.cps.size ≤ i⟩
theorem turn_str {P : Program} {w : World} {K : PySem.W.Frag} {tg : Expr} (it : Addr) (x : Str) (t : Tok) (ty : String) (hty : ty = "str_ascii_iterator" ∨ ty = "str_iterator") :
    Turn P w K tg (Its x) [it] it (fun i h => h.IsStrIter it ty x t i) where
  mem := by simp
  obj := fun i h st b hb => by
    have e : b = it := by simpa using hb
    subst e
    obtain ⟨o, e, c, d⟩ := st
    exact ⟨o, e, fun v z => by rw [d] at z; cases z⟩
  keep := fun i h h' st k => let ⟨o, ho, r⟩ := st; ⟨o, k it (by simp) o ho, r⟩
  item := by
    intro X hP hw hK hc i pins s σ H E I hf st hg
    subst hP hw hK
    obtain ⟨f0, f1, f2, f3, f4, f5⟩ := hf it (by simp)
    have W : Walks X.prog X.w X.A it [it] [it] x.cps.size (SignAt x) (fun i h => h.IsStrIter it ty x t i) := by
      rcases hty with e | e
      · rw [e]; exact Walks.strAscii (I.ok.hd hc) it x t
      · rw [e]; exact Walks.strWide (I.ok.hd hc) it x t
    have hno : ["enumerate", "zip", "dict_itemiterator", "dict_reverseitemiterator", "odict_iterator", "itertools.zip_longest", "itertools.pairwise"].contains ty = false := by
      rcases hty with e | e
      · rw [e]; decide
      · rw [e]; decide
    refine W.item i s _ _ hg st fun v h' tk hv st' kk => ?_
    obtain ⟨c, u, hcx, rfl⟩ := hv
    have I1 : Inv X pins σ H { s with heap := h', toks := tk } := I.turned (fun b o hb e => kk b o (by simpa using hb) e) f0 f1 f3 f4 f5
    obtain ⟨oi, e, cc, dd⟩ := id st'
    exact ⟨_, rfl, go_of (s := { s with heap := h', toks := tk }) e cc dd hno ⟨.str ⟨#[c]⟩, H, I1, ⟨u, rfl⟩, ⟨rfl, c, hcx, rfl⟩, st', fun b hb => (hf b hb).1⟩⟩
  done := by
    intro X hP hw hK hc i pins s σ H E I hf st hg
    subst hP hw hK
    obtain ⟨f0, f1, f2, f3, f4, f5⟩ := hf it (by simp)
    have hx : x.cps[i]? = none := Array.getElem?_eq_none hg
    rcases hty with e | e
    · rw [e] at st
      exact wpAny_pyNext_ascii_end (I.ok.hd hc) st hx fun h' eb => ⟨rfl, I.turned (t' := s.toks) (fun b o hb e => eb b o hb e) f0 f1 f3 f4 f5⟩
    · rw [e] at st
      exact wpAny_pyNext_wide_end (I.ok.hd hc) st hx fun h' eb => ⟨rfl, I.turned (t' := s.toks) (fun b o hb e => eb b o hb e) f0 f1 f3 f4 f5⟩
  self := fun A i s Q E st h => by
    rcases hty with e | e
    · rw [e] at st; exact wpAny_pyIter_striter_ascii st h
    · rw [e] at st; exact wpAny_pyIter_striter_wide st h
def iStr (te : TE) : TI := fun σ H R => te σ H fun v H1 => ∃ x, v = .str x ∧ R (Its x) H1
theorem pi_str {X : Cx} {tg e : Expr} {te : TE} (he : PE X e te) : PI X tg e (iStr te) := by
  intro pins s σ H R I h
  refine thn (he pins s σ H _ I h) fun v s1 ⟨y, H1, I1, r1, x, ex, q⟩ => ?_
  subst ex
  obtain ⟨t, rfl⟩ := r1
  cases ha : x.cps.all (· < 128)
  · exact wpAny_pyIter_wide ha (pi_one (tk := s1.toks) I1 _ (turn_str _ x t "str_iterator" (.inr rfl)) ⟨_, Heap.get?_push_size _ rfl, rfl, rfl⟩ q)
  · exact wpAny_pyIter_ascii ha (pi_one (tk := s1.toks) I1 _ (turn_str _ x t "str_ascii_iterator" (.inl rfl)) ⟨_, Heap.get?_push_size _ rfl, rfl, rfl⟩ q)

/-! ### a dict's keys: any dict's entries -/
section
variable {prog : Program} {w : World} {A : Around} {E : Value → Shared → Prop} {s : Shared}
end

/-! ### a locked dict -/
section
variable {X : Cx} {pins : List (Addr × Obj)} {σ : St} {H : Hp} {s : Shared} {d : Addr} {o : Obj}
end

section
variable {P : Program} {w : World} {K : PySem.W.Frag} {tg : Expr} {d : Addr} {o : Obj} {es : Array DictEntry} {ep : Nat}
end

/-! ### for k in d, d.keys(), d.values(), d.items() -/
section
variable {X : Cx} {tg e : Expr} {td : TE} {apos cpos : Pos}
end

/-! ### enumerate(list) -/
/-- the list at a as it stands at each turn, each item in a new pair -/
def Ite (K : PySem.W.Frag) (a : Addr) : It :=
  ⟨fun i H => ∃ (xs : List V) (x : V), SqL K H a xs ∧ xs[i]? = some x, fun i H v H' => ∃ T x, v = .ref T ∧ H T = none ∧ H' = upd H T (.tup [.int (i : Nat), x]) ∧ ∀ xs, SqL K H a xs → xs[i]? = some x, fun i H => ∃ xs : List V, SqL K H a xs ∧ xs.length ≤ i⟩
theorem turn_enum {P : Program} {w : World} {K : PySem.W.Frag} {elts : List Expr} {kk : Nat} {tpos : Pos} (a e it : Addr) :
    Turn P w K (.Tuple elts kk tpos) (Ite K a) [e, it] e (fun i h => (∃ old, IsEnum h e it ((i : Nat) : Int) old) ∧ h.IsListIter it a i ∧ e ≠ it) where
  mem := by simp
  obj := fun i h st b hb => by
    obtain ⟨⟨old, he⟩, ⟨o, ho, hc, hd⟩, _⟩ := st
    have e' : b = e ∨ b = it := by simpa using hb
    rcases e' with z | z
    · rw [z]; exact ⟨_, he, fun v q => nomatch q⟩
    · rw [z]; exact ⟨o, ho, fun v q => by rw [hd] at q; cases q⟩
  keep := fun i h h' st k => let ⟨⟨old, he⟩, hi, hne⟩ := st; ⟨⟨old, k e (by simp) _ he⟩, hi.at fun o q => k it (by simp) o q, hne⟩
  item := by
    intro X hP hw hK hc i pins s σ H E I hf st hg
    subst hP hw hK
    obtain ⟨⟨old, he⟩, hit, hne⟩ := st
    obtain ⟨xs, x, hq, hx⟩ := hg
    obtain ⟨its, rv, p, hz⟩ := I.list hq
    obtain ⟨u, hu, ru⟩ := rv.get hx
    have hel : e < s.heap.objs.size := Heap.lt_size he
    have hil : it < s.heap.objs.size := by obtain ⟨_, q, _⟩ := hit; exact Heap.lt_size q
    refine wpAny_pyNext_enum_item he hit p.isList (x := u) (by simpa using hu) hne fun h' ho hit' hT hsz hk => ?_
    refine ⟨_, rfl, wpAny_letOwnedTupleGo_enum (s := { s with heap := h', toks := s.toks + 1 }) ho fun h'' he' sb => ?_⟩
    have hT2 : h''.get? s.heap.objs.size = some { cls := .type "tuple", data := .seq #[.int i s.toks, u] } := (sb.2 _ (Nat.ne_of_gt hel)).trans hT
    have new : ObjOk X.prog X.w (upd H s.heap.objs.size (.tup [.int (i : Nat), x])) h'' s.heap.objs.size (.tup [.int (i : Nat), x]) :=
      ⟨by show 2 ≤ sizeLine; decide, [.int i s.toks, u], .cons ⟨_, rfl⟩ (.cons ru .nil), ⟨_, hT2, rfl, _, rfl⟩⟩
    have I1 : Inv X pins σ (upd H s.heap.objs.size (.tup [.int (i : Nat), x])) { s with heap := h'', toks := s.toks + 1 } :=
      I.turnedNew (ch := [e, it]) (fun b ob hb q => (sb.2 b (fun z => hb (by simp [z]))).trans (hk b ob (fun z => hb (by simp [z])) (fun z => hb (by simp [z])) q)) hf (Nat.le_refl _) new
    refine ⟨.ref s.heap.objs.size, _, I1, rfl, ⟨_, x, rfl, I.hok.fresh (Nat.le_refl _), rfl, fun ys hy => by rw [I.list_inj hy hq]; exact hx⟩, ⟨⟨u, ?_⟩, hit'.at fun o q => (sb.2 it (Ne.symm hne)).trans q, hne⟩, fun b hb => ?_⟩
    · have e1 : ((i + 1 : Nat) : Int) = (i : Int) + 1 := by omega
      rw [e1]; exact he'
    · have hb' : b < s.heap.objs.size := by
        have e' : b = e ∨ b = it := by simpa using hb
        rcases e' with z | z
        · rw [z]; exact hel
        · rw [z]; exact hil
      rw [upd_ne (Nat.ne_of_lt hb')]
      exact (hf b hb).1
  done := by
    intro X hP hw hK hc i pins s σ H E I hf st hg
    subst hP hw hK
    obtain ⟨⟨old, he⟩, hit, hne⟩ := st
    obtain ⟨xs, hq, hx⟩ := hg
    obtain ⟨its, rv, p, hz⟩ := I.list hq
    obtain ⟨f0, f1, f2, f3, f4, f5⟩ := hf it (by simp)
    have hl := rv.length
    exact wpAny_pyNext_enum_end (I.ok.hd hc) he hit p.isList (by simp; omega) fun h' eb => ⟨rfl, I.turned (t' := s.toks) (fun b o hb q => eb b o hb q) f0 f1 f3 f4 f5⟩
  self := fun A i s Q E st h => let ⟨⟨_, he⟩, _⟩ := st; wpAny_pyIter_enum he h
def iEnum (K : PySem.W.Frag) (ta : TA) : TI := fun σ H R => ta σ H fun vs H1 => ∃ a xs, vs = [.ref a] ∧ SqL K H1 a xs ∧ R (Ite K a) H1
theorem pi_enum {X : Cx} {e : Expr} {ta : TA} {p pos tpos : Pos} {elts : List Expr} {kk : Nat} (hg : Gl X "enumerate") (hm : X.mg "enumerate" = none) (ha : PA X [e] ta) (hs : starEach [e] X.env = [(false, eval e X.env)] := by rfl) :
    PI X (.Tuple elts kk tpos) (.Call (.Name "enumerate" p) [e] [] pos) (iEnum X.K ta) := by
  intro pins s σ H R I h
  refine Call_ (ld_blt I hg hm boot_enumerate (PyProof.Rows.callWith_type1 (thn (ha pos pins s σ H _ I h) fun us s1 ⟨vs, H1, I1, r1, q1⟩ => ?_) hs rfl))
  obtain ⟨a, xs, ex, hq, q⟩ := q1
  subst ex
  cases r1 with
  | cons r rr =>
    cases rr
    cases r
    obtain ⟨its, rv, p', hz⟩ := I1.list hq
    refine call_enumerate_list p'.isList fun h' he hit hsz hk => wpAny_pyIter_enum he ?_
    have I2 : Inv X pins σ H1 { s1 with heap := h' } := I1.kept (t' := s1.toks) hk
    refine ⟨s1.heap.objs.size + 1, [s1.heap.objs.size + 1, s1.heap.objs.size], _, _, H1, rfl, I2, turn_enum a (s1.heap.objs.size + 1) s1.heap.objs.size, ⟨⟨.none, he⟩, hit, Nat.succ_ne_self _⟩, fun b hb => ?_, q⟩
    have e' : b = s1.heap.objs.size + 1 ∨ b = s1.heap.objs.size := by simpa using hb
    have hle : s1.heap.objs.size ≤ b := by
      rcases e' with z | z
      · rw [z]; exact Nat.le_add_right _ _
      · rw [z]; exact Nat.le_refl _
    exact I1.fpOk hle (I1.hok.fresh hle)
/-! ### zip(list, list) -/
theorem boot_zip5 : bootBuiltins "zip" = some (.type "zip") := by decide +kernel
end L2

section 
namespace Bits
open PySem PyProof.Rows

end Bits
end 

section 
namespace TL
open PySem PySem.Builtin PySem.Builtin.Str PySem.StrLaws

abbrev tl (x : Str) : List Nat := x.cps.toList
theorem len_tl (x : Str) : x.length = (tl x).length := by simp [tl, Str.length]
theorem ext_tl {x y : Str} (h : tl x = tl y) : x = y := Str.ext' (Array.toList_inj.mp h)
theorem tl_append (x y : Str) : tl (x ++ y) = tl x ++ tl y := by
  show (x ++ y).cps.toList = _
  rw [Str.cps_append, Array.toList_append]
theorem mk_tl (x : Str) : (⟨(tl x).toArray⟩ : Str) = x := ext_tl rfl
theorem map_tl_inj : ∀ {l m : List Str}, l.map tl = m.map tl → l = m
  | [], [], _ => rfl
  | [], _ :: _, h => by simp at h
  | _ :: _, [], h => by simp at h
  | x :: l, y :: m, h => by
    rw [List.map_cons, List.map_cons] at h
    injection h with h1 h2
    rw [ext_tl h1, map_tl_inj h2]
/-! ### the list functions -/
/-- S stands at the head of l -/
def pre (S l : List Nat) : Bool := l.take S.length == S
/-- l cut at each S from the left; k signs are still to be passed over -/
def spl (S : List Nat) : Nat → List Nat → List Nat → List (List Nat)
  | _, acc, [] => [acc]
  | 0, acc, c :: r => if pre S (c :: r) = true then acc :: spl S (S.length - 1) [] r else spl S 0 (acc ++ [c]) r
  | k + 1, acc, _ :: r => spl S k acc r
/-- what stands before the first S, and behind it -/
def par (S : List Nat) : List Nat → List Nat → Option (List Nat × List Nat)
  | _, [] => none
  | acc, c :: r => if pre S (c :: r) = true then some (acc, (c :: r).drop S.length) else par S (acc ++ [c]) r

theorem spl_nil (S : List Nat) (k : Nat) (acc : List Nat) : spl S k acc [] = [acc] := by cases k <;> rfl
theorem spl_hit {S acc r : List Nat} {c : Nat} (h : pre S (c :: r) = true) : spl S 0 acc (c :: r) = acc :: spl S (S.length - 1) [] r := by
  show (if pre S (c :: r) = true then acc :: spl S (S.length - 1) [] r else spl S 0 (acc ++ [c]) r) = _
  rw [if_pos h]
theorem spl_miss {S acc r : List Nat} {c : Nat} (h : pre S (c :: r) = false) : spl S 0 acc (c :: r) = spl S 0 (acc ++ [c]) r := by
  show (if pre S (c :: r) = true then acc :: spl S (S.length - 1) [] r else spl S 0 (acc ++ [c]) r) = _
  rw [if_neg (by rw [h]; exact Bool.false_ne_true)]
theorem spl_pass (S : List Nat) : ∀ (k : Nat) (acc l : List Nat), spl S k acc l = spl S 0 acc (l.drop k)
  | 0, _, _ => by rw [List.drop_zero]
  | k + 1, acc, [] => by rw [List.drop_nil, spl_nil, spl_nil]
  | k + 1, acc, c :: r => by
    show spl S k acc r = spl S 0 acc (r.drop k)
    exact spl_pass S k acc r
theorem par_hit {S acc r : List Nat} {c : Nat} (h : pre S (c :: r) = true) : par S acc (c :: r) = some (acc, (c :: r).drop S.length) := by
  show (if pre S (c :: r) = true then some (acc, (c :: r).drop S.length) else par S (acc ++ [c]) r) = _
  rw [if_pos h]
theorem par_miss {S acc r : List Nat} {c : Nat} (h : pre S (c :: r) = false) : par S acc (c :: r) = par S (acc ++ [c]) r := by
  show (if pre S (c :: r) = true then some (acc, (c :: r).drop S.length) else par S (acc ++ [c]) r) = _
  rw [if_neg (by rw [h]; exact Bool.false_ne_true)]

theorem pre_nil {S : List Nat} (hS : S ≠ []) : pre S [] = false := by
  cases S with
  | nil => exact absurd rfl hS
  | cons s S => rfl
theorem pre_of_head {s c : Nat} (S r : List Nat) (h : c ≠ s) : pre (s :: S) (c :: r) = false := by
  cases hp : pre (s :: S) (c :: r) with
  | false => rfl
  | true =>
    have e : (c :: r).take (s :: S).length = s :: S := eq_of_beq hp
    rw [List.length_cons, List.take_succ_cons] at e
    injection e with e1 e2
    exact absurd e1 h
theorem pre_self (S r : List Nat) : pre S (S ++ r) = true := by
  show ((S ++ r).take S.length == S) = true
  have e : (S ++ r).take S.length = S := List.take_left
  rw [e] <;> exact beq_self_eq_true S

theorem getElem_drop_cons {L : List Nat} {a : Nat} (h : a < L.length) : ∃ c, L.drop a = c :: L.drop (a + 1) := ⟨L[a], List.drop_eq_getElem_cons h⟩
theorem spl_run (S L : List Nat) : ∀ (m a : Nat) (acc : List Nat), a + m ≤ L.length → (∀ k, a ≤ k → k < a + m → pre S (L.drop k) = false) →
    spl S 0 acc (L.drop a) = spl S 0 (acc ++ (L.drop a).take m) (L.drop (a + m))
  | 0, a, acc, _, _ => by rw [List.take_zero, List.append_nil, Nat.add_zero]
  | m + 1, a, acc, h, hn => by
    have hlt : a < L.length := by omega
    obtain ⟨c, e⟩ := getElem_drop_cons hlt
    have h0 := hn a (Nat.le_refl _) (by omega)
    have ih := spl_run S L m (a + 1) (acc ++ [c]) (by omega) (fun k h1 h2 => hn k (by omega) (by omega))
    have e2 : a + 1 + m = a + (m + 1) := by omega
    rw [e2] at ih
    rw [e] at h0
    rw [e, spl_miss h0, ih, List.take_succ_cons, List.append_assoc] <;> rfl
theorem par_run (S L : List Nat) : ∀ (m a : Nat) (acc : List Nat), a + m ≤ L.length → (∀ k, a ≤ k → k < a + m → pre S (L.drop k) = false) →
    par S acc (L.drop a) = par S (acc ++ (L.drop a).take m) (L.drop (a + m))
  | 0, a, acc, _, _ => by rw [List.take_zero, List.append_nil, Nat.add_zero]
  | m + 1, a, acc, h, hn => by
    have hlt : a < L.length := by omega
    obtain ⟨c, e⟩ := getElem_drop_cons hlt
    have h0 := hn a (Nat.le_refl _) (by omega)
    have ih := par_run S L m (a + 1) (acc ++ [c]) (by omega) (fun k h1 h2 => hn k (by omega) (by omega))
    have e2 : a + 1 + m = a + (m + 1) := by omega
    rw [e2] at ih
    rw [e] at h0
    rw [e, par_miss h0, ih, List.take_succ_cons, List.append_assoc] <;> rfl
theorem drop_two (L : List Nat) (a b : Nat) : (L.drop a).drop b = L.drop (a + b) := by
  first
    | rw [List.drop_drop]
    | rw [List.drop_drop, Nat.add_comm]
theorem spl_at {S L : List Nat} (hS : S ≠ []) {c : Nat} {acc : List Nat} (h : pre S (L.drop c) = true) : spl S 0 acc (L.drop c) = acc :: spl S 0 [] (L.drop (c + S.length)) := by
  rw [← drop_two]
  cases e : L.drop c with
  | nil => rw [e, pre_nil hS] at h; cases h
  | cons d r =>
    rw [e] at h
    rw [spl_hit h, spl_pass]
    cases S with
    | nil => exact absurd rfl hS
    | cons s S => rfl
theorem par_at {S L : List Nat} (hS : S ≠ []) {c : Nat} {acc : List Nat} (h : pre S (L.drop c) = true) : par S acc (L.drop c) = some (acc, L.drop (c + S.length)) := by
  rw [← drop_two]
  cases e : L.drop c with
  | nil => rw [e, pre_nil hS] at h; cases h
  | cons d r =>
    rw [e] at h
    rw [par_hit h]

/-! ### the model's split and partition are these -/
theorem at_iff {x y : Str} (hy : tl y ≠ []) (i : Nat) : At x y x.length i ↔ pre (tl y) ((tl x).drop i) = true := by
  have hx := len_tl x
  have hl := len_tl y
  constructor
  · intro h
    have h2 := h.2
    rw [subAt_eq, hl] at h2
    exact h2
  · intro h
    have e : ((tl x).drop i).take (tl y).length = tl y := eq_of_beq h
    have e1 := congrArg List.length e
    rw [List.length_take, List.length_drop] at e1
    have e2 : 0 < (tl y).length := List.length_pos_iff.mpr hy
    refine ⟨by omega, ?_⟩
    rw [subAt_eq, hl]
    exact h
theorem no_at {x y : Str} (hy : tl y ≠ []) {i : Nat} (h : ¬ At x y x.length i) : pre (tl y) ((tl x).drop i) = false := by
  cases hp : pre (tl y) ((tl x).drop i) with
  | false => rfl
  | true => exact absurd ((at_iff hy i).mpr hp) h
theorem len1 {y : Str} (hy : tl y ≠ []) : 1 ≤ y.length := by
  have e2 : 0 < (tl y).length := List.length_pos_iff.mpr hy
  rw [len_tl y]
  exact e2
theorem tl_strSub (x : Str) (i j : Nat) : tl (strSub x i j) = ((tl x).drop i).take (j - i) := strSub_toList x i j
theorem tl_strSub_end (x : Str) (i : Nat) : tl (strSub x i x.length) = (tl x).drop i := by
  rw [tl_strSub, len_tl x]
  exact List.take_of_length_le (by rw [List.length_drop] <;> omega)

theorem parts_spl {x y : Str} (hy : tl y ≠ []) : ∀ (cuts : List Nat) (a f : Nat), a ≤ (tl x).length → ChainG x y x.length a cuts f → (∀ k, f ≤ k → ¬ At x y x.length k) →
    (partsFrom x y.length a cuts).map tl = spl (tl y) 0 [] ((tl x).drop a)
  | [], a, f, ha, h, hn => by
    have e : f = a := h
    subst e
    show [tl (strSub x f x.length)] = _
    have run := spl_run (tl y) (tl x) ((tl x).length - f) f [] (by omega) (fun k h1 _ => no_at hy (hn k h1))
    have e2 : f + ((tl x).length - f) = (tl x).length := by omega
    rw [e2, List.drop_length, spl_nil, List.nil_append, List.take_of_length_le (by rw [List.length_drop] <;> omega)] at run
    rw [run, tl_strSub_end]
  | c :: r, a, f, ha, h, hn => by
    obtain ⟨h1, h2, h3, h4⟩ := h
    have hc : c + y.length ≤ x.length := h2.1
    have hx := len_tl x
    have hl := len_tl y
    have ih := parts_spl hy r (c + y.length) f (by omega) h4 hn
    show tl (strSub x a c) :: (partsFrom x y.length (c + y.length) r).map tl = _
    have run := spl_run (tl y) (tl x) (c - a) a [] (by omega) (fun k k1 k2 => no_at hy (h3 k k1 (by omega)))
    have e2 : a + (c - a) = c := by omega
    rw [e2, List.nil_append, spl_at hy ((at_iff hy c).mp h2)] at run
    rw [run, ih, tl_strSub, hl]

/-- hk: by kind_ok where the separator is plain -/
theorem split_spl (x y : Str) (hy : tl y ≠ []) (hk : ¬ Builtin.Str.strKind x < Builtin.Str.strKind y) : (Txt.split x y).map tl = spl (tl y) 0 [] (tl x) := by
  obtain ⟨f, g, hn⟩ := occ_tight x y (len1 hy)
  have key := parts_spl hy _ 0 f (Nat.zero_le _) g hn
  rw [List.drop_zero] at key
  have none_case : occurrences x y 0 x.length (x.length + 1) = [] → [x].map tl = spl (tl y) 0 [] (tl x) := fun ho => by
    rw [ho] at key
    rw [← key]
    show [tl x] = [tl (strSub x 0 x.length)]
    rw [sub_whole]
  unfold Txt.split
  by_cases h1 : (decide (x.length < y.length) || decide (Builtin.Str.strKind x < Builtin.Str.strKind y)) = true
  · rw [if_pos h1]
    have hlt : x.length < y.length := by
      simp only [Bool.or_eq_true, decide_eq_true_eq] at h1
      rcases h1 with h | h
      · exact h
      · exact absurd h hk
    refine none_case ?_
    cases ho : occurrences x y 0 x.length (x.length + 1) with
    | nil => rfl
    | cons c r =>
      rw [ho] at g
      have hc : c + y.length ≤ x.length := g.2.1.1
      omega
  · rw [if_neg h1]
    by_cases h2 : (occurrences x y 0 x.length (x.length + 1)).isEmpty = true
    · rw [if_pos h2]
      exact none_case (List.isEmpty_iff.mp h2)
    · rw [if_neg h2, partsBetween_eq]
      exact key
theorem kind_ok {x y : Str} (h : y.cps.all (· < 256) = true) : ¬ Builtin.Str.strKind x < Builtin.Str.strKind y := by
  have e : Builtin.Str.strKind y = 1 := by unfold PySem.Builtin.Str.strKind; rw [if_pos h]
  rw [e]
  unfold PySem.Builtin.Str.strKind
  split
  · omega
  · split <;> omega

theorem partition_par (x y : Str) (hy : tl y ≠ []) :
    Txt.partition x y = (match par (tl y) [] (tl x) with | some (a, b) => (⟨a.toArray⟩, y, ⟨b.toArray⟩) | none => (x, Str.empty, Str.empty)) := by
  have hx := len_tl x
  have hl := len_tl y
  rcases PyProof.Rows.partition_whole x y with ⟨e, hn⟩ | ⟨i, e, hi, hn⟩
  · have run := par_run (tl y) (tl x) (tl x).length 0 [] (by omega) (fun k _ _ => no_at hy (hn k))
    rw [List.drop_zero, Nat.zero_add, List.drop_length] at run
    rw [e, run] <;> rfl
  · have hb : i + y.length ≤ x.length := hi.1
    have run := par_run (tl y) (tl x) i 0 [] (by omega) (fun k _ k2 => no_at hy (hn k (by omega)))
    rw [List.drop_zero, Nat.zero_add, List.nil_append, par_at hy ((at_iff hy i).mp hi)] at run
    rw [e, run]
    have e1 : strSub x 0 i = ⟨((tl x).take i).toArray⟩ := ext_tl (by rw [tl_strSub, List.drop_zero, Nat.sub_zero])
    have e2 : strSub x (i + y.length) x.length = ⟨((tl x).drop (i + (tl y).length)).toArray⟩ := ext_tl (by rw [tl_strSub_end, hl])
    rw [e1, e2] <;> rfl

/-! ### computing spl and par -/
/-- a part that the separator does not begin in, then the separator -/
theorem spl_part {S p rest acc : List Nat} (hS : S ≠ []) (h : ∀ i, i < p.length → pre S ((p ++ (S ++ rest)).drop i) = false) :
    spl S 0 acc (p ++ (S ++ rest)) = (acc ++ p) :: spl S 0 [] rest := by
  have run := spl_run S (p ++ (S ++ rest)) p.length 0 acc (by rw [List.length_append]; omega) (fun k _ k2 => h k (by omega))
  have ed : (p ++ (S ++ rest)).drop p.length = S ++ rest := List.drop_left
  rw [List.drop_zero, Nat.zero_add, List.take_left] at run
  rw [run, spl_at hS (by rw [ed]; exact pre_self S rest), ← drop_two, ed, List.drop_left]
theorem spl_last {S p acc : List Nat} (h : ∀ i, i < p.length → pre S (p.drop i) = false) : spl S 0 acc p = [acc ++ p] := by
  have run := spl_run S p p.length 0 acc (by omega) (fun k _ k2 => h k (by omega))
  rw [List.drop_zero, Nat.zero_add, List.drop_length, spl_nil, List.take_length] at run
  exact run
theorem par_part {S p rest acc : List Nat} (hS : S ≠ []) (h : ∀ i, i < p.length → pre S ((p ++ (S ++ rest)).drop i) = false) :
    par S acc (p ++ (S ++ rest)) = some (acc ++ p, rest) := by
  have run := par_run S (p ++ (S ++ rest)) p.length 0 acc (by rw [List.length_append]; omega) (fun k _ k2 => h k (by omega))
  have ed : (p ++ (S ++ rest)).drop p.length = S ++ rest := List.drop_left
  rw [List.drop_zero, Nat.zero_add, List.take_left] at run
  rw [run, par_at hS (by rw [ed]; exact pre_self S rest), ← drop_two, ed, List.drop_left]
theorem par_none {S p acc : List Nat} (h : ∀ i, i < p.length → pre S (p.drop i) = false) : par S acc p = none := by
  have run := par_run S p p.length 0 acc (by omega) (fun k _ k2 => h k (by omega))
  rw [List.drop_zero, Nat.zero_add, List.drop_length] at run
  exact run
/-- the separator's first sign is not in the part -/
theorem free_of {s : Nat} {S p q : List Nat} (h : s ∉ p) : ∀ i, i < p.length → pre (s :: S) ((p ++ q).drop i) = false := fun i hi => by
  have hlt : i < (p ++ q).length := by rw [List.length_append]; omega
  have e : (p ++ q).drop i = (p ++ q)[i] :: (p ++ q).drop (i + 1) := List.drop_eq_getElem_cons hlt
  rw [e]
  refine pre_of_head _ _ fun z => h ?_
  have e1 : (p ++ q)[i] = p[i] := List.getElem_append_left hi
  rw [← z, e1]
  exact List.getElem_mem hi
theorem spl_part1 {s : Nat} {S p rest acc : List Nat} (h : s ∉ p) : spl (s :: S) 0 acc (p ++ (s :: S ++ rest)) = (acc ++ p) :: spl (s :: S) 0 [] rest :=
  spl_part (by simp) (free_of h)
theorem spl_last1 {s : Nat} {S p acc : List Nat} (h : s ∉ p) : spl (s :: S) 0 acc p = [acc ++ p] := spl_last fun i hi => by
  have z := free_of (S := S) (q := []) h i hi
  rw [List.append_nil] at z
  exact z
theorem par_part1 {s : Nat} {S p rest acc : List Nat} (h : s ∉ p) : par (s :: S) acc (p ++ (s :: S ++ rest)) = some (acc ++ p, rest) := par_part (by simp) (free_of h)
theorem par_none1 {s : Nat} {S p acc : List Nat} (h : s ∉ p) : par (s :: S) acc p = none := par_none fun i hi => by
  have z := free_of (S := S) (q := []) h i hi
  rw [List.append_nil] at z
  exact z

/-- joined lists -/
def joinL (S : List Nat) : List (List Nat) → List Nat
  | [] => []
  | [p] => p
  | p :: q :: r => p ++ (S ++ joinL S (q :: r))
theorem tl_join (y : Str) : ∀ parts : List Str, tl (Str.join y parts) = joinL (tl y) (parts.map tl)
  | [] => rfl
  | [_] => rfl
  | x :: z :: r => by
    show tl (x ++ y ++ Str.join y (z :: r)) = tl x ++ (tl y ++ joinL (tl y) ((z :: r).map tl))
    rw [tl_append, tl_append, tl_join y (z :: r), List.append_assoc]
theorem spl_join {s : Nat} {S : List Nat} : ∀ {parts : List (List Nat)}, parts ≠ [] → (∀ p ∈ parts, s ∉ p) → spl (s :: S) 0 [] (joinL (s :: S) parts) = parts
  | [], h, _ => absurd rfl h
  | [p], _, hp => by
    show spl (s :: S) 0 [] p = [p]
    rw [spl_last1 (hp p (List.mem_singleton.mpr rfl)), List.nil_append]
  | p :: q :: r, _, hp => by
    show spl (s :: S) 0 [] (p ++ (s :: S ++ joinL (s :: S) (q :: r))) = p :: q :: r
    rw [spl_part1 (hp p (List.mem_cons_self ..)), List.nil_append, spl_join (by simp) fun z hz => hp z (List.mem_cons_of_mem _ hz)]
theorem join_eq (y : Str) (parts : List Str) : Txt.join y parts = Str.join y parts := glued_eq_join y parts
/-- THE READ-BACK: a joined text, split -/
theorem split_join {y : Str} {s : Nat} {S : List Nat} (ey : tl y = s :: S) (hk : y.cps.all (· < 256) = true) {parts : List Str} (hne : parts ≠ []) (hp : ∀ p ∈ parts, s ∉ tl p) :
    Txt.split (Txt.join y parts) y = parts := by
  refine map_tl_inj ?_
  rw [split_spl _ y (by rw [ey]; simp) (kind_ok hk), join_eq, tl_join, ey]
  refine spl_join (fun e => hne (List.map_eq_nil_iff.mp e)) fun p h => ?_
  obtain ⟨z, hz, rfl⟩ := List.mem_map.mp h
  exact hp z hz
/-- a text cut at its first separator -/
theorem partition_app {y : Str} {s : Nat} {S : List Nat} (ey : tl y = s :: S) {a b : Str} (h : s ∉ tl a) : Txt.partition (a ++ y ++ b) y = (a, y, b) := by
  rw [partition_par _ y (by rw [ey]; simp), tl_append, tl_append, List.append_assoc, ey, par_part1 h]
  show ((⟨([] ++ tl a).toArray⟩ : Str), y, (⟨(tl b).toArray⟩ : Str)) = _
  rw [List.nil_append, mk_tl, mk_tl]
theorem partition_none {y : Str} {s : Nat} {S : List Nat} (ey : tl y = s :: S) {a : Str} (h : s ∉ tl a) : Txt.partition a y = (a, Str.empty, Str.empty) := by
  rw [partition_par _ y (by rw [ey]; simp), ey, par_none1 h]

/-! ### digits -/
/-! ### words: x.split() -/
end TL
end 

namespace L2
open PySem PySem.Spec PyProof.Rows

/-- a list of texts, of numbered texts -/
theorem vals_strs : ∀ l : List (Str × Tok), Vals ((l.map (·.1)).map V.str) (strValues l)
  | [] => .nil
  | p :: r => .cons ⟨p.2, rfl⟩ (vals_strs r)
theorem strs_of_vals : ∀ {ys : List Str} {us : List Value}, Vals (ys.map V.str) us → StrsAre us ys
  | [], _, .nil => .nil
  | y :: ys, _, .cons r t => by
    obtain ⟨k, rfl⟩ := r
    exact .cons y k (strs_of_vals t)

/-- a new list of texts, tracked -/
def rNewStrs (ys : List Str) : Hp → VK → Prop := fun H Q => ∀ p, H p = none → Q (.ref p) (upd H p (.lst (ys.map V.str)))

section
variable {X : Cx} {pins : List (Addr × Obj)} {σ : St} {H : Hp} {s : Shared} {Q : VK}
theorem laid_strs {l : List (Str × Tok)} {ys : List Str} {k : Nat} (I : Inv X pins σ H s) (e : l.map (·.1) = ys) (hz : ys.length ≤ sizeLine) (h : rNewStrs ys H Q) :
    EP X pins σ Q (.ref s.heap.objs.size) { s with toks := k, heap := s.heap.push { cls := .type "list", data := .seq (strValues l).toArray } } := by
  have hp := I.hok.fresh (Nat.le_refl _)
  refine ⟨.ref s.heap.objs.size, upd H s.heap.objs.size (.lst (ys.map V.str)), I.laid (fun b u q => Heap.get?_push_of_some _ q) (Nat.le_refl _) ⟨by rw [List.length_map]; exact hz, strValues l, _, ?_, Heap.get?_push_size _ rfl⟩, rfl, h _ hp⟩
  rw [← e]
  exact vals_strs l
theorem laid_parts {x y z : Str} {t u v : Tok} {k : Nat} (I : Inv X pins σ H s) (h : ∀ p, H p = none → Q (.ref p) (upd H p (.tup [.str x, .str y, .str z]))) :
    EP X pins σ Q (.ref s.heap.objs.size) { s with toks := k, heap := s.heap.push { cls := .type "tuple", data := .seq [Value.str x t, .str y u, .str z v].toArray } } := by
  have hp := I.hok.fresh (Nat.le_refl _)
  exact ⟨.ref s.heap.objs.size, upd H s.heap.objs.size (.tup [.str x, .str y, .str z]), I.laid (fun b u q => Heap.get?_push_of_some _ q) (Nat.le_refl _)
    ⟨by show 3 ≤ sizeLine; decide, [Value.str x t, .str y u, .str z v], .cons ⟨t, rfl⟩ (.cons ⟨u, rfl⟩ (.cons ⟨v, rfl⟩ .nil)), _, Heap.get?_push_size _ rfl, rfl, _, rfl⟩, rfl, h _ hp⟩
end

section
variable {X : Cx}

/-- x.split(sep) -/
theorem mt_split : MtR X "str.split" (fun x xs H Q => ∃ a b, x = .str a ∧ xs = [.str b] ∧ (b.length == 0) = false ∧ a.length + 2 ≤ sizeLine ∧ rNewStrs (Txt.split a b) H Q) := by
  intro pins s σ H x xs v us Q I rx rs h
  obtain ⟨a, b, rfl, rfl, hb, hz, h⟩ := h
  obtain ⟨t, rfl⟩ := rx
  cases rs with
  | cons r1 rs =>
    cases rs
    obtain ⟨u, rfl⟩ := r1
    have hl : (Txt.split a b).length ≤ sizeLine := Nat.le_trans (PyProof.Rows.split_le a b) hz
    have hn : (Builtin.Str.partsBetween a (Builtin.Str.occurrences a b 0 a.length (a.length + 1)) b.length).length ≤ sizeLine := by
      have e1 := StrLaws.occ_length_le a b 0 a.length (a.length + 1)
      rw [length_partsBetween]; omega
    cases h1 : (decide (a.length < b.length) || decide (Builtin.Str.strKind a < Builtin.Str.strKind b))
    · cases hf : (Builtin.Str.occurrences a b 0 a.length (a.length + 1)).isEmpty
      · refine call_meets F.slot_str_split (typeIs_str _ _ _) F.entry_str_split (F.args_str_split_2 _ _) (meets_str_split_sep a b t u h1 hb hf (by omega) hn) ?_
        show EP X pins σ Q (.ref s.heap.objs.size) { s with toks := _, heap := s.heap.push { cls := .type "list", data := .seq (strsFrom s.toks (Builtin.Str.partsBetween a (Builtin.Str.occurrences a b 0 a.length (a.length + 1)) b.length)).toArray } }
        rw [strsFrom_eq]
        exact laid_strs (ys := Txt.split a b) I ((numbered_texts _ _).trans ((if_neg (ne_true_of_eq_false h1)).trans (if_neg (ne_true_of_eq_false hf))).symm) hl h
      · refine call_meets F.slot_str_split (typeIs_str _ _ _) F.entry_str_split (F.args_str_split_2 _ _) (meets_str_split_not_found a b t u h1 hb hf) ?_
        exact laid_strs (l := [(a, t)]) (ys := Txt.split a b) (k := s.toks) I ((if_neg (ne_true_of_eq_false h1)).trans (if_pos hf)).symm hl h
    · refine call_meets F.slot_str_split (typeIs_str _ _ _) F.entry_str_split (F.args_str_split_2 _ _) (meets_str_split_cannot_occur a b t u h1) ?_
      exact laid_strs (l := [(a, t)]) (ys := Txt.split a b) (k := s.toks) I (if_pos h1).symm hl h

/-- x.partition(sep) -/
theorem mt_partition : MtR X "str.partition" (fun x xs H Q => ∃ a b, x = .str a ∧ xs = [.str b] ∧ (b.length == 0) = false ∧ a.length ≤ sizeLine ∧
    ∀ p, H p = none → Q (.ref p) (upd H p (.tup [.str (Txt.partition a b).1, .str (Txt.partition a b).2.1, .str (Txt.partition a b).2.2]))) := by
  intro pins s σ H x xs v us Q I rx rs h
  obtain ⟨a, b, rfl, rfl, hb, hz, h⟩ := h
  obtain ⟨t, rfl⟩ := rx
  cases rs with
  | cons r1 rs =>
    cases rs
    obtain ⟨u, rfl⟩ := r1
    refine call_meets F.slot_str_partition (typeIs_str _ _ _) F.entry_str_partition (F.args_str_partition_2 _ _) (meets_str_partition a b t u hb hz) ?_
    unfold Txt.partition at h
    revert h
    cases Builtin.Str.occurrences a b 0 a.length 1 with
    | nil => intro h; exact laid_parts I h
    | cons i r => intro h; exact laid_parts I h

/-- sep.join(a list | a tuple of texts) -/
theorem mt_join : MtR X "str.join" (fun x xs H Q => ∃ a p, ∃ ys : List Str, x = .str a ∧ xs = [.ref p] ∧ (SqL X.K H p (ys.map V.str) ∨ SqT X.K H p (ys.map V.str)) ∧
    (ys.map (·.length)).sum + ys.length * a.length ≤ 16777216 ∧ Q (.str (Txt.join a ys)) H) := by
  intro pins s σ H x xs v us Q I rx rs h
  obtain ⟨a, p, ys, rfl, rfl, hp, hz, h⟩ := h
  obtain ⟨t, rfl⟩ := rx
  cases rs with
  | cons r1 rs =>
    cases rs
    cases r1
    rcases hp with hp | hp
    · obtain ⟨its, r, ⟨o, n, ho, hc, _, hd⟩, _⟩ := I.list hp
      exact PyProof.Rows.join_list (items := its.toArray) ⟨o, ho, hc, n, hd⟩ (by rw [List.toList_toArray]; exact strs_of_vals r) hz fun t' k => ⟨.str _, H, I.tok k, ⟨t', rfl⟩, h⟩
    · obtain ⟨its, r, ht, _⟩ := I.tuple hp
      exact PyProof.Rows.join_tuple (items := its.toArray) ht (by rw [List.toList_toArray]; exact strs_of_vals r) hz fun t' k => ⟨.str _, H, I.tok k, ⟨t', rfl⟩, h⟩

/-! ### of a text alone -/
/-! ### of a text and a text -/
/-- int(text) -/
theorem call_int_str : CallR X (.type "int") (fun xs H Q => ∃ a n, xs = [.str a] ∧ PySem.intText? a = some n ∧ a.length ≤ 640 ∧ Q (.int n) H) := by
  intro pins s σ H xs us Q I rs h
  obtain ⟨a, n, rfl, hn, hl, h⟩ := h
  cases rs with
  | cons r1 rs =>
    cases rs
    obtain ⟨t, rfl⟩ := r1
    exact PySem.W.KIN.call_text hn hl ⟨.int n, H, I.tok _, ⟨_, rfl⟩, h⟩
end

section
variable {X : Cx} {o e : Expr} {to te : TE}
def tM1 (r : V → List V → Hp → VK → Prop) (to te : TE) : TE := fun σ H Q => to σ H fun x H1 => (∃ a, x = .str a) ∧ te σ H1 fun y H2 => r x [y] H2 Q
theorem pe_m1 {id : String} {name : Str} {apos pos : Pos} {r : V → List V → Hp → VK → Prop} (slot : Slot "str" name id) (ty : typeOf (.builtin id) = pure (.type "method_descriptor")) (rule : MtR X id r) (ho : PE X o to) (he : PE X e te)
    (hs : starEach [e] X.env = [(false, eval e X.env)] := by rfl) (hbase : attributeBase o name X.env (eval o X.env) = eval o X.env := by rfl) (hline : (apos.endLine == pos.line) = true := by rfl) :
    PE X (.Call (.Attribute o name apos) [e] [] pos) (tM1 r to te) := by
  intro pins s σ H Q I h
  refine PySem.Call_method1 hbase hs hline (thn (ho pins s σ H _ I h) fun v s1 ⟨x, H1, I1, r1, q1⟩ => ?_)
  obtain ⟨⟨a, rfl⟩, q1⟩ := q1
  obtain ⟨t, rfl⟩ := _root_.id r1
  refine ⟨"str", _, F.plainAttrs_str, slot, ty, typeIs_str _ _ _, (fun _ e => nomatch e), Calls.callWith_builtin rfl (Calls.evalArgs_plain (Calls.spliced_cons ?_))⟩
  exact thn (he pins s1 σ H1 _ I1 q1) fun u s2 ⟨y, H2, I2, r2, q2⟩ => Calls.spliced_nil (rule pins s2 σ H2 _ [y] _ [u] Q I2 r1 (.cons r2 .nil) q2)

theorem pe_split {apos pos : Pos} (ho : PE X o to) (he : PE X e te) (hs : starEach [e] X.env = [(false, eval e X.env)] := by rfl) (hbase : attributeBase o "split" X.env (eval o X.env) = eval o X.env := by rfl) (hline : (apos.endLine == pos.line) = true := by rfl) :
    PE X (.Call (.Attribute o "split" apos) [e] [] pos) (tM1 (fun x xs H Q => ∃ a b, x = .str a ∧ xs = [.str b] ∧ (b.length == 0) = false ∧ a.length + 2 ≤ sizeLine ∧ rNewStrs (Txt.split a b) H Q) to te) :=
  pe_m1 F.slot_str_split F.type_str_split mt_split ho he hs hbase hline
theorem pe_join {apos pos : Pos} (ho : PE X o to) (he : PE X e te) (hs : starEach [e] X.env = [(false, eval e X.env)] := by rfl) (hbase : attributeBase o "join" X.env (eval o X.env) = eval o X.env := by rfl) (hline : (apos.endLine == pos.line) = true := by rfl) :
    PE X (.Call (.Attribute o "join" apos) [e] [] pos) (tM1 (fun x xs H Q => ∃ a p, ∃ ys : List Str, x = .str a ∧ xs = [.ref p] ∧ (SqL X.K H p (ys.map V.str) ∨ SqT X.K H p (ys.map V.str)) ∧
      (ys.map (·.length)).sum + ys.length * a.length ≤ 16777216 ∧ Q (.str (Txt.join a ys)) H) to te) :=
  pe_m1 F.slot_str_join F.type_str_join mt_join ho he hs hbase hline
end
end L2

namespace L2
open PySem PySem.Spec PyProof.Rows

section
variable {X : Cx}
theorem op_le_str : OpR X (compareOp .LtE) (fun x y H Q => ∃ i j, x = .str i ∧ y = .str j ∧ Q (.bl (!decide (j.cps.toList < i.cps.toList))) H) := by
  intro pins s σ H x y v u Q I rx ry h
  obtain ⟨i, j, rfl, rfl, q⟩ := h
  obtain ⟨t, rfl⟩ := rx
  obtain ⟨t', rfl⟩ := ry
  exact PySem.P.le_str (fin_bl I q rfl)
end

/-! ### slices of a text -/
theorem IsPart.raw {v : Value} {o : Option Int} (p : IsPart v o) : ∃ l : Option (Int × Tok), v = partValue l ∧ l.map (·.1) = o := by
  cases p with
  | none => exact ⟨none, rfl, rfl⟩
  | int i t => exact ⟨some (i, t), rfl, rfl⟩

/-- a part, clipped, as the text's slice reckons it -/
def clipS (n d : Nat) : Option Int → Int
  | none => (d : Int)
  | some i => max 0 (min (if i < 0 then i + (n : Int) else i) (n : Int))
theorem clipS_eq (n d : Nat) (o : Option Int) : clipS n d o = ((HT.sIx n d o : Nat) : Int) := by
  cases o with
  | none => rfl
  | some v =>
    show max (0 : Int) (min (if v < 0 then v + (n : Int) else v) (n : Int)) = (((if v < 0 then (v + (n : Int)).toNat else min v.toNat n) : Nat) : Int)
    by_cases hv : v < 0
    · simp only [if_pos hv]
      omega
    · simp only [if_neg hv]
      omega
theorem sidx_clip (a b : Option Int) (n : Nat) : Builtin.Str.strSliceIndices a b 1 n = sliceRange (clipS n 0 a) (clipS n n b) 1 := by
  have h1 : ((1 : Int) > 0) = True := by simp
  cases a <;> cases b <;> first
    | rfl
    | (simp only [Builtin.Str.strSliceIndices, clipS, h1, if_true]; rfl)
    | simp [Builtin.Str.strSliceIndices, clipS]
theorem sidx (a b : Option Int) (n : Nat) : Builtin.Str.strSliceIndices a b 1 n = (List.range (HT.sIx n n b - HT.sIx n 0 a)).map (fun k => HT.sIx n 0 a + k) := by
  rw [sidx_clip, clipS_eq, clipS_eq]
  generalize HT.sIx n 0 a = p
  generalize HT.sIx n n b = q
  simp only [sliceRange, show ((1 : Int) > 0) = True from by simp, if_true]
  by_cases hlt : (p : Int) < q
  · have e3 : (((q : Int) - p + 1 - 1) / 1).toNat = q - p := by first | omega | (simp; done) | (simp; omega)
    simp only [hlt, if_true, e3]
    refine List.map_congr_left fun k _ => ?_
    omega
  · have : q - p = 0 := by omega
    simp [hlt, this]

/-- z[lo:hi] -/
def cutS (z : Str) (lo hi : Option Int) : Str :=
  ⟨((z.cps.toList.drop (HT.sIx z.length 0 lo)).take (HT.sIx z.length z.length hi - HT.sIx z.length 0 lo)).toArray⟩
theorem sliceText_cut (z : Str) (lo hi : Option Int) : PySem.StrLaws.sliceText z lo hi = cutS z lo hi := by
  have h1 : HT.sIx z.length 0 lo ≤ z.length := HT.sIx_le _ _ (Nat.zero_le _) _
  have h2 : HT.sIx z.length z.length hi ≤ z.length := HT.sIx_le _ _ (Nat.le_refl _) _
  have hp : HT.sIx z.length 0 lo ≤ max (HT.sIx z.length 0 lo) (HT.sIx z.length z.length hi) := Nat.le_max_left _ _
  have hq : max (HT.sIx z.length 0 lo) (HT.sIx z.length z.length hi) ≤ z.length := Nat.max_le.mpr ⟨h1, h2⟩
  have hd : max (HT.sIx z.length 0 lo) (HT.sIx z.length z.length hi) - HT.sIx z.length 0 lo = HT.sIx z.length z.length hi - HT.sIx z.length 0 lo := by omega
  have e : Builtin.Str.strSliceIndices lo hi 1 z.length =
      Builtin.Str.strSliceIndices (some ((HT.sIx z.length 0 lo : Nat) : Int)) (some ((max (HT.sIx z.length 0 lo) (HT.sIx z.length z.length hi) : Nat) : Int)) 1 z.length := by
    rw [PySem.StrLaws.strSliceIndices_plain hp hq, hd, sidx]
  have e2 : PySem.StrLaws.sliceText z lo hi =
      PySem.StrLaws.sliceText z (some ((HT.sIx z.length 0 lo : Nat) : Int)) (some ((max (HT.sIx z.length 0 lo) (HT.sIx z.length z.length hi) : Nat) : Int)) := by
    unfold PySem.StrLaws.sliceText
    rw [e]
  rw [e2, PySem.StrLaws.sliceText_nat z hp hq, hd]
  rfl
theorem cutS_length (z : Str) (lo hi : Option Int) : (cutS z lo hi).length ≤ z.length := by
  show (((z.cps.toList.drop (HT.sIx z.length 0 lo)).take (HT.sIx z.length z.length hi - HT.sIx z.length 0 lo)).toArray).size ≤ z.cps.size
  rw [List.size_toArray, List.length_take, List.length_drop, Array.length_toList]
  omega
def rSlS : V → Option Int → Option Int → Hp → VK → Prop := fun x lo hi H Q => ∃ z, x = .str z ∧ z.length ≤ sizeLine ∧ Q (.str (cutS z lo hi)) H
theorem sl_str {X : Cx} : SlR X rSlS := by
  intro pins s σ H x v vl vu lo hi sl Q I rx hs pl pu h
  obtain ⟨z, rfl, hz, q⟩ := h
  obtain ⟨t, rfl⟩ := rx
  obtain ⟨os, hos, hcs, hds⟩ := hs
  obtain ⟨l, rfl, rfl⟩ := IsPart.raw pl
  obtain ⟨u, rfl, rfl⟩ := IsPart.raw pu
  refine ⟨"str", _, F.slot_str_getitem.lookup, typeIs_str _ _ _, ?_⟩
  refine wpAny_getItem_str_slice (l := l) (u := u) (st := none) ⟨os, hos, hcs, hds⟩ rfl ?_
  have hl : (PySem.StrLaws.sliceText z (l.map (·.1)) (u.map (·.1))).length ≤ sizeLine := by
    rw [sliceText_cut]
    exact Nat.le_trans (cutS_length z _ _) hz
  rw [← sliceText_cut] at q
  unfold PySem.StrLaws.sliceText at q hl
  show Made.post (if ((1 : Int) == 1 && (Builtin.Str.strSliceIndices (l.map (·.1)) (u.map (·.1)) 1 z.length).length == z.length) = true then Made.val (.str z t)
    else Made.str ⟨((Builtin.Str.strSliceIndices (l.map (·.1)) (u.map (·.1)) 1 z.length).filterMap (z.cps[·]?)).toArray⟩) (EP X pins σ Q) s
  by_cases c : ((1 : Int) == 1 && (Builtin.Str.strSliceIndices (l.map (·.1)) (u.map (·.1)) 1 z.length).length == z.length) = true
  · rw [if_pos c] at q ⊢
    exact ⟨.str z, H, I, ⟨t, rfl⟩, q⟩
  · rw [if_neg c] at q hl ⊢
    exact ⟨hl, .str _, H, I.tok _, ⟨_, rfl⟩, q⟩
end L2

namespace Att
open PySem PySem.W PySem.Calls PyProof.Rows

/-! ### the script -/
theorem ints_of_wellAll {P : Params} {h : Heap} : ∀ (ns : List Int) (vs : List Value), WellAll P h vs (ns.map WData.int) → IntsAre vs ns := by
  intro ns
  induction ns with
  | nil =>
    intro vs w
    rw [List.map_nil] at w
    cases w
    exact .nil
  | cons n ns ih =>
    intro vs w
    rw [List.map_cons] at w
    cases w with
    | cons a b =>
      cases a
      exact .cons _ _ (ih _ b)

theorem script_of {l : OpenLaw} {n : Nat} (hn : l.most = some n) {P : Params} {h : Heap} {args : List WData} {vals : List Value}
    (hpre : l.row.toRowW.claim.pre args = true) (hwl : WellAll P h vals args) :
    ∃ a vs ns, vals = [Value.ref a] ∧ args = [WData.list (ns.map WData.int)] ∧ h.get? a = some { cls := .type "list", data := .seq vs.toArray } ∧ IntsAre vs ns ∧ ns.length ≤ n := by
  have hsh : WShape.hasAll [] args [.list .int] = true := (pre_splitW hpre).1
  have hc : l.pre.holds [] { args := args } = true := (pre_splitW hpre).2
  obtain ⟨d, r, rfl, h1, h2⟩ := hasAllW_cons hsh
  obtain rfl := hasAllW_nil h2
  obtain ⟨xs, rfl, h3⟩ := hasW_list h1
  obtain ⟨ns, rfl⟩ := items_int h3
  have hlen : ns.length ≤ n := by
    unfold OpenLaw.pre at hc
    have h4 : (WTm.not (.lt (.lit (.int (n : Int))) (.len (.arg 0)))).holds [] { args := [.list (ns.map .int)] } = true := by
      have h4 := (holds_andW hc).1
      rw [hn] at h4
      exact h4
    have h5 := condW_of h4 (w_not (w_lt w_lit (w_len_list (w_arg rfl))))
    rw [List.length_map] at h5
    refine Nat.le_of_not_lt fun q => ?_
    have q' : (n : Int) < ((ns.length : Nat) : Int) := by omega
    first
      | (rw [decide_eq_true q'] at h5; exact absurd h5 (by decide))
      | (simp at h5; omega)
  cases hwl with
  | cons w1 w2 =>
    cases w2
    cases w1 with
    | list ho hall => exact ⟨_, _, ns, rfl, rfl, ho, ints_of_wellAll ns _ hall, hlen⟩

theorem post_true (l : OpenLaw) (args : List WData) : l.row.toRowW.claim.post args (.bool true) args = true :=
  postW_of (r := l.row.toRowW) (X := (true == true))
    (show WShape.has [] (.bool true) .bool = true by first | rfl | decide | simp [WShape.has, WShape.arms, WShape.armsAll])
    (show (WTm.eq .res (.lit (.bool true))).value [] { args := args, res := some (.bool true), after := args } = some (.bool (true == true)) from w_eq_bool (w_res rfl) w_lit) rfl

/-! ### the attachment: holds_open's last premise (the goal 'hc' behind k_head) from a wpAny of the law's body -/
/-- the same from a codeAny of the CALL (for a layer whose function contracts speak of calls) -/
theorem attach_call {l : OpenLaw} {n : Nat} {q : Program} {loose : List Str} {XP : (Str → Option Value) → Heap → Prop} {YP : World → Heap → Prop} {d : DefRec}
    (hn : l.most = some n) (hdf : d.params.defaults = [])
    (call : ∀ (w : World) (s₀ s₁ : Shared) (mg mb : Str → Option Value) (fa : Addr) (o : Obj) (pm cd doc : Value) (a : Addr) (vs : List Value) (ns : List Int),
      Ground q loose [] XP w s₀ mg mb s₁.heap → YP w s₁.heap →
      s₁.heap.get? fa = some o → o.data = .func (docDef d.name d.params d.body d.scope pm cd doc) → s₁.heap.CodeRec cd d.name → mg d.name = some (.ref fa) →
      s₁.heap.get? a = some { cls := .type "list", data := .seq vs.toArray } → IntsAre vs ns → ns.length ≤ n → s₁.gens = #[] →
      codeAny (model l.prog w) callerA (.call (.ref fa) ⟨[.ref a], []⟩) (fun r s' => r = .ok (.ret (.bool true)) ∧ OldK s₁.heap s'.heap ∧ s'.os = s₁.os ∧ AllBare s'.gens) s₁) :
    WalkO q loose XP YP l.row.toRowW d [] (fun f vs => PySem.call f vs) := by
  intro w s₀ s₁ mg mb G Y fa o pm cd doc dV kV ho hd hcd hD hmg hg args vals as hpre hlay hrd hwl hlo
  obtain rfl : dV = .none := Dflts.none hD hdf
  obtain rfl : kV = .none := Dflts.noKw hD
  obtain ⟨a, vs, ns, rfl, rfl, hobj, hints, hlen⟩ := script_of hn hpre hwl
  refine enter_call (codeAny_mono (call w s₀ s₁ mg mb fa o pm cd doc a vs ns G Y ho (fd_plain hd) hcd hmg hobj hints hlen hg) fun r s' hq => ?_)
  obtain ⟨rfl, h2, h3, h4⟩ := hq
  exact ⟨.inl ⟨.bool true, .bool true, [], rfl, fun _ => rfl, .bool true, post_true l _, fun _ => ⟨List.Pairwise.nil, fun _ hm => (nomatch hm)⟩⟩, h2, h3, h4⟩

/-! ### rules over ANY heap (no ledger) from facts about the written part K: the library's own take a ledger (News) for what they write -/
section
variable {prog : Program} {w : World} {A : Around} {E : Value → Shared → Prop} {s : Shared} {K : Frag}

/-! the whole heap as the ledger: makes every rule that writes through a ledger a rule over any heap -/
def ledger (h : Heap) (L d : Addr) : List (Addr × Obj) := (List.range h.objs.size).filterMap fun a => if a = L ∨ a = d then none else (h.get? a).map fun o => (a, o)
end
end Att

namespace L2
open PySem PySem.Spec PyProof.Rows

theorem vals_ints : ∀ {vs : List Value} {ns : List Int}, IntsAre vs ns → Vals (ns.map V.int) vs
  | _, _, .nil => .nil
  | _, _, .cons n t h => .cons ⟨t, rfl⟩ (vals_ints h)

/-- nothing is tracked but the script, known to the object (or it is an object of the module) -/
def Only (H : Hp) : Prop := ∀ b, H b = none ∨ ∃ o xs, H b = some (.frz o (.lst xs))

/-- THE HEAD: the law's promise, at the heap behind the top. F, the promise of the law's def, may use that base is part of the heap (so K.In base, base.Ns mainGlobals mg stand in Mod) -/
theorem law_call {P : Program} {w : World} {K : PySem.W.Frag} {mg mb : Str → Option Value} {CX : CXT} {k : Nat} {fa a : Addr} {fd : FuncData} {x : Str} {sp : Sp} {s₁ : Shared} {vs : List Value} {ns : List Int}
    (KX : K.In s₁.heap) (hns : s₁.heap.Ns mainGlobals mg) (hb : s₁.heap.Ns builtinsNs mb) (hbb : ∀ x : Str, x ≠ "__name__" → mb x = bootBuiltins x) (hlim : s₁.heap.NoLimit) (hg : s₁.gens = #[])
    (ha : s₁.heap.get? a = some { cls := .type "list", data := .seq vs.toArray }) (hi : IntsAre vs ns) (hl : ns.length ≤ sizeLine) (hr : Room k callerA)
    (F : ∀ base : Heap, K.In base → base.Ns mainGlobals mg → FnOk P w K mg base CX k fa fd [x] sp) (hbind : ∀ (s : Shared) (u : Value), BindsTo s fd ⟨[u], []⟩ [(x, u)])
    (hsp : ∀ H : Hp, Only H → SqL K H a (ns.map V.int) → sp [.ref a] H (fun v _ => v = .bl true) fun _ _ _ => False)
    (hCX : ∀ H e s', CX [] H s₁ (fun _ _ _ => False) e s' → False) :
    codeAny (model P w) callerA (.call (.ref fa) ⟨[.ref a], []⟩) (fun r s' => r = .ok (.ret (.bool true)) ∧ OldK s₁.heap s'.heap ∧ s'.os = s₁.os ∧ AllBare s'.gens) s₁ := by
  have rv := vals_ints hi
  have lenV := hi.length
  -- from an abstract heap in which nothing but the script may be tracked
  have core : ∀ H : Hp, Only H → SqL K H a (ns.map V.int) → HOk P w H s₁.heap → (∀ b, H b ≠ none → b = a) → (H a ≠ none → K.lookup a = none) →
      codeAny (model P w) callerA (.call (.ref fa) ⟨[.ref a], []⟩) (fun r s' => r = .ok (.ret (.bool true)) ∧ OldK s₁.heap s'.heap ∧ s'.os = s₁.os ∧ AllBare s'.gens) s₁ := by
    intro H hO hS hok hA hK
    have base_of : ∀ {b : Addr} {o : Obj}, s₁.heap.get? b = some o → H b = none → (hidT s₁.heap H).get? b = some o := fun e n => hidT_get e n
    have noA : ∀ {b : Addr} {o : Obj} {es : Array DictEntry} {ep : Nat}, s₁.heap.get? b = some o → o.data = .dict es ep → H b = none := fun {b o es ep} e d => by
      cases q : H b with
      | none => rfl
      | some u =>
        have e' : b = a := hA b (by rw [q]; simp)
        subst e'
        rw [ha] at e; cases e
        have d' : Data.seq vs.toArray _ = Data.dict es ep := d
        cases d'
    have nsK : ∀ {b : Addr} {m : Str → Option Value}, s₁.heap.Ns b m → (hidT s₁.heap H).Ns b m := fun {b m} ⟨o, es, ep, e, d, r⟩ => ⟨o, es, ep, base_of e (noA e d), d, r⟩
    have hKb : K.In (hidT s₁.heap H) := fun b o e => base_of (KX b o e) (by
      cases q : H b with
      | none => rfl
      | some u =>
        have e' : b = a := hA b (by rw [q]; simp)
        subst e'
        rw [hK (by rw [q]; simp)] at e; cases e)
    have hM : Mod K mg (hidT s₁.heap H) := ⟨hKb, nsK hns, ⟨mb, nsK hb, hbb⟩, let ⟨mc, h1, h2⟩ := hlim; ⟨mc, nsK h1, h2⟩⟩
    have e0 : Env0 P w K mg (hidT s₁.heap H) callerA [] s₁ H := ⟨rfl, hM, fun b o e => of_hidT e, Nat.le_of_eq (hidT_size _ _), trivial, fun b hb => absurd (show b ∈ ([] : List Addr) from hb) (by simp), hok, .of_eq hg⟩
    refine codeAny_mono ((F _ hKb (nsK hns)).run callerA [] s₁ H ⟨[.ref a], []⟩ [.ref a] [.ref a] _ _ hr e0 (hbind s₁ (.ref a)) (.cons rfl .nil) (hsp H hO hS)) fun r s' h => ?_
    cases r with
    | error e => exact (hCX H e s' h).elim
    | ok fl =>
      cases fl with
      | next => exact False.elim h
      | brk => exact False.elim h
      | cont => exact False.elim h
      | ret u =>
        obtain ⟨v, H', os, bare, un, hok', r', q⟩ := h
        have q' : v = .bl true := q
        subst q'
        obtain rfl : u = Value.bool true := r'
        refine ⟨rfl, OldK.of_keep fun b o e => ?_, os, bare⟩
        cases q : H b with
        | none => exact un.keep b o e q (by intro z; exact absurd (show b ∈ ([] : List Addr) from z) (by simp)) (by simp)
        | some u =>
          rcases hO b with z | ⟨ob, xs, z⟩
          · rw [q] at z; cases z
          · have z2 := un.frzs b ob _ z
            obtain ⟨e1, _⟩ := hok b _ z
            obtain ⟨e2, _⟩ := hok' b _ z2
            rw [e] at e1; cases e1
            exact e2
  cases hk : K.lookup a with
  | some o =>
    -- the script is one of the module's own objects
    have e := KX a o hk
    rw [ha] at e
    cases e
    refine core (fun _ => none) (fun _ => .inl rfl) (.inr ⟨_, vs.toArray, _, hk, rfl, rfl, rfl, by rw [List.size_toArray, lenV]; exact hl, by simpa using rv⟩) (fun b u z => by have z' : (none : Option HO) = some u := z; cases z') (fun b z => absurd rfl z) fun z => absurd rfl z
  | none =>
    refine core (fun b => if b = a then some (.frz { cls := .type "list", data := .seq vs.toArray } (.lst (ns.map V.int))) else none) (fun b => ?_) (.inl (.inr ⟨{ cls := .type "list", data := .seq vs.toArray }, if_pos rfl⟩)) (fun b u z => ?_) (fun b z => ?_) fun _ => hk
    · by_cases hb : b = a
      · exact .inr ⟨_, _, if_pos hb⟩
      · exact .inl (if_neg hb)
    · by_cases hb : b = a
      · have z' := (if_pos hb).symm.trans z
        cases z'
        subst hb
        exact ⟨ha, by rw [List.length_map]; exact hl, vs, _, rv, ha⟩
      · have z' := (if_neg hb).symm.trans z
        cases z'
    · by_cases hb : b = a
      · exact hb
      · exact absurd (if_neg hb) z
end L2

namespace L2
open PySem PySem.Spec PyProof.Rows

abbrev KOf {K : PySem.W.Frag} {h : Heap} (_ : K.In h) : PySem.W.Frag := K

/-- the goal that k_head leaves (case hc), from the law's promise. F gives the function object fd (K's own) once, then the promise over every base -/
theorem walk_of {l : PySem.W.OpenLaw} {n k : Nat} {q : Program} {loose : List Str} {XP : (Str → Option Value) → Heap → Prop} {YP : World → Heap → Prop} {d : DefRec} {K : Params → PySem.W.Frag} {CX : World → CXT} {sp : World → Sp} {x : Str}
    (hn : l.most = some n) (hn2 : n ≤ sizeLine) (hdf : d.params.defaults = []) (hr : Room k callerA)
    (hY : ∀ (w : World) (h : Heap), YP w h → (K w.params).In h)
    (F : ∀ (w : World) (mg : Str → Option Value) (fa : Addr) (h : Heap), (K w.params).In h → h.Ns mainGlobals mg → mg d.name = some (.ref fa) →
      ∃ fd : FuncData, (∀ (s : Shared) (u : Value), BindsTo s fd ⟨[u], []⟩ [(x, u)]) ∧
        ∀ base : Heap, (K w.params).In base → base.Ns mainGlobals mg → FnOk l.prog w (K w.params) mg base (CX w) k fa fd [x] (sp w))
    (hsp : ∀ (w : World) (H : Hp) (a : Addr) (ns : List Int), ns.length ≤ n → Only H → SqL (K w.params) H a (ns.map V.int) → sp w [.ref a] H (fun v _ => v = .bl true) fun _ _ _ => False)
    (hCX : ∀ (w : World) (H : Hp) (s : Shared) (e : Value) (s' : Shared), CX w [] H s (fun _ _ _ => False) e s' → False) :
    PySem.W.WalkO q loose XP YP l.row.toRowW d [] (fun f vs => PySem.call f vs) := by
  refine Att.attach_call hn hdf fun w s₀ s₁ mg mb fa o pm cd doc a vs ns G Y ho hd hcd hmg hobj hints hlen hg => ?_
  have KX := hY w _ Y
  obtain ⟨fd, hb, hF⟩ := F w mg fa _ KX G.T.g hmg
  exact law_call KX G.T.g G.T.b G.T.builtins G.T.nolimit hg hobj hints (Nat.le_trans hlen hn2) hr hF hb (fun H hO hS => hsp w H a ns hlen hO hS) fun H e s' => hCX w H s₁ e s'
/-- the same where the promise hangs on the written part alone: (sp := My.sp_law), no hole under a binder -/
theorem walk_ofK {l : PySem.W.OpenLaw} {n k : Nat} {q : Program} {loose : List Str} {XP : (Str → Option Value) → Heap → Prop} {YP : World → Heap → Prop} {d : DefRec} {K : Params → PySem.W.Frag} {CX : CXT} {sp : PySem.W.Frag → Sp} {x : Str}
    (hn : l.most = some n) (hn2 : n ≤ sizeLine) (hdf : d.params.defaults = []) (hr : Room k callerA)
    (hY : ∀ (w : World) (h : Heap), YP w h → (K w.params).In h)
    (F : ∀ (w : World) (mg : Str → Option Value) (fa : Addr) (h : Heap), (K w.params).In h → h.Ns mainGlobals mg → mg d.name = some (.ref fa) →
      ∃ fd : FuncData, (∀ (s : Shared) (u : Value), BindsTo s fd ⟨[u], []⟩ [(x, u)]) ∧
        ∀ base : Heap, (K w.params).In base → base.Ns mainGlobals mg → FnOk l.prog w (K w.params) mg base CX k fa fd [x] (sp (K w.params)))
    (hsp : ∀ (K : PySem.W.Frag) (H : Hp) (a : Addr) (ns : List Int), ns.length ≤ n → Only H → SqL K H a (ns.map V.int) → sp K [.ref a] H (fun v _ => v = .bl true) fun _ _ _ => False)
    (hCX : ∀ (H : Hp) (s : Shared) (e : Value) (s' : Shared), CX [] H s (fun _ _ _ => False) e s' → False) :
    PySem.W.WalkO q loose XP YP l.row.toRowW d [] (fun f vs => PySem.call f vs) :=
  walk_of (K := K) (CX := fun _ => CX) (sp := fun w => sp (K w.params)) hn hn2 hdf hr hY F (fun w H a ns h1 h2 h3 => hsp (K w.params) H a ns h1 h2 h3) fun _ H s e s' => hCX H s e s'
end L2

/- THE LAST THEOREM (shape; LID, My.* are yours):
   My.Adr: a structure of the addresses that your layer names (classes, functions); My.Txt K t: a structure (Prop) of the equations over K;
   My.txt_mk : {K} {implicit addresses ..} (e1 : nsIn K mainGlobals "law" = some (some (.ref f))) (e2 : K.lookup f = some ⟨oc, od, .func (fnOf "law" "law" params body scope dV kV doc pm an cdv ct), sl⟩) (e3 : codeIn K cdv "law" = true) .. : ∃ t, My.Txt K t

set_option maxRecDepth 100000 in
set_option maxHeartbeats 0 in
theorem PySem.Challenge.cw_LID_holds : PySem.Challenge.rw_LID.Holds := by
  w_on; o_law; k_head; (case hw => w_witness2)
  k_fill
  refine L2.walk_of (l := PySem.Challenge.rw_LID) (n := 63) (k := 40) (x := "script") (CX := fun w => ..) (sp := fun _ => My.sp_law) rfl (by decide) rfl ⟨rfl, by decide, by decide⟩ (fun w h Y => PySem.W.kIn_of Y) ?F ?S ?C
  case F =>
    intro w mg fa h KX G hmg
    have T : ∃ t, My.Txt (L2.KOf KX) t := by
      dsimp only [L2.KOf]                          -- K must stand as «<heap const> w.params» for k_is
      refine' My.txt_mk ?e1 ?e2 ?e3 ..
      (case e1 => PySem.W.k_is)                    -- in the order: a name -> its address -> its object -> its parts
      (case e2 => PySem.W.k_is)
      ..
    obtain ⟨t, T⟩ := T
    have e0 := hmg.symm.trans (PySem.W.mg_of KX G T.law)
    cases e0                                       -- fa is the law's own address
    exact ⟨_, fun s u => .of_eq rfl, fun base kb nb => My.law_fn T kb nb⟩     -- if «.of_eq rfl» comes too early: refine' ⟨_, ?b, fun base kb nb => My.law_fn T kb nb⟩; exact fun s u => .of_eq rfl
  case S => exact fun w H a ns hl hO hS => ..
  case C => exact ..
(the tactic k_is has no namespace: write k_is) -/

/-! SHORT WORDS over the layer: a def of the text, its body, what a loop and a test want. -/
namespace L2
open PySem PySem.Spec PyProof.Rows

/-! ### the text by places -/
/-- the j-th statement of a class's body -/
def inClass (s : Stmt) (j : Nat) : Stmt := match s with
  | .ClassDef _ _ _ body _ _ _ _ _ _ _ => body.getD j (.Pass ⟨0, 0, 0, 0⟩)
  | _ => .Pass ⟨0, 0, 0, 0⟩
def defArgs (s : Stmt) : Arguments := match s with
  | .FunctionDef _ a _ _ _ _ _ _ _ _ => a
  | _ => { posonlyargs := [], args := [], vararg := none, kwonlyargs := [], kw_defaults := [], kwarg := none, defaults := [] }
def defBody (s : Stmt) : List Stmt := match s with
  | .FunctionDef _ _ b _ _ _ _ _ _ _ => b
  | _ => []
def defScope (s : Stmt) : Scope := match s with
  | .FunctionDef _ _ _ _ _ _ sc _ _ _ => sc
  | _ => { kind := .function, names := [], isGenerator := false, isCoroutine := false }

/-! ### no exception leaves a def -/
abbrev CX0 : CXT := fun _ _ _ _ _ _ => False
abbrev E0 : XK := fun _ _ _ => False
theorem pass0 {X : Cx} : Passes CX0 X E0 := fun _ _ _ _ _ _ _ h => h.elim

/-! ### a def (or method) of the text as it stands behind the top -/
structure Fun (K : PySem.W.Frag) (x qual : Str) (st : Stmt) (f : Addr) (fd : FuncData) : Prop where
  ex : ∃ (oc : Value) (od : Option Addr) (kV doc pm : Value) (an : Option Addr) (cdv ct : Value) (osl : Array (Option Value)),
    fd = PySem.W.fnOf x qual (defArgs st) (defBody st) (defScope st) .none kV doc pm an cdv ct ∧ K.lookup f = some ⟨oc, od, .func fd, osl⟩ ∧ PySem.W.codeIn K cdv qual = true
  kp : PySem.W.keepIn K (.ref f) = true
section
variable {P : Program} {w : World} {K : PySem.W.Frag} {mg : Str → Option Value} {base : Heap}
/-- THE RULE for a def: its body as a term of rules, and the reading of that term -/
theorem Fun.ok {x qual : Str} {st : Stmt} {f : Addr} {fd : FuncData} {N ps : List Str} {k : Nat} {sp : Sp} (F : Fun K x qual st f fd) (S : FnScope N ps (defScope st)) (len : ∀ vs H Q E, sp vs H Q E → vs.length = ps.length)
    (hbody : ∀ (cdv : Value) (A : Around) (outer : List Env) (s : Shared) (H : Hp) (vs : List V) (Q : VK) (E : XK), Room k (A.deeper (envOfC qual (defScope st) s.heap.objs.size f cdv)) → sp vs H Q E →
      ∃ t, PSs (cxOf CX0 P w K mg base N qual (defScope st) f cdv A outer s H E).nox (defBody st) t ∧ t { nx := fun _ H' => Q .non H', rt := Q } (start N vs) H) : FnOk P w K mg base CX0 (k + 1) f fd ps sp := by
  obtain ⟨oc, od, kV, doc, pm, an, cdv, ct, osl, rfl, lk, hcd⟩ := F.ex
  refine fn_of lk hcd S len fun A outer s H vs Q E hr hsp => ?_
  obtain ⟨t, h, q⟩ := hbody cdv A outer s H vs Q E hr hsp
  exact ⟨t, h.nox, q⟩
/-- how its arguments bind (no defaults): h is «fun _ _ _ _ _ _ us hl => match us, hl with | [_, _], _ => rfl», one _ a parameter -/
theorem Fun.binds {x qual : Str} {st : Stmt} {f : Addr} {fd : FuncData} {ps : List Str} (F : Fun K x qual st f fd)
    (h : ∀ (kV doc pm : Value) (an : Option Addr) (cdv ct : Value) (us : List Value), us.length = ps.length → bindArgs (PySem.W.fnOf x qual (defArgs st) (defBody st) (defScope st) .none kV doc pm an cdv ct) ⟨us, []⟩ = pure (ps.zip us)) : Binds K fd ps [] := by
  obtain ⟨oc, od, kV, doc, pm, an, cdv, ct, osl, rfl, lk, hcd⟩ := F.ex
  exact .all (h kV doc pm an cdv ct)
theorem fun_mk {x qual : Str} {st : Stmt} {f : Addr} {oc : Value} {od an : Option Addr} {osl : Array (Option Value)} {kV doc pm cdv ct : Value} (l : K.lookup f = some ⟨oc, od, .func (PySem.W.fnOf x qual (defArgs st) (defBody st) (defScope st) .none kV doc pm an cdv ct), osl⟩)
    (c : PySem.W.codeIn K cdv qual = true) (k : PySem.W.keepIn K (.ref f) = true) : Fun K x qual st f (PySem.W.fnOf x qual (defArgs st) (defBody st) (defScope st) .none kV doc pm an cdv ct) := ⟨⟨oc, od, kV, doc, pm, an, cdv, ct, osl, rfl, l, c⟩, k⟩
end
/-! ### expressions in short: the name that stands in the i-th slot -/
section
variable {X : Cx}
theorem pv (i : Nat) {x : Str} {pos : Pos} (hN : X.N[i]? = some x := by rfl) (hv : Vis X.env.scope x := by first | exact Or.inl rfl | exact Or.inr (Or.inl rfl) | exact Or.inr (Or.inr rfl)) (hd : (x == ("__debug__" : Str)) = false := by decide)
    (hcd : (x == ("__classdict__" : Str)) = false := by decide) : PE X (.Name x pos) (tVar i) := pe_var hN hv hd hcd
end

/-! ### tests -/
theorem iteF {A B : Prop} (h : B) : if false = true then A else B := by
  rw [if_neg Bool.false_ne_true]
  exact h
theorem ite2 {c A B : Prop} [Decidable c] (h1 : c → A) (h2 : ¬ c → B) : if c then A else B := by
  by_cases h : c
  · rw [if_pos h]
    exact h1 h
  · rw [if_neg h]
    exact h2 h
theorem iteNS {c A B : Prop} [Decidable c] (hc : c) (h : B) : if (!decide c) = true then A else B := by
  rw [decide_eq_true hc]
  exact iteF h

/-! ### heaps -/
/-- all that was tracked is as it was -/
def Same (H H' : Hp) : Prop := ∀ b o, H b = some o → H' b = some o
theorem Same.refl (H : Hp) : Same H H := fun _ _ h => h
theorem Same.trans {H H1 H2 : Hp} (a : Same H H1) (b : Same H1 H2) : Same H H2 := fun c o h => b c o (a c o h)
theorem Same.free {H H' : Hp} (e : Same H H') {l : Addr} (h : H' l = Option.none) : H l = Option.none := by
  cases q : H l with
  | none => rfl
  | some o =>
    rw [e l o q] at h
    cases h
theorem Same.seq {K : PySem.W.Frag} {H H' : Hp} {a : Addr} {xs : List V} (e : Same H H') (h : SqL K H a xs) : SqL K H' a xs := by
  rcases h with (h | ⟨o, h⟩) | h
  · exact .inl (.inl (e _ _ h))
  · exact .inl (.inr ⟨o, e _ _ h⟩)
  · exact .inr h

/-! ### a dict's pairs: keys that differ -/
section
variable {κ : Type} [DecidableEq κ]
end
/-! ### lists -/
theorem at_of {xs : List V} {z : Int} {j : Nat} {v : V} (e : z = (j : Int)) (h : xs[j]? = some v) : atI xs z = some v := by
  rw [e]
  exact atI_nat h
/-- a new instance and its __init__ leave all that was tracked as it was -/
theorem Same.made {H H1 : Hp} {x dx C : Addr} (nx : H x = Option.none) (nd : H dx = Option.none) (k : ∀ b o, (upd (upd H dx (.own x)) x (.ins C dx [])) b = some o → b ≠ x → H1 b = some o) : Same H H1 := fun b o e =>
  k b o (by rw [upd_ne (ne_of_none e nx), upd_ne (ne_of_none e nd)]; exact e) (ne_of_none e nx)
end L2

set_option Elab.async false
set_option linter.all false
set_option maxRecDepth 100000
set_option maxHeartbeats 4000000
namespace L2
open PySem PySem.Spec PyProof.Rows

/-! ### a def by its name -/
structure FunN (K : PySem.W.Frag) (mg : Str → Option Value) (x : Str) (st : Stmt) (ps : List Str) : Prop where
  ex : ∃ (f : Addr) (fd : FuncData), Fun K x x st f fd ∧ mg x = some (.ref f) ∧ Binds K fd ps []
structure Cal (P : Program) (w : World) (K : PySem.W.Frag) (mg : Str → Option Value) (base : Heap) (k : Nat) (x : Str) (ps : List Str) (sp : Sp) : Prop where
  ex : ∃ (f : Addr) (fd : FuncData), FnOk P w K mg base CX0 k f fd ps sp ∧ mg x = some (.ref f) ∧ PySem.W.keepIn K (.ref f) = true ∧ Binds K fd ps []
section
variable {P : Program} {w : World} {K : PySem.W.Frag} {mg : Str → Option Value} {base : Heap}
theorem cal_of {x : Str} {st : Stmt} {N ps : List Str} {k : Nat} {sp : Sp} (F : FunN K mg x st ps) (S : FnScope N ps (defScope st)) (len : ∀ vs H Q E, sp vs H Q E → vs.length = ps.length)
    (hbody : ∀ (f : Addr) (cdv : Value) (A : Around) (outer : List Env) (s : Shared) (H : Hp) (vs : List V) (Q : VK) (E : XK), Room k (A.deeper (envOfC x (defScope st) s.heap.objs.size f cdv)) → sp vs H Q E →
      ∃ t, PSs (cxOf CX0 P w K mg base N x (defScope st) f cdv A outer s H E).nox (defBody st) t ∧ t { nx := fun _ H' => Q .non H', rt := Q } (start N vs) H) : Cal P w K mg base (k + 1) x ps sp := by
  obtain ⟨f, fd, F1, m, b⟩ := F.ex
  exact ⟨f, fd, F1.ok S len (fun cdv A outer s H vs Q E hr h => hbody f cdv A outer s H vs Q E hr h), m, F1.kp, b⟩
theorem Cal.mono {x : Str} {ps : List Str} {j k : Nat} {sp : Sp} (c : Cal P w K mg base j x ps sp) (h : j ≤ k) : Cal P w K mg base k x ps sp := by
  obtain ⟨f, fd, F, m, kp, b⟩ := c.ex
  exact ⟨f, fd, F.mono h, m, kp, b⟩
end
section
variable {X : Cx}
theorem pe_cal {k : Nat} {x : Str} {ps : List Str} {sp : Sp} {e : Expr} {es : List Expr} {t : TA} {p pos : Pos} (c : Cal X.prog X.w X.K X.mg X.base k x ps sp) (hr : Room k X.A) (hg : Gl X x) (ha : PA X (e :: es) t)
    (hdb : (x == ("__debug__" : Str)) = false := by decide) (he : starEach (e :: es) X.env = (false, eval e X.env) :: starEach es X.env := by rfl) (hpl : (backTo pos (starEach es X.env)).any (·.1) = false := by rfl) :
    PE X (.Call (.Name x p) (e :: es) [] pos) (tCall sp [] E0 t) := by
  obtain ⟨f, fd, F, m, kp, b⟩ := c.ex
  exact pe_call F hr hg m kp b .nil pass0 ha hdb he hpl

/-! ### isinstance -/
def rIsi (K : PySem.W.Frag) : List V → Hp → VK → Prop := fun xs H Q => ∃ x T t b, xs = [x, .ty T] ∧ TyOf K H x t ∧ PySem.W.kitOne K t (.type T) = some b ∧ Q (.bl b) H
theorem call_isi : CallR X (.builtin "isinstance") (rIsi X.K) := by
  intro pins s σ H xs us Q I r h
  obtain ⟨x, T, t, b, rfl, ty, e, q⟩ := h
  cases r with
  | cons r1 r =>
    cases r with
    | cons r2 r =>
      cases r
      cases r2
      exact isinst_ok I r1 ty e fun tk => ⟨.bl b, H, I.tok tk, rfl, q⟩
theorem kit_int_str {K : PySem.W.Frag} : PySem.W.kitOne K (.type "int") (.type "str") = some false := by kernel_rfl
theorem kit_tuple_str {K : PySem.W.Frag} : PySem.W.kitOne K (.type "tuple") (.type "str") = some false := by kernel_rfl
theorem kit_str_str {K : PySem.W.Frag} : PySem.W.kitOne K (.type "str") (.type "str") = some true := by kernel_rfl
theorem kit_int_int {K : PySem.W.Frag} : PySem.W.kitOne K (.type "int") (.type "int") = some true := by kernel_rfl
theorem kit_tuple_int {K : PySem.W.Frag} : PySem.W.kitOne K (.type "tuple") (.type "int") = some false := by kernel_rfl
theorem kit_int_bool {K : PySem.W.Frag} : PySem.W.kitOne K (.type "int") (.type "bool") = some false := by kernel_rfl
theorem kit_tuple_tuple {K : PySem.W.Frag} : PySem.W.kitOne K (.type "tuple") (.type "tuple") = some true := by kernel_rfl
theorem kit_tuple_list {K : PySem.W.Frag} : PySem.W.kitOne K (.type "tuple") (.type "list") = some false := by kernel_rfl
/-! ### is True -/
/-! ### // by any positive divisor of not too many bits -/
def CDivL (i j : Int) : Prop := 0 < j ∧ j.natAbs.log2 < 9000
theorem op_fdivL : OpR X (binaryOp .FloorDiv) (rI CDivL fun i j => .int (i / j)) := opI fun i j _ _ _ _ _ hc q => by
  have h1 : (0 : Int) < j := hc.1
  exact floordiv_int (by omega) (by rw [Int.fdiv_eq_ediv_of_nonneg i (by omega)]; exact q) (.inl (PyProof.noPylong_of_log2 hc.2))

/-! ### repr of data -/
/-! ### list(text) -/
end

/-! ### over a text -/
theorem lc_str {x : Str} {g : TG} {tt : TT} {te : TE} {vs : List Nat} {σ : St} {H1 : Hp} {D : Addr} {Qd : Hp → Prop} (Pv : Nat → Hp → Prop) (h0 : Pv 0 (upd H1 D (.lst [])))
    (hs : ∀ i c H, x.cps.toList[i]? = some c → Pv i H → g (.str ⟨#[c]⟩) (wipe σ vs) H fun σ2 H2 => wipe σ2 vs = wipe σ vs ∧ tt σ2 H2 fun b H3 =>
      if b = true then te σ2 H3 fun y H4 => ∃ acc, H4 D = some (.lst acc) ∧ acc.length < sizeLine ∧ Pv (i + 1) (upd H4 D (.lst (acc ++ [y]))) else Pv (i + 1) H3) (hd : ∀ H, Pv x.cps.toList.length H → Qd H) :
    ∃ W : Nat → Nat → Hp → Prop, (∃ m, W 0 m (upd H1 D (.lst []))) ∧ ∀ i m H, W i m H →
      ((Its x).stop i H ∧ Qd H) ∨ ((Its x).go i H ∧ ∃ Nx : Hp → Prop, (∀ H', Nx H' → ∃ m', m' < m ∧ W (i + 1) m' H') ∧ ∀ y H', (Its x).yld i H y H' → g y (wipe σ vs) H' fun σ2 H2 => wipe σ2 vs = wipe σ vs ∧ tt σ2 H2 fun b H3 =>
        if b = true then te σ2 H3 fun y H4 => ∃ acc, H4 D = some (.lst acc) ∧ acc.length < sizeLine ∧ Nx (upd H4 D (.lst (acc ++ [y]))) else Nx H3) := by
  have el : x.cps.toList.length = x.cps.size := Array.length_toList
  refine ⟨fun i m H => m = x.cps.size - i ∧ i ≤ x.cps.size ∧ Pv i H, ⟨x.cps.size, by simp, Nat.zero_le _, h0⟩, ?_⟩
  rintro i m H ⟨rfl, hi, p⟩
  by_cases hlt : i < x.cps.size
  · refine .inr ⟨hlt, Pv (i + 1), fun H' p' => ⟨x.cps.size - (i + 1), by omega, rfl, hlt, p'⟩, fun y H' q => ?_⟩
    obtain ⟨e, c, hc, rfl⟩ := q
    subst e
    exact hs i c _ (by simpa using hc) p
  · have e : i = x.cps.size := by omega
    subst e
    exact .inl ⟨Nat.le_refl _, hd H (by rw [el]; exact p)⟩

/-! ### heaps that grow -/
theorem Same.seqT {K : PySem.W.Frag} {H H' : Hp} {a : Addr} {xs : List V} (e : Same H H') (h : SqT K H a xs) : SqT K H' a xs := by
  rcases h with (h | ⟨o, h⟩) | h
  · exact .inl (.inl (e _ _ h))
  · exact .inl (.inr ⟨o, e _ _ h⟩)
  · exact .inr h
mutual
theorem Dp.mono {K : PySem.W.Frag} {H H' : Hp} (e : Same H H') : ∀ {v : V} {d : PyData}, Dp K H v d → Dp K H' v d
  | _, _, .non => .non
  | _, _, .bl b => .bl b
  | _, _, .int i => .int i
  | _, _, .str x => .str x
  | _, _, .lst h a => .lst (e.seq h) (DpAll.mono e a)
  | _, _, .tup h a => .tup (e.seqT h) (DpAll.mono e a)
theorem DpAll.mono {K : PySem.W.Frag} {H H' : Hp} (e : Same H H') : ∀ {vs : List V} {ds : List PyData}, DpAll K H vs ds → DpAll K H' vs ds
  | _, _, .nil => .nil
  | _, _, .cons h a => .cons (Dp.mono e h) (DpAll.mono e a)
end
theorem Same.upd_new {H : Hp} {p : Addr} {o : HO} (h : H p = none) : Same H (upd H p o) := fun b u e => by rw [upd_ne (ne_of_none e h)]; exact e
/-- all but p as it was -/
def Off (p : Addr) (H H' : Hp) : Prop := ∀ b o, H b = some o → b ≠ p → H' b = some o
theorem Off.refl {p : Addr} {H : Hp} : Off p H H := fun _ _ h _ => h
theorem Off.trans {p : Addr} {H H1 H2 : Hp} (a : Off p H H1) (b : Off p H1 H2) : Off p H H2 := fun c o h n => b c o (a c o h n) n
theorem Same.off {p : Addr} {H H' : Hp} (a : Same H H') : Off p H H' := fun b o h _ => a b o h
theorem Off.upd {p : Addr} {H : Hp} {o : HO} : Off p H (upd H p o) := fun b u h n => by rw [upd_ne n]; exact h
/-- a thing of any kind that isinstance tells -/
inductive Thing (H : Hp) : V → Prop where
  | non : Thing H .non
  | bl (b : Bool) : Thing H (.bl b)
  | int (i : Int) : Thing H (.int i)
  | str (x : Str) (h : x.length ≤ sizeLine) (ok : ∀ c ∈ x.cps.toList, c < 1114112) : Thing H (.str x)
  | lst {a : Addr} {xs : List V} (h : H a = some (.lst xs)) : Thing H (.ref a)
  | tup {a : Addr} {xs : List V} (h : H a = some (.tup xs)) : Thing H (.ref a)
theorem Thing.mono {H H' : Hp} (e : Same H H') {v : V} (t : Thing H v) : Thing H' v := by
  cases t with
  | non => exact .non
  | bl b => exact .bl b
  | int i => exact .int i
  | str x h ok => exact .str x h ok
  | lst h => exact .lst (e _ _ h)
  | tup h => exact .tup (e _ _ h)
end L2

set_option Elab.async false
set_option linter.all false
set_option maxRecDepth 100000
set_option maxHeartbeats 4000000
namespace L2
open PySem PySem.Spec PyProof.Rows TL
/-! ### texts as lists of codes -/
abbrev cs (x : Str) : List Nat := x.cps.toList
theorem cs_len (x : Str) : (cs x).length = x.length := Array.length_toList
theorem cs_app (x y : Str) : cs (x ++ y) = cs x ++ cs y := tl_append x y
theorem len_app (x y : Str) : (x ++ y).length = x.length + y.length := by rw [← cs_len, cs_app, List.length_append, cs_len, cs_len]
theorem cs_cut (z : Str) (lo hi : Option Int) : cs (cutS z lo hi) = ((cs z).drop (HT.sIx z.length 0 lo)).take (HT.sIx z.length z.length hi - HT.sIx z.length 0 lo) := by
  unfold cutS cs
  rw [List.toList_toArray]
def Lets (x : Str) : Prop := ∀ c ∈ cs x, 97 ≤ c ∧ c ≤ 122
theorem Lets.app {x y : Str} (h : Lets x) (h' : Lets y) : Lets (x ++ y) := fun c m => by
  rw [cs_app] at m
  rcases List.mem_append.mp m with m | m
  · exact h c m
  · exact h' c m
theorem mem_cut {z : Str} {lo hi : Option Int} {c : Nat} (m : c ∈ cs (cutS z lo hi)) : c ∈ cs z := by
  rw [cs_cut] at m
  exact List.mem_of_mem_drop (List.mem_of_mem_take m)
theorem Lets.cut {z : Str} (h : Lets z) (lo hi : Option Int) : Lets (cutS z lo hi) := fun c m => h c (mem_cut m)
theorem len_cut (z : Str) (lo hi : Option Int) : (cutS z lo hi).length = min (HT.sIx z.length z.length hi - HT.sIx z.length 0 lo) (z.length - HT.sIx z.length 0 lo) := by
  rw [← cs_len, cs_cut, List.length_take, List.length_drop, cs_len]
theorem sIx_int (n d : Nat) (i : Int) (h : 0 ≤ i) : HT.sIx n d (some i) = min i.toNat n := by
  show (if i < 0 then (i + (n : Int)).toNat else min i.toNat n) = min i.toNat n
  rw [if_neg (by omega)]
/-- z[:k] -/
theorem len_take {z : Str} {k : Int} (h : 0 ≤ k) : (cutS z none (some k)).length = min k.toNat z.length := by
  rw [len_cut, sIx_int _ _ _ h]
  show min (min k.toNat z.length - 0) (z.length - 0) = _
  omega
/-- z[i:] -/
theorem len_drop {z : Str} {i : Int} (h : 0 ≤ i) : (cutS z (some i) none).length = z.length - min i.toNat z.length := by
  rw [len_cut, sIx_int _ _ _ h]
  show min (z.length - _) _ = _
  omega
theorem szl : (sizeLine : Nat) = 16777216 := sizeLine_eq
theorem atI_in {α : Type} {xs : List α} {i : Int} (h0 : 0 ≤ i) (h1 : i < xs.length) : atI xs i = some (xs[i.toNat]'(by omega)) := by
  have h2 : i.toNat < xs.length := by omega
  have h := atI_nat (xs := xs) (j := i.toNat) (v := xs[i.toNat]) (by simp [h2])
  rwa [Int.toNat_of_nonneg h0] at h
theorem ixN_of {n : Nat} {i : Int} (h0 : 0 ≤ i) (h1 : i < n) : ixN n i = some i.toNat := by
  unfold ixN
  rw [if_pos h0, if_pos h1]
theorem small_log {m : Int} (h0 : 0 < m) (h : m ≤ 1000000) : m.natAbs.log2 < 9000 := by
  have h1 : m.natAbs < 2 ^ 20 := by
    have : m.natAbs ≤ 1000000 := by omega
    exact Nat.lt_of_le_of_lt this (by decide)
  have h2 : m.natAbs.log2 < 20 := (Nat.log2_lt (by omega)).mpr h1
  omega
/-! ### a display of constants -/
def constsOf : List Expr → Option (List V)
  | [] => some []
  | .Constant (.str x) _ _ :: r => (constsOf r).map (V.str x :: ·)
  | .Constant (.int i) _ _ :: r => (constsOf r).map (V.int i :: ·)
  | .Constant (.bool b) _ _ :: r => (constsOf r).map (V.bl b :: ·)
  | .Constant .none _ _ :: r => (constsOf r).map (V.non :: ·)
  | _ => none
def tCs (vs : List V) : TA := fun _ H Q => Q vs H
theorem pa_consts {X : Cx} : ∀ {es : List Expr} {vs : List V}, constsOf es = some vs → PA X es (tCs vs)
  | [], vs, h => by
    have e : ([] : List V) = vs := Option.some.inj h
    subst e
    exact pa_nil
  | .Constant c j pos :: r, vs, h => by
    have key : ∀ (v : V) (us : List V), constsOf r = some us → v :: us = vs → PE X (.Constant c j pos) (tC v) → PA X (.Constant c j pos :: r) (tCs vs) := by
      intro v us e1 e2 pv
      subst e2
      have hr := pa_consts (X := X) e1
      exact pa_cons pv hr
    cases c with
    | str x =>
      cases e : constsOf r with
      | none => rw [constsOf, e] at h; cases h
      | some us => rw [constsOf, e] at h; exact key _ us e (Option.some.inj h) pe_str
    | int x =>
      cases e : constsOf r with
      | none => rw [constsOf, e] at h; cases h
      | some us => rw [constsOf, e] at h; exact key _ us e (Option.some.inj h) pe_int
    | bool x =>
      cases e : constsOf r with
      | none => rw [constsOf, e] at h; cases h
      | some us => rw [constsOf, e] at h; exact key _ us e (Option.some.inj h) pe_bl
    | none =>
      cases e : constsOf r with
      | none => rw [constsOf, e] at h; cases h
      | some us => rw [constsOf, e] at h; exact key _ us e (Option.some.inj h) pe_non
    | _ => simp [constsOf] at h
/-- a cut between two statements -/
theorem seq_after {t u : TS} {D : Ends} {σ : St} {H : Hp} (M : St → Hp → Prop) (h2 : ∀ σ' H', M σ' H' → u D σ' H') (h1 : (∀ σ' H', M σ' H' → u D σ' H') → t { D with nx := u D } σ H) : tSeq t u D σ H := h1 h2
theorem seq_c {v : V} {i : Nat} {u : TS} {D : Ends} {σ : St} {H : Hp} (h : u D (σ.set i (some v)) H) : tSeq (tAsg (tC v) (gName i)) u D σ H := h
theorem upd_id {H : Hp} {p : Addr} {o : HO} (h : H p = some o) : upd H p o = H := by
  funext b
  by_cases hb : b = p
  · subst hb; rw [upd_same]; exact h.symm
  · rw [upd_ne hb]
end L2

set_option Elab.async false
set_option linter.all false
set_option maxRecDepth 100000
set_option maxHeartbeats 1000000
namespace L2
open PySem PySem.Spec PyProof.Rows TL
section
variable {X : Cx}
/-- the ints lo, lo + 1, .. -/
def upInts (lo : Int) (n : Nat) : List Int := (List.range n).map fun (i : Nat) => lo + (i : Int)
end
end L2

set_option Elab.async false
set_option linter.all false
set_option maxRecDepth 100000
set_option maxHeartbeats 1000000
namespace L2
open PySem PySem.Spec PyProof.Rows TL
section
variable {X : Cx}
end
end L2

set_option Elab.async false
set_option linter.all false
set_option maxRecDepth 100000
set_option maxHeartbeats 1000000
namespace L2
open PySem PySem.Spec PyProof.Rows TL

section
variable {prog : Program} {w : World} {A : Around} {R : Result → Shared → Prop} {I : Addr} {fp wr : List Addr} {n : Nat} {P : Nat → Value → Prop} {St : Nat → Heap → Prop}
end

section
variable {prog : Program} {w : World} {A : Around} {R : Result → Shared → Prop} {I : Addr} {fp wr : List Addr} {n : Nat} {P : Nat → Value → Prop} {St : Nat → Heap → Prop}
end
end L2

set_option Elab.async false
set_option linter.all false
set_option maxRecDepth 100000
set_option maxHeartbeats 1000000
namespace L2
open PySem PySem.Spec PyProof.Rows TL
/-! ### f(xs, default=d) -/
section
variable {X : Cx}
end
end L2

set_option Elab.async false
set_option linter.all false
set_option maxRecDepth 100000
set_option maxHeartbeats 1000000
namespace L2
open PySem PySem.Spec PyProof.Rows TL
section
variable {prog : Program} {w : World} {A : Around} {E : Value → Shared → Prop} {s : Shared}
end
section
variable {X : Cx} {tg : Expr}
end
end L2

set_option Elab.async false
set_option linter.all false
set_option maxRecDepth 100000
set_option maxHeartbeats 1000000
namespace L2
open PySem PySem.Spec PyProof.Rows TL
/-! ### pieces, pins, what is missed -/
/-- so many signs from a place on -/
def sub (c : List Nat) (i L : Nat) : List Nat := (c.drop i).take L
theorem sub_len {c : List Nat} {i L : Nat} (h : i + L ≤ c.length) : (sub c i L).length = L := by
  unfold sub
  rw [List.length_take, List.length_drop]
  omega
/-- how many places from i on, of k, come ahead of the next pin -/
def fr (p : Nat → Bool) : Nat → Nat → Nat
  | 0, _ => 0
  | k + 1, i => if p i = true then 0 else fr p k (i + 1) + 1
/-- a piece that no pin touches -/
structure Missed (c : List Nat) (p : Nat → Bool) (w : List Nat) : Prop where
  ne : 1 ≤ w.length
  at' : ∃ i, i + w.length ≤ c.length ∧ sub c i w.length = w
  free : ∀ i, i + w.length ≤ c.length → sub c i w.length = w → ∀ j, j < w.length → p (i + j) = false
/-- the shortest one missed, of these the least, of a length from lo to hi -/
def FMin (c : List Nat) (p : Nat → Bool) (lo hi : Nat) (r : Option Str) : Prop :=
  match r with
  | none => ∀ w, lo ≤ w.length → w.length < hi → ¬ Missed c p w
  | some y => lo ≤ y.length ∧ y.length < hi ∧ Missed c p (cs y) ∧ ∀ w, lo ≤ w.length → w.length < hi → Missed c p w → y.length ≤ w.length ∧ (w.length = y.length → ¬ w < cs y)
theorem Missed.len {c : List Nat} {p : Nat → Bool} {w : List Nat} (h : Missed c p w) : w.length ≤ c.length := by
  obtain ⟨i, h1, _⟩ := h.at'
  omega
/-- of two that are so there is one -/
theorem FMin.uniq {c : List Nat} {p : Nat → Bool} {lo hi : Nat} {r s : Option Str} (h : FMin c p lo hi r) (h' : FMin c p lo hi s) : r = s := by
  cases r with
  | none =>
    cases s with
    | none => rfl
    | some y =>
      obtain ⟨h1, h2, h3, _⟩ := h'
      exact absurd h3 (h (cs y) (by rw [cs_len]; exact h1) (by rw [cs_len]; exact h2))
  | some y =>
    obtain ⟨h1, h2, h3, h4⟩ := h
    cases s with
    | none => exact absurd h3 (h' (cs y) (by rw [cs_len]; exact h1) (by rw [cs_len]; exact h2))
    | some z =>
      obtain ⟨g1, g2, g3, g4⟩ := h'
      obtain ⟨a1, a2⟩ := h4 (cs z) (by rw [cs_len]; exact g1) (by rw [cs_len]; exact g2) g3
      obtain ⟨b1, b2⟩ := g4 (cs y) (by rw [cs_len]; exact h1) (by rw [cs_len]; exact h2) h3
      rw [cs_len] at a1 a2 b1 b2
      have e : y.length = z.length := by omega
      have n1 := a2 e.symm
      have n2 := b2 e
      congr 1
      refine TL.ext_tl ?_
      show cs y = cs z
      rcases Classical.em (cs y = cs z) with q | q
      · exact q
      · exact absurd (List.le_antisymm n1 n2) q
theorem FMin.next {c : List Nat} {p : Nat → Bool} {lo mid : Nat} (h : FMin c p lo mid none) (hl : lo ≤ mid) {hi : Nat} (hm : mid < hi) {r : Option Str} (h' : FMin c p mid (mid + 1) r) : (r = none → FMin c p lo (mid + 1) none) ∧ ∀ y, r = some y → FMin c p lo hi (some y) := by
  constructor
  · rintro rfl w h1 h2
    rcases Nat.lt_or_ge w.length mid with q | q
    · exact h w h1 q
    · exact h' w q h2
  · rintro y rfl
    obtain ⟨h1, h2, h3, h4⟩ := h'
    refine ⟨by omega, by omega, h3, fun w w1 w2 mw => ?_⟩
    rcases Nat.lt_or_ge w.length mid with q | q
    · exact absurd mw (h w w1 q)
    · refine ⟨by omega, fun e => ?_⟩
      exact (h4 w (by omega) (by omega) mw).2 e
end L2

set_option Elab.async false
set_option linter.all false
set_option maxRecDepth 100000
set_option maxHeartbeats 1000000
namespace L2
open PySem PySem.Spec PyProof.Rows TL
/-! ### rows of ints, compared -/
/-! ### pins -/
/-- places of n, rising -/
structure Pins (n : Nat) (ps : List Int) : Prop where
  up : ps.Pairwise (· < ·)
  rg : ∀ p ∈ ps, 0 ≤ p ∧ p < (n : Int)
theorem Pins.nil {n : Nat} : Pins n [] := ⟨.nil, fun p m => nomatch m⟩
theorem Pins.mono {n m : Nat} {ps : List Int} (h : Pins n ps) (l : n ≤ m) : Pins m ps := ⟨h.up, fun p q => by have := h.rg p q; omega⟩
theorem Pins.snoc {n : Nat} {ps : List Int} (h : Pins n ps) : Pins (n + 1) (ps ++ [(0 : Int) + (n : Int)]) := by
  constructor
  · refine List.pairwise_append.mpr ⟨h.up, List.pairwise_singleton _ _, fun a ha b hb => ?_⟩
    have := h.rg a ha
    have e := List.mem_singleton.mp hb
    omega
  · intro p q
    rcases List.mem_append.mp q with q | q
    · have := h.rg p q; omega
    · have e := List.mem_singleton.mp q
      omega
theorem Pins.len {n : Nat} : ∀ {ps : List Int}, Pins n ps → ps.length ≤ n := by
  have key : ∀ (ps : List Int) (lo : Int), ps.Pairwise (· < ·) → (∀ p ∈ ps, lo ≤ p ∧ p < (n : Int)) → (ps.length : Int) ≤ max 0 ((n : Int) - lo) := by
    intro ps
    induction ps with
    | nil => intro lo _ _; show ((0 : Nat) : Int) ≤ _; omega
    | cons a r ih =>
      intro lo up rg
      have h1 := rg a (List.mem_cons_self ..)
      have h2 := ih (a + 1) (List.pairwise_cons.mp up).2 fun p m => ⟨by have := (List.pairwise_cons.mp up).1 p m; omega, (rg p (List.mem_cons_of_mem _ m)).2⟩
      rw [List.length_cons]
      omega
  intro ps h
  have := key ps 0 h.up h.rg
  omega
theorem Pins.erase {n : Nat} {ps : List Int} (h : Pins n ps) (k : Nat) : Pins n (ps.eraseIdx k) := ⟨h.up.sublist (List.eraseIdx_sublist ..), fun p m => h.rg p (List.mem_of_mem_eraseIdx m)⟩
end L2

set_option Elab.async false
set_option linter.all false
set_option maxRecDepth 100000
set_option maxHeartbeats 1000000
namespace L2
open PySem PySem.Spec PyProof.Rows TL
end L2

set_option Elab.async false
set_option linter.all false
set_option maxRecDepth 100000
set_option maxHeartbeats 1000000
namespace L2
open PySem PySem.Spec PyProof.Rows TL
def IsRvT (h : Heap) (a l : Addr) (i : Int) : Prop := ∃ o, h.get? a = some o ∧ o.cls = .type "reversed" ∧ o.data = .fields #[.ref l, rawInt i]
section
variable {prog : Program} {w : World} {A : Around} {E : Value → Shared → Prop} {s : Shared}
theorem IsRvT.ty {a l : Addr} {i : Int} (x : IsRvT s.heap a l i) : s.TypeIs (.ref a) "reversed" := let ⟨o, ho, hc, _⟩ := x; ⟨o, ho, hc⟩
theorem IsRvT.at' {h h' : Heap} {a l : Addr} {i : Int} (x : IsRvT h a l i) (e : ∀ o, h.get? a = some o → h'.get? a = some o) : IsRvT h' a l i := let ⟨o, ho, r⟩ := x; ⟨o, e _ ho, r⟩
end
section
variable {X : Cx} {tg : Expr}
end
end L2

set_option Elab.async false
set_option linter.all false
set_option maxRecDepth 100000
set_option maxHeartbeats 1000000
namespace L2
open PySem PySem.Spec PyProof.Rows TL
end L2

set_option Elab.async false
set_option linter.all false
set_option maxRecDepth 100000
set_option maxHeartbeats 1000000
namespace L2
open PySem PySem.Spec PyProof.Rows TL
section
variable {prog : Program} {w : World} {A : Around} {E : Value → Shared → Prop} {s : Shared} {a0 : Array Keyed}
end
end L2

set_option Elab.async false
set_option linter.all false
set_option maxRecDepth 100000
set_option maxHeartbeats 1000000
namespace L2
open PySem PySem.Spec PyProof.Rows TL
/-- pins from the end -/
def turn (n : Nat) (ps : List Int) : List Int := ps.reverse.map fun p => (n : Int) - 1 - p
theorem Pins.turn {n : Nat} {ps : List Int} (h : Pins n ps) : Pins n (L2.turn n ps) := by
  constructor
  · unfold L2.turn
    rw [List.pairwise_map, List.pairwise_reverse]
    exact h.up.imp fun q => by omega
  · intro p m
    unfold L2.turn at m
    obtain ⟨q, hq, rfl⟩ := List.mem_map.mp m
    have := h.rg q (List.mem_reverse.mp hq)
    omega
/-! ### read from the end -/
end L2

set_option Elab.async false
set_option linter.all false
set_option maxRecDepth 100000
set_option maxHeartbeats 1000000
namespace L2
open PySem PySem.Spec PyProof.Rows TL
/-! ### a set's table -/
def Rise (xs : Array Nat) : Prop := ∀ i j, i < j → j < xs.size → xs.getD i 0 < xs.getD j 0
theorem getD_in {xs : Array Nat} {i d e : Nat} (h : i < xs.size) : xs.getD i d = xs.getD i e := by simp [Array.getD, h]
theorem below_go {xs : Array Nat} {j : Nat} (hr : Rise xs) : ∀ (f lo hi : Nat), hi - lo ≤ f → lo ≤ hi → hi ≤ xs.size → (∀ i, i < lo → xs.getD i 0 < j) → (∀ i, hi ≤ i → i < xs.size → j ≤ xs.getD i 0) →
    SetTable.below.go xs j f lo hi ≤ xs.size ∧ (∀ i, i < SetTable.below.go xs j f lo hi → xs.getD i 0 < j) ∧ ∀ i, SetTable.below.go xs j f lo hi ≤ i → i < xs.size → j ≤ xs.getD i 0
  | 0, lo, hi, hf, hl, hs, h1, h2 => by
    have e : lo = hi := by omega
    subst e
    exact ⟨hs, h1, h2⟩
  | f + 1, lo, hi, hf, hl, hs, h1, h2 => by
    show _ ∧ _
    unfold SetTable.below.go
    by_cases h : lo < hi
    · rw [if_pos h]
      dsimp only
      have hm : (lo + hi) / 2 < xs.size := by omega
      rw [getD_in (e := 0) hm]
      by_cases hc : xs.getD ((lo + hi) / 2) 0 < j
      · rw [if_pos hc]
        refine below_go hr f _ _ (by omega) (by omega) hs (fun i hi' => ?_) h2
        rcases Nat.lt_or_ge i ((lo + hi) / 2) with q | q
        · have := hr i _ q hm
          omega
        · have e : i = (lo + hi) / 2 := by omega
          rw [e]
          exact hc
      · rw [if_neg hc]
        refine below_go hr f _ _ (by omega) (by omega) (by omega) h1 fun i hi' his => ?_
        rcases Nat.lt_or_ge ((lo + hi) / 2) i with q | q
        · have := hr _ i q his
          omega
        · have e : i = (lo + hi) / 2 := by omega
          rw [e]
          omega
    · rw [if_neg h]
      have e : lo = hi := by omega
      subst e
      exact ⟨hs, h1, h2⟩
theorem below_spec {xs : Array Nat} (hr : Rise xs) (j : Nat) : SetTable.below xs j ≤ xs.size ∧ (∀ i, i < SetTable.below xs j → xs.getD i 0 < j) ∧ ∀ i, SetTable.below xs j ≤ i → i < xs.size → j ≤ xs.getD i 0 :=
  below_go hr _ _ _ (by omega) (Nat.zero_le _) (Nat.le_refl _) (fun i h => absurd h (Nat.not_lt_zero _)) fun i h1 h2 => by omega
theorem insertAt_list {α : Type} (xs : Array α) (p : Nat) (x : α) (h : p ≤ xs.size) : (SetTable.insertAt xs p x).toList = xs.toList.take p ++ x :: xs.toList.drop p := by
  unfold SetTable.insertAt
  simp
  exact List.take_of_length_le (by simp)
theorem Rise.pw {xs : Array Nat} (h : Rise xs) : xs.toList.Pairwise (· < ·) := by
  rw [List.pairwise_iff_getElem]
  intro i j hi hj hij
  rw [Array.length_toList] at hi hj
  have := h i j hij hj
  simp only [Array.getD, hi, hj, dif_pos] at this
  simpa using this
theorem Rise.of {xs : Array Nat} (h : xs.toList.Pairwise (· < ·)) : Rise xs := by
  intro i j hij hj
  rw [List.pairwise_iff_getElem] at h
  have := h i j (by rw [Array.length_toList]; omega) (by rw [Array.length_toList]; omega) hij
  simp only [Array.getD, hj, show i < xs.size by omega, dif_pos]
  simpa using this
theorem Rise.insert {xs : Array Nat} (h : Rise xs) {j : Nat} (hn : ¬ xs[SetTable.below xs j]? = some j) : Rise (SetTable.insertAt xs (SetTable.below xs j) j) := by
  obtain ⟨b1, b2, b3⟩ := below_spec h j
  refine Rise.of ?_
  rw [insertAt_list _ _ _ b1]
  have hp := h.pw
  have lt_of : ∀ i, i < xs.size → xs.toList[i]? = some (xs.getD i 0) := fun i hi => by simp [Array.getD, hi]
  refine List.pairwise_append.mpr ⟨hp.sublist (List.take_sublist ..), List.pairwise_cons.mpr ⟨fun y hy => ?_, hp.sublist (List.drop_sublist ..)⟩, fun y hy z hz => ?_⟩
  · obtain ⟨i, hi, rfl⟩ := List.mem_iff_getElem.mp hy
    rw [List.length_drop, Array.length_toList] at hi
    rw [List.getElem_drop]
    have q := b3 (SetTable.below xs j + i) (by omega) (by omega)
    have e : xs.toList[SetTable.below xs j + i]'(by rw [Array.length_toList]; omega) = xs.getD (SetTable.below xs j + i) 0 := by simp [Array.getD, show SetTable.below xs j + i < xs.size by omega]
    rw [e]
    rcases Nat.lt_or_ge j (xs.getD (SetTable.below xs j + i) 0) with r | r
    · exact r
    · exfalso
      have e0 : xs.getD (SetTable.below xs j + i) 0 = j := by omega
      rcases Nat.eq_zero_or_pos i with z | z
      · subst z
        rw [Nat.add_zero] at e0
        refine hn ?_
        have hb : SetTable.below xs j < xs.size := by omega
        have e2 : xs.getD (SetTable.below xs j) 0 = xs[SetTable.below xs j] := by simp [Array.getD, hb]
        rw [Array.getElem?_eq_getElem hb, ← e2, e0]
      · have c1 := h (SetTable.below xs j) (SetTable.below xs j + i) (by omega) (by omega)
        have c2 := b3 (SetTable.below xs j) (Nat.le_refl _) (by omega)
        omega
  · have hy' : y < j := by
      obtain ⟨i, hi, rfl⟩ := List.mem_iff_getElem.mp hy
      rw [List.length_take, Array.length_toList] at hi
      rw [List.getElem_take]
      have q := b2 i (by omega)
      simpa [Array.getD, show i < xs.size by omega] using q
    rcases List.mem_cons.mp hz with rfl | hz
    · exact hy'
    · obtain ⟨i, hi, rfl⟩ := List.mem_iff_getElem.mp hz
      rw [List.length_drop, Array.length_toList] at hi
      rw [List.getElem_drop]
      have q := b3 (SetTable.below xs j + i) (by omega) (by omega)
      have e : xs.toList[SetTable.below xs j + i]'(by rw [Array.length_toList]; omega) = xs.getD (SetTable.below xs j + i) 0 := by simp [Array.getD, show SetTable.below xs j + i < xs.size by omega]
      rw [e]
      omega
theorem Rise.range (n : Nat) : Rise (Array.range n) := Rise.of (by
  rw [Array.toList_range]
  exact List.pairwise_lt_range)
/-- what is known of a table -/
structure TabOk (led : Bool) (t : SetTable) : Prop where
  rise : Rise t.place
  led : t.led = led
end L2

set_option Elab.async false
set_option linter.all false
set_option maxRecDepth 100000
set_option maxHeartbeats 1000000
namespace L2
open PySem PySem.Spec PyProof.Rows TL
/-! ### a set of ints and texts -/
def kOf : Value → Key
  | .int i _ => .inl i
  | .str x _ => .inr x
  | _ => .inl 0
def byTx (w : World) : Bool := w.params.followText "set-order"
def SetX (P : Program) (w : World) (h : Heap) (a : Addr) (ks : List Key) : Prop :=
  ∃ o es ep t, h.get? a = some o ∧ o.ExactSet ∧ o.data = .set es ep t ∧ ElemsOf (mixKind P w) es.toList ∧ ks = es.toList.map (fun e => kOf e.2) ∧ ks.Nodup ∧ es.size < scanBound ∧ t.fits es.size = true ∧ TabOk (!byTx w) t
section
variable {prog : Program} {w : World} {A : Around} {E : Value → Shared → Prop} {s : Shared}
end
end L2

set_option Elab.async false
set_option linter.all false
set_option maxRecDepth 100000
set_option maxHeartbeats 1000000
namespace L2
open PySem PySem.Spec PyProof.Rows TL
/-! ### going through a set -/
section
variable {prog : Program} {w : World} {A : Around} {E : Value → Shared → Prop}
end
end L2

set_option Elab.async false
set_option linter.all false
set_option maxRecDepth 100000
set_option maxHeartbeats 1000000
namespace L2
open PySem PySem.Spec PyProof.Rows TL
def IsSi (h : Heap) (I a : Addr) (first : Value) (i n ep : Nat) : Prop := ∃ o, h.get? I = some o ∧ o.cls = .type "set_iterator" ∧ o.data = .fields #[first, rawInt i, .ref a, rawInt n, rawInt ep]
/-- the set itself -/
structure SetAt (h : Heap) (a : Addr) (es : Array (Int × Value)) (ep : Nat) (t : SetTable) : Prop where
  at' : ∃ o, h.get? a = some o ∧ o.ExactSet ∧ o.data = .set es ep t
  fits : t.fits es.size = true
section
variable {prog : Program} {w : World} {A : Around} {E : Value → Shared → Prop} {s : Shared}
theorem IsSi.ty {I a : Addr} {f : Value} {i n ep : Nat} (x : IsSi s.heap I a f i n ep) : s.TypeIs (.ref I) "set_iterator" := let ⟨o, ho, hc, _⟩ := x; ⟨o, ho, hc⟩
theorem IsSi.at' {h h' : Heap} {I a : Addr} {f : Value} {i n ep : Nat} (x : IsSi h I a f i n ep) (e : ∀ o, h.get? I = some o → h'.get? I = some o) : IsSi h' I a f i n ep := let ⟨o, ho, r⟩ := x; ⟨o, e _ ho, r⟩
theorem SetAt.mv {h h' : Heap} {a : Addr} {es : Array (Int × Value)} {ep : Nat} {t : SetTable} (x : SetAt h a es ep t) (e : ∀ o, h.get? a = some o → h'.get? a = some o) : SetAt h' a es ep t := let ⟨⟨o, ho, r⟩, f⟩ := x; ⟨⟨o, e _ ho, r⟩, f⟩
/-! what the next one is -/
end
end L2

set_option Elab.async false
set_option linter.all false
set_option maxRecDepth 100000
set_option maxHeartbeats 1000000
namespace L2
open PySem PySem.Spec PyProof.Rows TL
section
variable {prog : Program} {w : World} {A : Around}
end
end L2

set_option Elab.async false
set_option linter.all false
set_option maxRecDepth 100000
set_option maxHeartbeats 1000000
namespace L2
open PySem PySem.Spec PyProof.Rows TL
section
variable {prog : Program} {w : World} {A : Around} {E : Value → Shared → Prop} {s : Shared}
/-- what going through a set brings -/
structure Goes (prog : Program) (w : World) (ks : List Key) (I : Addr) (fp : List Addr) (vs : List Value) (St : Nat → Heap → Prop) : Prop where
  walk : ∀ A' : Around, A'.handled = none → Walks prog w A' I fp [I] vs.length (fun i v => vs[i]? = some v) St
  perm : (vs.map kOf).Perm ks
  is : ∀ v ∈ vs, keyIs (kOf v) v = true
end
end L2

set_option Elab.async false
set_option linter.all false
set_option maxRecDepth 100000
set_option maxHeartbeats 1000000
namespace L2
open PySem PySem.Spec PyProof.Rows TL
section
variable {prog : Program} {w : World} {A : Around} {E : Value → Shared → Prop} {s : Shared}
end
end L2

set_option Elab.async false
set_option linter.all false
set_option maxRecDepth 100000
set_option maxHeartbeats 1000000
namespace L2
open PySem PySem.Spec PyProof.Rows TL
/-- a set, tracked -/
def setO (P : Program) (w : World) (a : Addr) (ks : List Key) : HO := .ext fun h => SetX P w h a ks
section
variable {X : Cx} {pins : List (Addr × Obj)} {σ : St} {H : Hp} {s : Shared}
theorem SetX.mv {P : Program} {w : World} {h h' : Heap} {a : Addr} {ks : List Key} (x : SetX P w h a ks) (e : ∀ o, h.get? a = some o → h'.get? a = some o) : SetX P w h' a ks := by
  obtain ⟨o, es, ep, t, ho, r⟩ := x
  exact ⟨o, es, ep, t, e _ ho, r⟩
theorem SetX.okO {P : Program} {w : World} {h : Heap} {a : Addr} {ks : List Key} (x : SetX P w h a ks) : ObjOk P w H h a (setO P w a ks) := by
  refine ⟨x, ?_, fun h1 h2 q e => q.mv e⟩
  obtain ⟨o, es, ep, t, ho, r⟩ := x
  exact ⟨o, ho⟩
end
end L2

set_option Elab.async false
set_option linter.all false
set_option maxRecDepth 100000
set_option maxHeartbeats 1000000
namespace L2
open PySem PySem.Spec PyProof.Rows TL
section
variable {X : Cx}
end
end L2

set_option Elab.async false
set_option linter.all false
set_option maxRecDepth 100000
set_option maxHeartbeats 1000000
namespace L2
open PySem PySem.Spec PyProof.Rows TL
end L2

set_option Elab.async false
set_option linter.all false
set_option maxRecDepth 100000
set_option maxHeartbeats 1000000
namespace L2
open PySem PySem.Spec PyProof.Rows TL
section
variable {prog : Program} {w : World} {A : Around} {E : Value → Shared → Prop} {s : Shared}
end
end L2

set_option Elab.async false
set_option linter.all false
set_option maxRecDepth 100000
set_option maxHeartbeats 1000000
namespace L2
open PySem PySem.Spec PyProof.Rows TL
section
variable {prog : Program} {w : World} {A : Around} {R : Result → Shared → Prop} {I : Addr} {fp wr : List Addr} {G : Array GenState → Array GenState → Prop} {St : Nat → Shared → Prop}
end
end L2

set_option Elab.async false
set_option linter.all false
set_option maxRecDepth 100000
set_option maxHeartbeats 3200000
namespace L2
open PySem PySem.Spec PyProof.Rows TL
section
variable {prog : Program} {w : World} {A : Around} {E : Value → Shared → Prop} {s : Shared}
end
end L2

set_option Elab.async false
set_option linter.all false
set_option maxRecDepth 100000
set_option maxHeartbeats 1000000
namespace L2
open PySem PyProof.Rows
/-- the key of a pair -/
def kf (κ : KeyKind) (p : Keyed) : κ.α := (κ.keyOf p.1).getD κ.dflt
def HasK (κ : KeyKind) (p : Keyed) : Prop := ∃ a, κ.keyOf p.1 = some a
/-- the kind by which is compared -/
class Kd where
  kd : SortKind
/-- what stays: the kind, no failure -/
structure SG [Kd] (st : SortSt) : Prop where
  kind : kindOf st = Kd.kd
  failed : failedOf st = none
section
variable [Kd]
variable {prog : Program} {w : World} {A : Around} {E : Value → Shared → Prop} {s : Shared} {κ : KeyKind}
end
end L2

set_option Elab.async false
set_option linter.all false
set_option maxRecDepth 100000
set_option maxHeartbeats 1000000
namespace L2
open PySem PyProof.Rows
variable [Kd]
section
variable {prog : Program} {w : World} {A : Around} {E : Value → Shared → Prop} {s : Shared} {κ : KeyKind}
end
end L2

set_option Elab.async false
set_option linter.all false
set_option maxRecDepth 100000
set_option maxHeartbeats 1000000
namespace L2
open PySem PyProof.Rows
variable [Kd]
section
variable {κ : KeyKind}
def LE (κ : KeyKind) (x y : Keyed) : Prop := κ.kle (kf κ x) (kf κ y)
def SL (κ : KeyKind) (l : List Keyed) : Prop := l.Pairwise (LE κ)
theorem LE.refl (x : Keyed) : LE κ x x := KeyOrd.kle_refl _
theorem LE.trans {x y z : Keyed} (a : LE κ x y) (b : LE κ y z) : LE κ x z := KeyOrd.kle_trans a b
theorem SL.at {l : List Keyed} (h : SL κ l) {i j : Nat} (hij : i ≤ j) (hj : j < l.length) : LE κ (l[i]'(by omega)) l[j] := by
  rcases Nat.lt_or_ge i j with q | q
  · exact (List.pairwise_iff_getElem.mp h) i j (by omega) hj q
  · have e : i = j := by omega
    subst e
    exact LE.refl _
/-- what a merge has to tell -/
def Merged (κ : KeyKind) (a b : Array Keyed) (r : Array Keyed) : Prop := r.toList.Perm (a.toList ++ b.toList) ∧ SL κ r.toList
structure MI (κ : KeyKind) (a b out : Array Keyed) (ia ib : Nat) : Prop where
  la : ia ≤ a.size
  lb : ib ≤ b.size
  perm : out.toList.Perm (a.toList.take ia ++ b.toList.take ib)
  so : SL κ out.toList
  ra : ∀ x ∈ out.toList, ∀ y ∈ a.toList.drop ia, LE κ x y
  rb : ∀ x ∈ out.toList, ∀ y ∈ b.toList.drop ib, LE κ x y
theorem MI.size {a b out : Array Keyed} {ia ib : Nat} (m : MI κ a b out ia ib) : out.size = ia + ib := by
  have := m.perm.length_eq
  have h1 := m.la
  have h2 := m.lb
  simp only [Array.length_toList, List.length_append, List.length_take] at this
  omega
theorem MI.pushA {a b out : Array Keyed} {ia ib : Nat} (m : MI κ a b out ia ib) (sa : SL κ a.toList) (h : ia < a.size) (hb : ∀ y ∈ b.toList.drop ib, LE κ a[ia] y) : MI κ a b (out.push a[ia]) (ia + 1) ib := by
  have hl : ia < a.toList.length := by simpa using h
  have ed : a.toList.drop ia = a[ia] :: a.toList.drop (ia + 1) := by rw [List.drop_eq_getElem_cons hl]; simp
  have et : a.toList.take (ia + 1) = a.toList.take ia ++ [a[ia]] := by rw [List.take_succ_eq_append_getElem hl]; simp
  refine ⟨h, m.lb, ?_, ?_, ?_, ?_⟩
  · rw [Array.toList_push, et, List.append_assoc]
    exact (m.perm.append_right _).trans (by rw [List.append_assoc]; exact List.Perm.append_left _ List.perm_append_comm)
  · rw [Array.toList_push]
    refine List.pairwise_append.mpr ⟨m.so, List.pairwise_singleton _ _, fun x hx y hy => ?_⟩
    rw [List.mem_singleton.mp hy]
    exact m.ra x hx _ (by rw [ed]; exact List.mem_cons_self ..)
  · intro x hx y hy
    rw [Array.toList_push] at hx
    rcases List.mem_append.mp hx with q | q
    · exact m.ra x q y (by rw [ed]; exact List.mem_cons_of_mem _ hy)
    · rw [List.mem_singleton.mp q]
      have p1 : (a.toList.drop ia).Pairwise (LE κ) := List.Pairwise.sublist (List.drop_sublist _ _) sa
      rw [ed] at p1
      exact List.rel_of_pairwise_cons p1 hy
  · intro x hx y hy
    rw [Array.toList_push] at hx
    rcases List.mem_append.mp hx with q | q
    · exact m.rb x q y hy
    · rw [List.mem_singleton.mp q]
      exact hb y hy
theorem MI.swap {a b out : Array Keyed} {ia ib : Nat} (m : MI κ a b out ia ib) : MI κ b a out ib ia := ⟨m.lb, m.la, m.perm.trans List.perm_append_comm, m.so, m.rb, m.ra⟩
theorem MI.manyA {a b out : Array Keyed} {ia ib : Nat} (m : MI κ a b out ia ib) (sa : SL κ a.toList) : ∀ (k : Nat), ia + k ≤ a.size → (∀ i, i < k → ∀ (q : ia + i < a.size), ∀ y ∈ b.toList.drop ib, LE κ a[ia + i] y) → MI κ a b (out ++ a.extract ia (ia + k)) (ia + k) ib
  | 0, _, _ => by
    have e : out ++ a.extract ia (ia + 0) = out := by simp; omega
    rw [e]
    exact m
  | k + 1, hk, h => by
    have M := MI.manyA m sa k (by omega) (fun i hi => h i (by omega))
    have P := M.pushA sa (by omega) (h k (by omega) (by omega))
    have e : out ++ a.extract ia (ia + (k + 1)) = (out ++ a.extract ia (ia + k)).push a[ia + k] := by
      rw [← Array.append_push]
      congr 1
      rw [Array.push_extract_getElem (by omega)]
      congr 1
      omega
    rw [e]
    exact P
theorem MI.done {a b out : Array Keyed} {ia ib : Nat} (m : MI κ a b out ia ib) (sa : SL κ a.toList) (sb : SL κ b.toList) (h : ∀ x ∈ a.toList.drop ia, ∀ y ∈ b.toList.drop ib, LE κ x y) : Merged κ a b (out ++ a.extract ia a.size ++ b.extract ib b.size) := by
  have e1 : (a.extract ia a.size).toList = a.toList.drop ia := by
    rw [Array.toList_extract, List.extract_eq_take_drop, List.take_of_length_le]
    simp
  have e2 : (b.extract ib b.size).toList = b.toList.drop ib := by
    rw [Array.toList_extract, List.extract_eq_take_drop, List.take_of_length_le]
    simp
  unfold Merged
  rw [Array.toList_append, Array.toList_append, e1, e2]
  constructor
  · refine ((m.perm.append_right _).append_right _).trans ?_
    conv => rhs; rw [← List.take_append_drop ia a.toList, ← List.take_append_drop ib b.toList]
    simp only [List.append_assoc]
    refine List.Perm.append_left _ ?_
    rw [← List.append_assoc, ← List.append_assoc]
    exact List.perm_append_comm.append_right _
  · refine List.pairwise_append.mpr ⟨List.pairwise_append.mpr ⟨m.so, List.Pairwise.sublist (List.drop_sublist _ _) sa, m.ra⟩, List.Pairwise.sublist (List.drop_sublist _ _) sb, fun x hx y hy => ?_⟩
    rcases List.mem_append.mp hx with q | q
    · exact m.rb x q y hy
    · exact h x q y hy
theorem Merged.swap {a b r : Array Keyed} (m : Merged κ a b r) : Merged κ b a r := ⟨m.1.trans List.perm_append_comm, m.2⟩
end
end L2

set_option Elab.async false
set_option linter.all false
set_option maxRecDepth 100000
set_option maxHeartbeats 1000000
namespace L2
open PySem PyProof.Rows
variable [Kd]
end L2

set_option Elab.async false
set_option linter.all false
set_option maxRecDepth 100000
set_option maxHeartbeats 1000000
namespace L2
open PySem PyProof.Rows
variable [Kd]
def AllK (κ : KeyKind) (a : Array Keyed) : Prop := ∀ i, (h : i < a.size) → HasK κ a[i]
/-- what a merge leaves: the same but for its own count -/
structure Keeps (st st' : SortSt) : Prop where
  arr : arrOf st' = arrOf st
  pend : pendingOf st' = pendingOf st
  kind : kindOf st' = kindOf st
  failed : failedOf st' = failedOf st
theorem Keeps.refl (st : SortSt) : Keeps st st := ⟨rfl, rfl, rfl, rfl⟩
theorem Keeps.set {st st' : SortSt} (k : Keeps st st') (g : Nat) : Keeps st (SortSt.mk' (kindOf st') (arrOf st') (pendingOf st') g (failedOf st')) := ⟨k.arr, k.pend, k.kind, k.failed⟩
theorem Keeps.sg {st st' : SortSt} (k : Keeps st st') (g : SG st) : SG st' := ⟨k.kind.trans g.kind, k.failed.trans g.failed⟩
section
variable {prog : Program} {w : World} {A : Around} {E : Value → Shared → Prop} {s : Shared} {κ : KeyKind} {st : SortSt} {a b : Array Keyed}
theorem SL.ix {b : Array Keyed} (h : SL κ b.toList) {i j : Nat} (hij : i ≤ j) (hj : j < b.size) : LE κ (b[i]'(by omega)) b[j] := by
  have := SL.at h hij (by simpa using hj)
  simpa using this
/-- a merge under way -/
structure Lo (κ : KeyKind) (a b : Array Keyed) (n : Nat) (out : Array Keyed) (ia ib : Nat) : Prop where
  mi : MI κ a b out ia ib
  ha : ia + 1 < a.size
  hb : ib < b.size
  hn : n ≤ ia + ib
/-- both rows of a merge -/
structure Two (κ : KeyKind) (a b : Array Keyed) : Prop where
  ka : AllK κ a
  kb : AllK κ b
  sa : SL κ a.toList
  sb : SL κ b.toList
  na : 0 < a.size
  nb : 0 < b.size
  first : LE κ b[0] a[0]
  lst : ∀ j, (h : j < b.size) → LE κ b[j] a[a.size - 1]
theorem Lo.mono {n m : Nat} {out : Array Keyed} {ia ib : Nat} (L : Lo κ a b n out ia ib) (h : m ≤ n) : Lo κ a b m out ia ib := ⟨L.mi, L.ha, L.hb, Nat.le_trans h L.hn⟩
end
end L2

set_option Elab.async false
set_option linter.all false
set_option maxRecDepth 100000
set_option maxHeartbeats 1000000
namespace L2
open PySem PyProof.Rows
variable [Kd]
def hiDone (a b out : Array Keyed) (na nb : Nat) : Array Keyed := a.extract 0 na ++ b.extract 0 nb ++ out.reverse
def hiFirst (a b out : Array Keyed) (na nb : Nat) : Array Keyed := b.extract 0 nb ++ a.extract 0 na ++ out.reverse
section
variable {κ : KeyKind}
structure MH (κ : KeyKind) (a b out : Array Keyed) (na nb : Nat) : Prop where
  la : na ≤ a.size
  lb : nb ≤ b.size
  perm : out.toList.Perm (a.toList.drop na ++ b.toList.drop nb)
  so : SL κ out.toList.reverse
  ra : ∀ x ∈ a.toList.take na, ∀ y ∈ out.toList, LE κ x y
  rb : ∀ x ∈ b.toList.take nb, ∀ y ∈ out.toList, LE κ x y
theorem MH.swap {a b out : Array Keyed} {na nb : Nat} (m : MH κ a b out na nb) : MH κ b a out nb na := ⟨m.lb, m.la, m.perm.trans List.perm_append_comm, m.so, m.rb, m.ra⟩
theorem MH.pushA {a b out : Array Keyed} {na nb : Nat} (m : MH κ a b out (na + 1) nb) (sa : SL κ a.toList) (h : na < a.size) (hb : ∀ y ∈ b.toList.take nb, LE κ y a[na]) : MH κ a b (out.push a[na]) na nb := by
  have hl : na < a.toList.length := by simpa using h
  have ed : a.toList.drop na = a[na] :: a.toList.drop (na + 1) := by rw [List.drop_eq_getElem_cons hl]; simp
  have et : a.toList.take (na + 1) = a.toList.take na ++ [a[na]] := by rw [List.take_succ_eq_append_getElem hl]; simp
  refine ⟨Nat.le_of_lt h, m.lb, ?_, ?_, ?_, ?_⟩
  · rw [Array.toList_push, ed]
    exact List.perm_append_comm.trans (m.perm.cons _)
  · rw [Array.toList_push, List.reverse_append]
    refine List.pairwise_append.mpr ⟨List.pairwise_singleton _ _, m.so, fun x hx y hy => ?_⟩
    have hx' : x = a[na] := by simpa using hx
    rw [hx']
    exact m.ra _ (by rw [et]; exact List.mem_append_right _ (List.mem_singleton_self _)) y (List.mem_reverse.mp hy)
  · intro x hx y hy
    rw [Array.toList_push] at hy
    rcases List.mem_append.mp hy with q | q
    · exact m.ra x (by rw [et]; exact List.mem_append_left _ hx) y q
    · rw [List.mem_singleton.mp q]
      have p1 : (a.toList.take (na + 1)).Pairwise (LE κ) := List.Pairwise.sublist (List.take_sublist _ _) sa
      rw [et] at p1
      exact (List.pairwise_append.mp p1).2.2 x hx _ (List.mem_singleton_self _)
  · intro x hx y hy
    rw [Array.toList_push] at hy
    rcases List.mem_append.mp hy with q | q
    · exact m.rb x hx y q
    · rw [List.mem_singleton.mp q]
      exact hb x hx
theorem MH.manyA {a b out : Array Keyed} {nb : Nat} (sa : SL κ a.toList) : ∀ (d na : Nat), d ≤ na → MH κ a b out na nb → (∀ i, na - d ≤ i → i < na → ∀ (q : i < a.size), ∀ y ∈ b.toList.take nb, LE κ y a[i]) → MH κ a b (out ++ (a.extract (na - d) na).reverse) (na - d) nb
  | 0, na, _, m, _ => by
    have e : out ++ (a.extract (na - 0) na).reverse = out := by simp; omega
    rw [e]
    exact m
  | d + 1, na, hd, m, h => by
    have h0 := m.la
    have M := MH.manyA sa d na (by omega) m (fun i h1 h2 => h i (by omega) h2)
    have P := MH.pushA (na := na - (d + 1)) (by rw [show na - (d + 1) + 1 = na - d by omega]; exact M) sa (by omega) (h (na - (d + 1)) (by omega) (by omega) (by omega))
    have e : out ++ (a.extract (na - (d + 1)) na).reverse = (out ++ (a.extract (na - d) na).reverse).push a[na - (d + 1)] := by
      rw [← Array.append_push]
      congr 1
      apply Array.ext'
      rw [Array.toList_push, Array.toList_reverse, Array.toList_reverse, Array.toList_extract, Array.toList_extract, List.extract_eq_take_drop, List.extract_eq_take_drop]
      have hl : na - (d + 1) < a.toList.length := by simp; omega
      rw [List.drop_eq_getElem_cons hl, show na - (na - (d + 1)) = (na - (na - d)) + 1 by omega, List.take_succ_cons, List.reverse_cons, show na - (d + 1) + 1 = na - d by omega]
      simp
    rw [e]
    exact P
theorem MH.many {a b out : Array Keyed} {na nb k : Nat} (sa : SL κ a.toList) (m : MH κ a b out na nb) (hk : k ≤ na) (h : ∀ i, k ≤ i → i < na → ∀ (q : i < a.size), ∀ y ∈ b.toList.take nb, LE κ y a[i]) : MH κ a b (out ++ (a.extract k na).reverse) k nb := by
  have := MH.manyA sa (na - k) na (by omega) m (fun i h1 h2 => h i (by omega) h2)
  rwa [show na - (na - k) = k by omega] at this
theorem MH.done {a b out : Array Keyed} {na nb : Nat} (m : MH κ a b out na nb) (sa : SL κ a.toList) (sb : SL κ b.toList) (h : ∀ x ∈ a.toList.take na, ∀ y ∈ b.toList.take nb, LE κ x y) : Merged κ a b (hiDone a b out na nb) := by
  have e1 : (a.extract 0 na).toList = a.toList.take na := by
    rw [Array.toList_extract, List.extract_eq_take_drop, List.drop_zero, Nat.sub_zero]
  have e2 : (b.extract 0 nb).toList = b.toList.take nb := by
    rw [Array.toList_extract, List.extract_eq_take_drop, List.drop_zero, Nat.sub_zero]
  unfold Merged hiDone
  rw [Array.toList_append, Array.toList_append, e1, e2, Array.toList_reverse]
  constructor
  · refine (List.Perm.append_left _ ((List.reverse_perm _).trans m.perm)).trans ?_
    conv => rhs; rw [← List.take_append_drop na a.toList, ← List.take_append_drop nb b.toList]
    simp only [List.append_assoc]
    refine List.Perm.append_left _ ?_
    rw [← List.append_assoc, ← List.append_assoc]
    exact List.perm_append_comm.append_right _
  · refine List.pairwise_append.mpr ⟨List.pairwise_append.mpr ⟨List.Pairwise.sublist (List.take_sublist _ _) sa, List.Pairwise.sublist (List.take_sublist _ _) sb, h⟩, m.so, fun x hx y hy => ?_⟩
    rcases List.mem_append.mp hx with q | q
    · exact m.ra x q y (List.mem_reverse.mp hy)
    · exact m.rb x q y (List.mem_reverse.mp hy)
theorem MH.first {a b out : Array Keyed} {na nb : Nat} (m : MH κ a b out na nb) (sa : SL κ a.toList) (sb : SL κ b.toList) (h : ∀ y ∈ b.toList.take nb, ∀ x ∈ a.toList.take na, LE κ y x) : Merged κ a b (hiFirst a b out na nb) :=
  (m.swap.done sb sa h).swap
end
end L2

set_option Elab.async false
set_option linter.all false
set_option maxRecDepth 100000
set_option maxHeartbeats 1000000
namespace L2
open PySem PyProof.Rows
variable [Kd]
section
variable {prog : Program} {w : World} {A : Around} {E : Value → Shared → Prop} {s : Shared} {κ : KeyKind} {st : SortSt} {a b : Array Keyed}
structure Hi (κ : KeyKind) (a b : Array Keyed) (n : Nat) (out : Array Keyed) (na nb : Nat) : Prop where
  mh : MH κ a b out na nb
  ha : 0 < na
  hb : 1 < nb
  hn : na + nb + n ≤ a.size + b.size
theorem Hi.mono {n m : Nat} {out : Array Keyed} {na nb : Nat} (L : Hi κ a b n out na nb) (h : m ≤ n) : Hi κ a b m out na nb := ⟨L.mh, L.ha, L.hb, by have := L.hn; omega⟩
end
end L2

set_option Elab.async false
set_option linter.all false
set_option maxRecDepth 100000
set_option maxHeartbeats 1000000
namespace L2
open PySem PyProof.Rows
variable [Kd]
end L2

set_option Elab.async false
set_option linter.all false
set_option maxRecDepth 100000
set_option maxHeartbeats 1000000
namespace L2
open PySem PyProof.Rows
variable [Kd]
/-- sorting from lo on: what lies ahead of lo stays -/
structure SF (a0 : Array Keyed) (lo : Nat) (x0 : Array Keyed) (pd : Array (Nat × Nat × Nat)) (st : SortSt) : Prop where
  perm : (arrOf st).Perm a0
  low : ∀ k, k < lo → (arrOf st)[k]? = x0[k]?
  sg : SG st
  pend : pendingOf st = pd
section
variable {prog : Program} {w : World} {A : Around} {E : Value → Shared → Prop} {s : Shared} {κ : KeyKind} {a0 x0 : Array Keyed} {lo : Nat} {pd : Array (Nat × Nat × Nat)} {st : SortSt}
theorem SF.size (F : SF a0 lo x0 pd st) : (arrOf st).size = a0.size := F.perm.size_eq
theorem SF.all (F : SF a0 lo x0 pd st) (h0 : KeysOf κ a0) : AllK κ (arrOf st) := fun i h => h0 _ ((Array.perm_iff_toList_perm.mp F.perm).mem_iff.mp (by simp))
/-- sorted from lo on, n signs -/
def SoA (κ : KeyKind) (xs : Array Keyed) (lo n : Nat) : Prop := ∀ i j, i ≤ j → j < n → κ.kle (KK κ xs (lo + i)) (KK κ xs (lo + j))
def SoD (κ : KeyKind) (xs : Array Keyed) (lo n : Nat) : Prop := ∀ i j, i ≤ j → j < n → κ.kle (KK κ xs (lo + j)) (KK κ xs (lo + i))
end
end L2

set_option Elab.async false
set_option linter.all false
set_option maxRecDepth 100000
set_option maxHeartbeats 1000000
namespace L2
open PySem PyProof.Rows
variable [Kd]
section
variable {prog : Program} {w : World} {A : Around} {E : Value → Shared → Prop} {s : Shared} {κ : KeyKind} {a0 x0 : Array Keyed} {lo : Nat} {pd : Array (Nat × Nat × Nat)} {st : SortSt}
end
end L2

set_option Elab.async false
set_option linter.all false
set_option maxRecDepth 100000
set_option maxHeartbeats 1000000
namespace L2
open PySem PyProof.Rows
variable [Kd]
/-- rows of the pending ones, one behind the other -/
def Chn : Nat → List (Nat × Nat × Nat) → Nat → Prop
  | a, [], b => a = b
  | a, t :: ps, b => t.1 = a ∧ 1 ≤ t.2.1 ∧ Chn (a + t.2.1) ps b
theorem Chn.le : ∀ {ps : List (Nat × Nat × Nat)} {a b : Nat}, Chn a ps b → a ≤ b
  | [], _, _, h => Nat.le_of_eq h
  | t :: ps, a, b, h => by have := Chn.le h.2.2; omega
theorem Chn.mem : ∀ {ps : List (Nat × Nat × Nat)} {a b : Nat}, Chn a ps b → ∀ t ∈ ps, a ≤ t.1 ∧ t.1 + t.2.1 ≤ b
  | [], _, _, _, t, ht => nomatch ht
  | u :: ps, a, b, h, t, ht => by
    obtain ⟨h1, h2, h3⟩ := h
    have l := h3.le
    rcases List.mem_cons.mp ht with rfl | q
    · omega
    · have := Chn.mem h3 t q
      omega
theorem Chn.app : ∀ {ps qs : List (Nat × Nat × Nat)} {a b : Nat}, Chn a (ps ++ qs) b ↔ ∃ m, Chn a ps m ∧ Chn m qs b
  | [], qs, a, b => ⟨fun h => ⟨a, rfl, h⟩, fun ⟨m, h1, h2⟩ => by cases h1; exact h2⟩
  | t :: ps, qs, a, b => by
    constructor
    · rintro ⟨h1, h2, h3⟩
      obtain ⟨m, h4, h5⟩ := Chn.app.mp h3
      exact ⟨m, ⟨h1, h2, h4⟩, h5⟩
    · rintro ⟨m, ⟨h1, h2, h4⟩, h5⟩
      exact ⟨h1, h2, Chn.app.mpr ⟨m, h4, h5⟩⟩
theorem Chn.len : ∀ {ps : List (Nat × Nat × Nat)} {a b : Nat}, Chn a ps b → a + ps.length ≤ b
  | [], _, _, h => Nat.le_of_eq h
  | t :: ps, a, b, h => by
    have := Chn.len h.2.2
    have := h.2.1
    rw [List.length_cons]
    omega
/-- sorted from lo to hi -/
def RS (κ : KeyKind) (xs : Array Keyed) (lo hi : Nat) : Prop := ∀ i j, lo ≤ i → i ≤ j → j < hi → κ.kle (KK κ xs i) (KK κ xs j)
theorem RS.congr {κ : KeyKind} {xs ys : Array Keyed} {lo hi : Nat} (h : RS κ xs lo hi) (e : ∀ k, lo ≤ k → k < hi → ys[k]? = xs[k]?) : RS κ ys lo hi := fun i j a b c => by
  rw [KK_congr (e i a (by omega)), KK_congr (e j (by omega) c)]
  exact h i j a b c
end L2

set_option Elab.async false
set_option linter.all false
set_option maxRecDepth 100000
set_option maxHeartbeats 1000000
namespace L2
open PySem PyProof.Rows
variable [Kd]
section
variable {prog : Program} {w : World} {A : Around} {E : Value → Shared → Prop} {s : Shared} {κ : KeyKind} {st : SortSt}
/-- what a merge of two rows leaves -/
structure MAt (κ : KeyKind) (st st' : SortSt) (sa se : Nat) : Prop where
  perm : (arrOf st').Perm (arrOf st)
  out : ∀ k, k < sa ∨ se ≤ k → (arrOf st')[k]? = (arrOf st)[k]?
  so : RS κ (arrOf st') sa se
  sg : SG st'
end
end L2

set_option Elab.async false
set_option linter.all false
set_option maxRecDepth 100000
set_option maxHeartbeats 1000000
namespace L2
open PySem PyProof.Rows
variable [Kd]
end L2

set_option Elab.async false
set_option linter.all false
set_option maxRecDepth 100000
set_option maxHeartbeats 1000000
namespace L2
open PySem PyProof.Rows
variable [Kd]
theorem Chn.congr : ∀ {ps qs : List (Nat × Nat × Nat)} {a b : Nat}, ps.map (fun t => (t.1, t.2.1)) = qs.map (fun t => (t.1, t.2.1)) → Chn a ps b → Chn a qs b
  | [], [], _, _, _, h => h
  | [], q :: qs, _, _, e, _ => by simp at e
  | p :: ps, [], _, _, e, _ => by simp at e
  | p :: ps, q :: qs, a, b, e, h => by
    rw [List.map_cons, List.map_cons] at e
    injection e with e1 e2
    injection e1 with e3 e4
    obtain ⟨h1, h2, h3⟩ := h
    exact ⟨e3.symm.trans h1, by omega, by rw [← e4]; exact Chn.congr e2 h3⟩
/-- the state between two runs -/
structure RI (κ : KeyKind) (a0 : Array Keyed) (lo : Nat) (st : SortSt) : Prop where
  perm : (arrOf st).Perm a0
  sg : SG st
  chn : Chn 0 (pendingOf st).toList lo
  so : ∀ t ∈ (pendingOf st).toList, RS κ (arrOf st) t.1 (t.1 + t.2.1)
section
variable {prog : Program} {w : World} {A : Around} {E : Value → Shared → Prop} {s : Shared} {κ : KeyKind} {a0 : Array Keyed} {st : SortSt} {lo : Nat}
/-- a run found behind the pending ones -/
structure RF (κ : KeyKind) (a0 : Array Keyed) (lo n : Nat) (st : SortSt) : Prop where
  ri : RI κ a0 lo st
  run : RS κ (arrOf st) lo (lo + n)
theorem RF.congr {n : Nat} {st' : SortSt} (R : RF κ a0 lo n st) (R' : RI κ a0 lo st') (e : ∀ k, lo ≤ k → (arrOf st')[k]? = (arrOf st)[k]?) : RF κ a0 lo n st' := ⟨R', R.run.congr fun k k1 _ => e k k1⟩
theorem RI.sf (R : RI κ a0 lo st) : SF a0 lo (arrOf st) (pendingOf st) st := ⟨R.perm, fun _ _ => rfl, R.sg, rfl⟩
theorem RF.of (R : RI κ a0 lo st) {st' : SortSt} {n : Nat} (F : SF a0 lo (arrOf st) (pendingOf st) st') (so : SoA κ (arrOf st') lo n) : RF κ a0 lo n st' := by
  refine ⟨⟨F.perm, F.sg, by rw [F.pend]; exact R.chn, fun t ht => ?_⟩, fun i j a b c => ?_⟩
  · rw [F.pend] at ht
    have := R.chn.mem t ht
    exact (R.so t ht).congr fun k _ k2 => F.low k (by omega)
  · have := so (i - lo) (j - lo) (by omega) (by omega)
    rwa [show lo + (i - lo) = i by omega, show lo + (j - lo) = j by omega] at this
end
omit [Kd]
end L2

set_option Elab.async false
set_option linter.all false
set_option maxRecDepth 100000
set_option maxHeartbeats 1000000
namespace L2S
open PySem PyProof.Rows L2
/-- a stable sort: what is ordered is an item's key with its place at the start -/
class St where
  kd : SortKind
  b : KeyKind
  pos : Keyed → Nat
instance [St] : L2.Kd := ⟨St.kd⟩
/-- pairs of a key and a place, by the key and then by the place -/
def lexOrd (b : KeyOrd) : KeyOrd where
  α := b.α × Nat
  blt x y := b.blt x.1 y.1 || (!b.blt y.1 x.1 && decide (x.2 < y.2))
  irrefl a := by simp [b.irrefl]
  trans x y z h1 h2 := by
    simp only [Bool.or_eq_true, Bool.and_eq_true, Bool.not_eq_true', decide_eq_true_eq] at h1 h2 ⊢
    rcases h1 with h1 | ⟨h1, p1⟩
    · rcases h2 with h2 | ⟨h2, p2⟩
      · exact .inl (b.trans _ _ _ h1 h2)
      · rcases b.negTrans _ z.1 _ h1 with h3 | h3
        · exact .inl h3
        · rw [h2] at h3; cases h3
    · rcases h2 with h2 | ⟨h2, p2⟩
      · rcases b.negTrans _ x.1 _ h2 with h3 | h3
        · rw [h1] at h3; cases h3
        · exact .inl h3
      · refine .inr ⟨?_, by omega⟩
        cases h3 : b.blt z.1 x.1 with
        | false => rfl
        | true =>
          rcases b.negTrans _ y.1 _ h3 with h4 | h4
          · rw [h2] at h4; cases h4
          · rw [h1] at h4; cases h4
  negTrans x y z h := by
    simp only [Bool.or_eq_true, Bool.and_eq_true, Bool.not_eq_true', decide_eq_true_eq] at h ⊢
    cases h1 : b.blt x.1 y.1 with
    | true => exact .inl (.inl rfl)
    | false =>
      cases h2 : b.blt y.1 z.1 with
      | true => exact .inr (.inl rfl)
      | false =>
        rcases h with h | ⟨h, p⟩
        · rcases b.negTrans _ y.1 _ h with h3 | h3
          · rw [h1] at h3; cases h3
          · rw [h2] at h3; cases h3
        · cases h3 : b.blt y.1 x.1 with
          | true =>
            rcases b.negTrans _ z.1 _ h3 with h4 | h4
            · rw [h2] at h4; cases h4
            · rw [h] at h4; cases h4
          | false =>
            cases h4 : b.blt z.1 y.1 with
            | true =>
              rcases b.negTrans _ x.1 _ h4 with h5 | h5
              · rw [h] at h5; cases h5
              · rw [h1] at h5; cases h5
            | false =>
              rcases Nat.lt_or_ge x.2 y.2 with q | q
              · exact .inl (.inr ⟨rfl, q⟩)
              · exact .inr (.inr ⟨rfl, by omega⟩)
  total x y h1 h2 := by
    simp only [Bool.or_eq_false_iff, Bool.and_eq_false_iff, Bool.not_eq_false', decide_eq_false_iff_not] at h1 h2
    have e := b.total _ _ h1.1 h2.1
    have p1 : ¬ x.2 < y.2 := h1.2.resolve_left (by rw [h2.1]; decide)
    have p2 : ¬ y.2 < x.2 := h2.2.resolve_left (by rw [h1.1]; decide)
    exact Prod.ext e (by omega)
abbrev κ [St] : KeyOrd := lexOrd St.b.toKeyOrd
variable [St]
/-- the key alone -/
def bk (p : Keyed) : St.b.α := (St.b.keyOf p.1).getD St.b.dflt
def kf (p : Keyed) : κ.α := (bk p, St.pos p)
def HasK (p : Keyed) : Prop := ∃ a, St.b.keyOf p.1 = some a
def St.aft (x y : Keyed) : Prop := St.pos y < St.pos x
section
variable {prog : Program} {w : World} {A : Around} {E : Value → Shared → Prop} {s : Shared}
end
end L2S

set_option Elab.async false
set_option linter.all false
set_option maxRecDepth 100000
set_option maxHeartbeats 1000000
namespace L2S
open PySem PyProof.Rows L2
variable [St]
section
variable {prog : Program} {w : World} {A : Around} {E : Value → Shared → Prop} {s : Shared}
end
end L2S

set_option Elab.async false
set_option linter.all false
set_option maxRecDepth 100000
set_option maxHeartbeats 1000000
namespace L2S
open PySem PyProof.Rows L2
variable [St]
section
def LE (x y : Keyed) : Prop := κ.kle (kf x) (kf y)
def SL (l : List Keyed) : Prop := l.Pairwise (LE)
theorem LE.refl (x : Keyed) : LE x x := KeyOrd.kle_refl _
theorem LE.trans {x y z : Keyed} (a : LE x y) (b : LE y z) : LE x z := KeyOrd.kle_trans a b
theorem SL.at {l : List Keyed} (h : SL l) {i j : Nat} (hij : i ≤ j) (hj : j < l.length) : LE (l[i]'(by omega)) l[j] := by
  rcases Nat.lt_or_ge i j with q | q
  · exact (List.pairwise_iff_getElem.mp h) i j (by omega) hj q
  · have e : i = j := by omega
    subst e
    exact LE.refl _
/-- what a merge has to tell -/
def Merged (a b : Array Keyed) (r : Array Keyed) : Prop := r.toList.Perm (a.toList ++ b.toList) ∧ SL r.toList
structure MI (a b out : Array Keyed) (ia ib : Nat) : Prop where
  la : ia ≤ a.size
  lb : ib ≤ b.size
  perm : out.toList.Perm (a.toList.take ia ++ b.toList.take ib)
  so : SL out.toList
  ra : ∀ x ∈ out.toList, ∀ y ∈ a.toList.drop ia, LE x y
  rb : ∀ x ∈ out.toList, ∀ y ∈ b.toList.drop ib, LE x y
theorem MI.size {a b out : Array Keyed} {ia ib : Nat} (m : MI a b out ia ib) : out.size = ia + ib := by
  have := m.perm.length_eq
  have h1 := m.la
  have h2 := m.lb
  simp only [Array.length_toList, List.length_append, List.length_take] at this
  omega
theorem MI.pushA {a b out : Array Keyed} {ia ib : Nat} (m : MI a b out ia ib) (sa : SL a.toList) (h : ia < a.size) (hb : ∀ y ∈ b.toList.drop ib, LE a[ia] y) : MI a b (out.push a[ia]) (ia + 1) ib := by
  have hl : ia < a.toList.length := by simpa using h
  have ed : a.toList.drop ia = a[ia] :: a.toList.drop (ia + 1) := by rw [List.drop_eq_getElem_cons hl]; simp
  have et : a.toList.take (ia + 1) = a.toList.take ia ++ [a[ia]] := by rw [List.take_succ_eq_append_getElem hl]; simp
  refine ⟨h, m.lb, ?_, ?_, ?_, ?_⟩
  · rw [Array.toList_push, et, List.append_assoc]
    exact (m.perm.append_right _).trans (by rw [List.append_assoc]; exact List.Perm.append_left _ List.perm_append_comm)
  · rw [Array.toList_push]
    refine List.pairwise_append.mpr ⟨m.so, List.pairwise_singleton _ _, fun x hx y hy => ?_⟩
    rw [List.mem_singleton.mp hy]
    exact m.ra x hx _ (by rw [ed]; exact List.mem_cons_self ..)
  · intro x hx y hy
    rw [Array.toList_push] at hx
    rcases List.mem_append.mp hx with q | q
    · exact m.ra x q y (by rw [ed]; exact List.mem_cons_of_mem _ hy)
    · rw [List.mem_singleton.mp q]
      have p1 : (a.toList.drop ia).Pairwise (LE) := List.Pairwise.sublist (List.drop_sublist _ _) sa
      rw [ed] at p1
      exact List.rel_of_pairwise_cons p1 hy
  · intro x hx y hy
    rw [Array.toList_push] at hx
    rcases List.mem_append.mp hx with q | q
    · exact m.rb x q y hy
    · rw [List.mem_singleton.mp q]
      exact hb y hy
theorem MI.swap {a b out : Array Keyed} {ia ib : Nat} (m : MI a b out ia ib) : MI b a out ib ia := ⟨m.lb, m.la, m.perm.trans List.perm_append_comm, m.so, m.rb, m.ra⟩
theorem MI.manyA {a b out : Array Keyed} {ia ib : Nat} (m : MI a b out ia ib) (sa : SL a.toList) : ∀ (k : Nat), ia + k ≤ a.size → (∀ i, i < k → ∀ (q : ia + i < a.size), ∀ y ∈ b.toList.drop ib, LE a[ia + i] y) → MI a b (out ++ a.extract ia (ia + k)) (ia + k) ib
  | 0, _, _ => by
    have e : out ++ a.extract ia (ia + 0) = out := by simp; omega
    rw [e]
    exact m
  | k + 1, hk, h => by
    have M := MI.manyA m sa k (by omega) (fun i hi => h i (by omega))
    have P := M.pushA sa (by omega) (h k (by omega) (by omega))
    have e : out ++ a.extract ia (ia + (k + 1)) = (out ++ a.extract ia (ia + k)).push a[ia + k] := by
      rw [← Array.append_push]
      congr 1
      rw [Array.push_extract_getElem (by omega)]
      congr 1
      omega
    rw [e]
    exact P
theorem MI.done {a b out : Array Keyed} {ia ib : Nat} (m : MI a b out ia ib) (sa : SL a.toList) (sb : SL b.toList) (h : ∀ x ∈ a.toList.drop ia, ∀ y ∈ b.toList.drop ib, LE x y) : Merged a b (out ++ a.extract ia a.size ++ b.extract ib b.size) := by
  have e1 : (a.extract ia a.size).toList = a.toList.drop ia := by
    rw [Array.toList_extract, List.extract_eq_take_drop, List.take_of_length_le]
    simp
  have e2 : (b.extract ib b.size).toList = b.toList.drop ib := by
    rw [Array.toList_extract, List.extract_eq_take_drop, List.take_of_length_le]
    simp
  unfold Merged
  rw [Array.toList_append, Array.toList_append, e1, e2]
  constructor
  · refine ((m.perm.append_right _).append_right _).trans ?_
    conv => rhs; rw [← List.take_append_drop ia a.toList, ← List.take_append_drop ib b.toList]
    simp only [List.append_assoc]
    refine List.Perm.append_left _ ?_
    rw [← List.append_assoc, ← List.append_assoc]
    exact List.perm_append_comm.append_right _
  · refine List.pairwise_append.mpr ⟨List.pairwise_append.mpr ⟨m.so, List.Pairwise.sublist (List.drop_sublist _ _) sa, m.ra⟩, List.Pairwise.sublist (List.drop_sublist _ _) sb, fun x hx y hy => ?_⟩
    rcases List.mem_append.mp hx with q | q
    · exact m.rb x q y hy
    · exact h x q y hy
theorem Merged.swap {a b r : Array Keyed} (m : Merged a b r) : Merged b a r := ⟨m.1.trans List.perm_append_comm, m.2⟩
end
end L2S

set_option Elab.async false
set_option linter.all false
set_option maxRecDepth 100000
set_option maxHeartbeats 1000000
namespace L2S
open PySem PyProof.Rows L2
variable [St]
def AllK (a : Array Keyed) : Prop := ∀ i, (h : i < a.size) → HasK a[i]
section
variable {prog : Program} {w : World} {A : Around} {E : Value → Shared → Prop} {s : Shared} {st : SortSt} {a b : Array Keyed}
theorem SL.ix {b : Array Keyed} (h : SL b.toList) {i j : Nat} (hij : i ≤ j) (hj : j < b.size) : LE (b[i]'(by omega)) b[j] := by
  have := SL.at h hij (by simpa using hj)
  simpa using this
/-- a merge under way -/
structure Lo (a b : Array Keyed) (n : Nat) (out : Array Keyed) (ia ib : Nat) : Prop where
  mi : MI a b out ia ib
  ha : ia + 1 < a.size
  hb : ib < b.size
  hn : n ≤ ia + ib
/-- both rows of a merge -/
structure Two (a b : Array Keyed) : Prop where
  ka : AllK a
  kb : AllK b
  sa : SL a.toList
  sb : SL b.toList
  na : 0 < a.size
  nb : 0 < b.size
  first : LE b[0] a[0]
  lst : ∀ j, (h : j < b.size) → LE b[j] a[a.size - 1]
  af : ∀ i j, (hi : i < a.size) → (hj : j < b.size) → St.aft b[j] a[i]
theorem Lo.mono {n m : Nat} {out : Array Keyed} {ia ib : Nat} (L : Lo a b n out ia ib) (h : m ≤ n) : Lo a b m out ia ib := ⟨L.mi, L.ha, L.hb, Nat.le_trans h L.hn⟩
end
end L2S

set_option Elab.async false
set_option linter.all false
set_option maxRecDepth 100000
set_option maxHeartbeats 1000000
namespace L2S
open PySem PyProof.Rows L2
variable [St]
section
structure MH (a b out : Array Keyed) (na nb : Nat) : Prop where
  la : na ≤ a.size
  lb : nb ≤ b.size
  perm : out.toList.Perm (a.toList.drop na ++ b.toList.drop nb)
  so : SL out.toList.reverse
  ra : ∀ x ∈ a.toList.take na, ∀ y ∈ out.toList, LE x y
  rb : ∀ x ∈ b.toList.take nb, ∀ y ∈ out.toList, LE x y
theorem MH.swap {a b out : Array Keyed} {na nb : Nat} (m : MH a b out na nb) : MH b a out nb na := ⟨m.lb, m.la, m.perm.trans List.perm_append_comm, m.so, m.rb, m.ra⟩
theorem MH.pushA {a b out : Array Keyed} {na nb : Nat} (m : MH a b out (na + 1) nb) (sa : SL a.toList) (h : na < a.size) (hb : ∀ y ∈ b.toList.take nb, LE y a[na]) : MH a b (out.push a[na]) na nb := by
  have hl : na < a.toList.length := by simpa using h
  have ed : a.toList.drop na = a[na] :: a.toList.drop (na + 1) := by rw [List.drop_eq_getElem_cons hl]; simp
  have et : a.toList.take (na + 1) = a.toList.take na ++ [a[na]] := by rw [List.take_succ_eq_append_getElem hl]; simp
  refine ⟨Nat.le_of_lt h, m.lb, ?_, ?_, ?_, ?_⟩
  · rw [Array.toList_push, ed]
    exact List.perm_append_comm.trans (m.perm.cons _)
  · rw [Array.toList_push, List.reverse_append]
    refine List.pairwise_append.mpr ⟨List.pairwise_singleton _ _, m.so, fun x hx y hy => ?_⟩
    have hx' : x = a[na] := by simpa using hx
    rw [hx']
    exact m.ra _ (by rw [et]; exact List.mem_append_right _ (List.mem_singleton_self _)) y (List.mem_reverse.mp hy)
  · intro x hx y hy
    rw [Array.toList_push] at hy
    rcases List.mem_append.mp hy with q | q
    · exact m.ra x (by rw [et]; exact List.mem_append_left _ hx) y q
    · rw [List.mem_singleton.mp q]
      have p1 : (a.toList.take (na + 1)).Pairwise (LE) := List.Pairwise.sublist (List.take_sublist _ _) sa
      rw [et] at p1
      exact (List.pairwise_append.mp p1).2.2 x hx _ (List.mem_singleton_self _)
  · intro x hx y hy
    rw [Array.toList_push] at hy
    rcases List.mem_append.mp hy with q | q
    · exact m.rb x hx y q
    · rw [List.mem_singleton.mp q]
      exact hb x hx
theorem MH.manyA {a b out : Array Keyed} {nb : Nat} (sa : SL a.toList) : ∀ (d na : Nat), d ≤ na → MH a b out na nb → (∀ i, na - d ≤ i → i < na → ∀ (q : i < a.size), ∀ y ∈ b.toList.take nb, LE y a[i]) → MH a b (out ++ (a.extract (na - d) na).reverse) (na - d) nb
  | 0, na, _, m, _ => by
    have e : out ++ (a.extract (na - 0) na).reverse = out := by simp; omega
    rw [e]
    exact m
  | d + 1, na, hd, m, h => by
    have h0 := m.la
    have M := MH.manyA sa d na (by omega) m (fun i h1 h2 => h i (by omega) h2)
    have P := MH.pushA (na := na - (d + 1)) (by rw [show na - (d + 1) + 1 = na - d by omega]; exact M) sa (by omega) (h (na - (d + 1)) (by omega) (by omega) (by omega))
    have e : out ++ (a.extract (na - (d + 1)) na).reverse = (out ++ (a.extract (na - d) na).reverse).push a[na - (d + 1)] := by
      rw [← Array.append_push]
      congr 1
      apply Array.ext'
      rw [Array.toList_push, Array.toList_reverse, Array.toList_reverse, Array.toList_extract, Array.toList_extract, List.extract_eq_take_drop, List.extract_eq_take_drop]
      have hl : na - (d + 1) < a.toList.length := by simp; omega
      rw [List.drop_eq_getElem_cons hl, show na - (na - (d + 1)) = (na - (na - d)) + 1 by omega, List.take_succ_cons, List.reverse_cons, show na - (d + 1) + 1 = na - d by omega]
      simp
    rw [e]
    exact P
theorem MH.many {a b out : Array Keyed} {na nb k : Nat} (sa : SL a.toList) (m : MH a b out na nb) (hk : k ≤ na) (h : ∀ i, k ≤ i → i < na → ∀ (q : i < a.size), ∀ y ∈ b.toList.take nb, LE y a[i]) : MH a b (out ++ (a.extract k na).reverse) k nb := by
  have := MH.manyA sa (na - k) na (by omega) m (fun i h1 h2 => h i (by omega) h2)
  rwa [show na - (na - k) = k by omega] at this
theorem MH.done {a b out : Array Keyed} {na nb : Nat} (m : MH a b out na nb) (sa : SL a.toList) (sb : SL b.toList) (h : ∀ x ∈ a.toList.take na, ∀ y ∈ b.toList.take nb, LE x y) : Merged a b (hiDone a b out na nb) := by
  have e1 : (a.extract 0 na).toList = a.toList.take na := by
    rw [Array.toList_extract, List.extract_eq_take_drop, List.drop_zero, Nat.sub_zero]
  have e2 : (b.extract 0 nb).toList = b.toList.take nb := by
    rw [Array.toList_extract, List.extract_eq_take_drop, List.drop_zero, Nat.sub_zero]
  unfold Merged hiDone
  rw [Array.toList_append, Array.toList_append, e1, e2, Array.toList_reverse]
  constructor
  · refine (List.Perm.append_left _ ((List.reverse_perm _).trans m.perm)).trans ?_
    conv => rhs; rw [← List.take_append_drop na a.toList, ← List.take_append_drop nb b.toList]
    simp only [List.append_assoc]
    refine List.Perm.append_left _ ?_
    rw [← List.append_assoc, ← List.append_assoc]
    exact List.perm_append_comm.append_right _
  · refine List.pairwise_append.mpr ⟨List.pairwise_append.mpr ⟨List.Pairwise.sublist (List.take_sublist _ _) sa, List.Pairwise.sublist (List.take_sublist _ _) sb, h⟩, m.so, fun x hx y hy => ?_⟩
    rcases List.mem_append.mp hx with q | q
    · exact m.ra x q y (List.mem_reverse.mp hy)
    · exact m.rb x q y (List.mem_reverse.mp hy)
theorem MH.first {a b out : Array Keyed} {na nb : Nat} (m : MH a b out na nb) (sa : SL a.toList) (sb : SL b.toList) (h : ∀ y ∈ b.toList.take nb, ∀ x ∈ a.toList.take na, LE y x) : Merged a b (hiFirst a b out na nb) :=
  (m.swap.done sb sa h).swap
end
end L2S

set_option Elab.async false
set_option linter.all false
set_option maxRecDepth 100000
set_option maxHeartbeats 1000000
namespace L2S
open PySem PyProof.Rows L2
variable [St]
section
variable {prog : Program} {w : World} {A : Around} {E : Value → Shared → Prop} {s : Shared} {st : SortSt} {a b : Array Keyed}
structure Hi (a b : Array Keyed) (n : Nat) (out : Array Keyed) (na nb : Nat) : Prop where
  mh : MH a b out na nb
  ha : 0 < na
  hb : 1 < nb
  hn : na + nb + n ≤ a.size + b.size
theorem Hi.mono {n m : Nat} {out : Array Keyed} {na nb : Nat} (L : Hi a b n out na nb) (h : m ≤ n) : Hi a b m out na nb := ⟨L.mh, L.ha, L.hb, by have := L.hn; omega⟩
end
end L2S

set_option Elab.async false
set_option linter.all false
set_option maxRecDepth 100000
set_option maxHeartbeats 1000000
namespace L2S
open PySem PyProof.Rows L2
variable [St]
/-- the pair at a place -/
def KK2 (xs : Array Keyed) (i : Nat) : κ.α := match xs[i]? with | some p => kf p | none => (St.b.dflt, 0)
def BK (xs : Array Keyed) (i : Nat) : St.b.α := (KK2 xs i).1
def PP (xs : Array Keyed) (i : Nat) : Nat := (KK2 xs i).2
def KeysO (a0 : Array Keyed) : Prop := ∀ p ∈ a0.toList, HasK p
theorem KK2_mirror {xs : Array Keyed} {i j : Nat} (h : j ≤ xs.size) (k : Nat) : KK2 (mirror xs i j ((j - i) / 2)) k = if i ≤ k ∧ k < j then KK2 xs (i + j - 1 - k) else KK2 xs k := by
  unfold KK2
  rw [getElem?_mirror_all h]
  by_cases hc : i ≤ k ∧ k < j
  · rw [if_pos hc, if_pos hc]
  · rw [if_neg hc, if_neg hc]
theorem klt_base {x y : κ.α} (h : St.b.blt x.1 y.1 = true) : κ.klt x y := by
  show (St.b.blt x.1 y.1 || _) = true
  rw [h]
  rfl
theorem kle_base {x y : κ.α} (h : κ.kle x y) : St.b.blt y.1 x.1 = false := by
  have h : (St.b.blt y.1 x.1 || (!St.b.blt x.1 y.1 && decide (y.2 < x.2))) = false := h
  rw [Bool.or_eq_false_iff] at h
  exact h.1
theorem kle_pos {x y : κ.α} (h : x.1 = y.1) (hp : x.2 ≤ y.2) : κ.kle x y := by
  show (St.b.blt y.1 x.1 || (!St.b.blt x.1 y.1 && decide (y.2 < x.2))) = false
  rw [h, St.b.irrefl, decide_eq_false (by omega)]
  rfl
/-- sorting from lo on, a block of n: what lies ahead of lo stays, what lies behind the block has not been moved yet -/
structure SF (a0 : Array Keyed) (lo n : Nat) (x0 : Array Keyed) (pd : Array (Nat × Nat × Nat)) (st : SortSt) : Prop where
  perm : (arrOf st).Perm a0
  low : ∀ k, k < lo → (arrOf st)[k]? = x0[k]?
  sg : SG st
  pend : pendingOf st = pd
  inb : ∀ k, lo ≤ k → k < lo + n → lo ≤ PP (arrOf st) k ∧ PP (arrOf st) k < lo + n
  hi : ∀ k, lo + n ≤ k → k < a0.size → PP (arrOf st) k = k
section
variable {prog : Program} {w : World} {A : Around} {E : Value → Shared → Prop} {s : Shared} {a0 x0 : Array Keyed} {lo n : Nat} {pd : Array (Nat × Nat × Nat)} {st : SortSt}
theorem SF.size (F : SF a0 lo n x0 pd st) : (arrOf st).size = a0.size := F.perm.size_eq
theorem SF.all (F : SF a0 lo n x0 pd st) (h0 : KeysO a0) : AllK (arrOf st) := fun i h => h0 _ ((Array.perm_iff_toList_perm.mp F.perm).mem_iff.mp (by simp))
theorem SF.grow (F : SF a0 lo n x0 pd st) {m : Nat} (h : n ≤ m) (hm : lo + m ≤ a0.size) : SF a0 lo m x0 pd st :=
  ⟨F.perm, F.low, F.sg, F.pend, fun k h1 h2 => by
    rcases Nat.lt_or_ge k (lo + n) with q | q
    · have := F.inb k h1 q
      omega
    · have := F.hi k q (by omega)
      omega, fun k h1 h2 => F.hi k (by omega) h2⟩
/-- sorted from lo on, n signs -/
def SoA (xs : Array Keyed) (lo n : Nat) : Prop := ∀ i j, i ≤ j → j < n → κ.kle (KK2 xs (lo + i)) (KK2 xs (lo + j))
def SoD (xs : Array Keyed) (lo n : Nat) : Prop := ∀ i j, i ≤ j → j < n → κ.kle (KK2 xs (lo + j)) (KK2 xs (lo + i))
/-- a falling run under way: the last q + 1 have one key and have not been moved -/
structure DI (xs : Array Keyed) (lo x q : Nat) : Prop where
  le : q + 1 ≤ x
  d1 : ∀ i j, i ≤ j → j < x - (q + 1) → κ.kle (KK2 xs (lo + j)) (KK2 xs (lo + i))
  d2 : ∀ i j, i < x - (q + 1) → x - (q + 1) ≤ j → j < x → St.b.blt (BK xs (lo + j)) (BK xs (lo + i)) = true
  eq : ∀ i, x - (q + 1) ≤ i → i < x → BK xs (lo + i) = BK xs (lo + x - 1)
  po : ∀ i, x - (q + 1) ≤ i → i < x → PP xs (lo + i) = lo + i
/-- the last ones turned about, all fall -/
theorem DI.turn {xs : Array Keyed} {lo x q : Nat} (d : DI xs lo x q) (hz : lo + x ≤ xs.size) : SoD (mirror xs (lo + x - (q + 1)) (lo + x) ((lo + x - (lo + x - (q + 1))) / 2)) lo x := by
  have := d.le
  have hm : ∀ k, KK2 (mirror xs (lo + x - (q + 1)) (lo + x) ((lo + x - (lo + x - (q + 1))) / 2)) k = if lo + x - (q + 1) ≤ k ∧ k < lo + x then KK2 xs (lo + x - (q + 1) + (lo + x) - 1 - k) else KK2 xs k := KK2_mirror hz
  intro i j hij hj
  rw [hm, hm]
  by_cases hi : i < x - (q + 1)
  · rw [if_neg (show ¬ (lo + x - (q + 1) ≤ lo + i ∧ lo + i < lo + x) by omega)]
    by_cases hj2 : j < x - (q + 1)
    · rw [if_neg (by omega)]
      exact d.d1 i j hij hj2
    · rw [if_pos (by omega), show lo + x - (q + 1) + (lo + x) - 1 - (lo + j) = lo + (x - (q + 1) + x - 1 - j) by omega]
      exact KeyOrd.kle_of_klt (klt_base (d.d2 i _ hi (by omega) (by omega)))
  · rw [if_pos (by omega), if_pos (by omega), show lo + x - (q + 1) + (lo + x) - 1 - (lo + j) = lo + (x - (q + 1) + x - 1 - j) by omega, show lo + x - (q + 1) + (lo + x) - 1 - (lo + i) = lo + (x - (q + 1) + x - 1 - i) by omega]
    refine kle_pos ((d.eq _ (by omega) (by omega)).trans (d.eq _ (by omega) (by omega)).symm) ?_
    have e1 := d.po (x - (q + 1) + x - 1 - j) (by omega) (by omega)
    have e2 := d.po (x - (q + 1) + x - 1 - i) (by omega) (by omega)
    unfold PP at e1 e2
    omega
/-- where the last one stands alone, all fall -/
theorem DI.alone {xs : Array Keyed} {lo x : Nat} (d : DI xs lo x 0) : SoD xs lo x := by
  have := d.le
  intro i j hij hj
  rcases Nat.lt_or_ge j (x - 1) with h | h
  · exact d.d1 i j hij (by omega)
  · rcases Nat.lt_or_ge i j with h2 | h2
    · exact KeyOrd.kle_of_klt (klt_base (d.d2 i j (by omega) (by omega) hj))
    · have e : i = j := by omega
      subst e
      exact KeyOrd.kle_refl _
/-- one more that is less -/
theorem DI.next {xs : Array Keyed} {lo x : Nat} (hx : 1 ≤ x) (sd : SoD xs lo x) (hlt : St.b.blt (BK xs (lo + x)) (BK xs (lo + x - 1)) = true) (hp : PP xs (lo + x) = lo + x) : DI xs lo (x + 1) 0 := by
  refine ⟨by omega, fun i j hij hj => sd i j hij (by omega), fun i j hi hj hj2 => ?_, fun i h1 h2 => ?_, fun i h1 h2 => ?_⟩
  · have e : j = x := by omega
    subst e
    have h1 := kle_base (sd i (j - 1) (by omega) (by omega))
    rw [show lo + (j - 1) = lo + j - 1 by omega] at h1
    rcases St.b.negTrans _ (BK xs (lo + i)) _ hlt with h | h
    · exact h
    · have h1 : St.b.blt (BK xs (lo + i)) (BK xs (lo + j - 1)) = false := h1
      rw [h1] at h
      cases h
  · have e : i = x := by omega
    subst e
    rfl
  · have e : i = x := by omega
    subst e
    exact hp
theorem DI.more {xs : Array Keyed} {lo x q : Nat} (d : DI xs lo x q) (e : BK xs (lo + x) = BK xs (lo + x - 1)) (hp : PP xs (lo + x) = lo + x) : DI xs lo (x + 1) (q + 1) := by
  have := d.le
  refine ⟨by omega, fun i j hij hj => d.d1 i j hij (by omega), fun i j hi hj hj2 => ?_, fun i h1 h2 => ?_, fun i h1 h2 => ?_⟩
  · rcases Nat.lt_or_ge j x with h | h
    · exact d.d2 i j (by omega) (by omega) h
    · have ej : j = x := by omega
      subst ej
      have h3 := d.d2 i (j - 1) (by omega) (by omega) (by omega)
      rw [show lo + (j - 1) = lo + j - 1 by omega] at h3
      rw [e]
      exact h3
  · rw [show lo + (x + 1) - 1 = lo + x by omega]
    rcases Nat.lt_or_ge i x with h | h
    · rw [d.eq i (by omega) h, e]
    · have ei : i = x := by omega
      subst ei
      rfl
  · rcases Nat.lt_or_ge i x with h | h
    · exact d.po i (by omega) h
    · have ei : i = x := by omega
      subst ei
      exact hp
end
end L2S

set_option Elab.async false
set_option linter.all false
set_option maxRecDepth 100000
set_option maxHeartbeats 1000000
namespace L2S
open PySem PyProof.Rows L2
variable [St]
section
variable {prog : Program} {w : World} {A : Around} {E : Value → Shared → Prop} {s : Shared} {a0 x0 : Array Keyed} {lo : Nat} {pd : Array (Nat × Nat × Nat)} {st : SortSt}
end
end L2S

set_option Elab.async false
set_option linter.all false
set_option maxRecDepth 100000
set_option maxHeartbeats 1000000
namespace L2S
open PySem PyProof.Rows L2
variable [St]
section
variable {prog : Program} {w : World} {A : Around} {E : Value → Shared → Prop} {s : Shared} {st : SortSt}
theorem KK2_congr {xs ys : Array Keyed} {k : Nat} (e : ys[k]? = xs[k]?) : KK2 ys k = KK2 xs k := by
  unfold KK2
  rw [e]
/-- sorted from lo to hi -/
def RS (xs : Array Keyed) (lo hi : Nat) : Prop := ∀ i j, lo ≤ i → i ≤ j → j < hi → κ.kle (KK2 xs i) (KK2 xs j)
theorem RS.congr {xs ys : Array Keyed} {lo hi : Nat} (h : RS xs lo hi) (e : ∀ k, lo ≤ k → k < hi → ys[k]? = xs[k]?) : RS ys lo hi := fun i j a b c => by
  rw [KK2_congr (e i a (by omega)), KK2_congr (e j (by omega) c)]
  exact h i j a b c
/-- what stands in a block comes out of it -/
def InB (xs : Array Keyed) (lo hi : Nat) : Prop := ∀ k, lo ≤ k → k < hi → lo ≤ PP xs k ∧ PP xs k < hi
theorem InB.congr {xs ys : Array Keyed} {lo hi : Nat} (h : InB xs lo hi) (e : ∀ k, lo ≤ k → k < hi → ys[k]? = xs[k]?) : InB ys lo hi := fun k a b => by
  unfold PP
  rw [KK2_congr (e k a b)]
  exact h k a b
theorem InB.app {xs : Array Keyed} {a b c : Nat} (h1 : InB xs a b) (h2 : InB xs b c) (hab : a ≤ b) (hbc : b ≤ c) : InB xs a c := fun k k1 k2 => by
  rcases Nat.lt_or_ge k b with q | q
  · have := h1 k k1 q; omega
  · have := h2 k q k2; omega
/-- what a merge of two rows leaves -/
structure MAt (st st' : SortSt) (sa se : Nat) : Prop where
  perm : (arrOf st').Perm (arrOf st)
  out : ∀ k, k < sa ∨ se ≤ k → (arrOf st')[k]? = (arrOf st)[k]?
  so : RS (arrOf st') sa se
  po : InB (arrOf st') sa se
  sg : SG st'
end
end L2S

set_option Elab.async false
set_option linter.all false
set_option maxRecDepth 100000
set_option maxHeartbeats 1000000
namespace L2S
open PySem PyProof.Rows L2
variable [St]
/-- the state between two runs -/
structure RI (a0 : Array Keyed) (lo u : Nat) (st : SortSt) : Prop where
  perm : (arrOf st).Perm a0
  sg : SG st
  chn : Chn 0 (pendingOf st).toList lo
  so : ∀ t ∈ (pendingOf st).toList, RS (arrOf st) t.1 (t.1 + t.2.1)
  po : ∀ t ∈ (pendingOf st).toList, InB (arrOf st) t.1 (t.1 + t.2.1)
  hi : ∀ k, u ≤ k → k < a0.size → PP (arrOf st) k = k
section
variable {prog : Program} {w : World} {A : Around} {E : Value → Shared → Prop} {s : Shared} {a0 : Array Keyed} {st : SortSt} {lo u : Nat}
/-- a run found behind the pending ones -/
structure RF (a0 : Array Keyed) (lo n : Nat) (st : SortSt) : Prop where
  ri : RI a0 lo (lo + n) st
  run : RS (arrOf st) lo (lo + n)
  inb : InB (arrOf st) lo (lo + n)
theorem RF.congr {n : Nat} {st' : SortSt} (R : RF a0 lo n st) (R' : RI a0 lo (lo + n) st') (e : ∀ k, lo ≤ k → (arrOf st')[k]? = (arrOf st)[k]?) : RF a0 lo n st' := ⟨R', R.run.congr fun k k1 _ => e k k1, R.inb.congr fun k k1 _ => e k k1⟩
theorem RI.sf (R : RI a0 lo lo st) : SF a0 lo 0 (arrOf st) (pendingOf st) st := ⟨R.perm, fun _ _ => rfl, R.sg, rfl, fun k a b => by omega, R.hi⟩
theorem RF.of (R : RI a0 lo lo st) {st' : SortSt} {n : Nat} (F : SF a0 lo n (arrOf st) (pendingOf st) st') (so : SoA (arrOf st') lo n) : RF a0 lo n st' := by
  refine ⟨⟨F.perm, F.sg, by rw [F.pend]; exact R.chn, fun t ht => ?_, fun t ht => ?_, F.hi⟩, fun i j a b c => ?_, F.inb⟩
  · rw [F.pend] at ht
    have := R.chn.mem t ht
    exact (R.so t ht).congr fun k _ k2 => F.low k (by omega)
  · rw [F.pend] at ht
    have := R.chn.mem t ht
    exact (R.po t ht).congr fun k _ k2 => F.low k (by omega)
  · have := so (i - lo) (j - lo) (by omega) (by omega)
    rwa [show lo + (i - lo) = i by omega, show lo + (j - lo) = j by omega] at this
end
end L2S

set_option Elab.async false
set_option linter.all false
set_option maxRecDepth 100000
set_option maxHeartbeats 1000000
namespace L2
open PySem PySem.Spec PyProof.Rows TL
/-- ints as keys -/
@[reducible] def ikind : PyProof.Rows.KeyKind where
  α := Int
  blt a b := decide (a < b)
  irrefl a := by simp
  trans a b c h1 h2 := by simp only [decide_eq_true_eq] at *; omega
  negTrans a b c h := by simp only [decide_eq_true_eq] at *; omega
  total a b h1 h2 := by simp only [decide_eq_false_iff_not] at *; omega
  keyOf v := match v with | .int n _ => some n | _ => none
  dflt := 0
section
variable {prog : Program} {w : World} {A : Around} {E : Value → Shared → Prop} {s : Shared}
end
end L2

set_option Elab.async false
set_option linter.all false
set_option maxRecDepth 100000
set_option maxHeartbeats 1000000
namespace L2
open PySem PySem.Spec PyProof.Rows TL
/-- how many pieces of a length begin -/
def mny (x : Str) (m : Int) : Nat := ((x.length : Int) - m + 1).toNat
def pce (x : Str) (L : Nat) (i : Nat) : Str := cutS x (some ((0 : Int) + (i : Int))) (some ((0 : Int) + (i : Int) + (L : Int)))
theorem nodup_sub {α : Type} : ∀ (l1 l2 : List α), l1.Nodup → (∀ a ∈ l1, a ∈ l2) → l1.length ≤ l2.length
  | [], l2, _, _ => Nat.zero_le _
  | a :: l1, l2, hn, hs => by
    obtain ⟨s, t, e⟩ := List.append_of_mem (hs a (List.mem_cons_self ..))
    obtain ⟨h1, h2⟩ := List.nodup_cons.mp hn
    have ih := nodup_sub l1 (s ++ t) h2 fun b hb => by
      have := hs b (List.mem_cons_of_mem _ hb)
      rw [e] at this
      rcases List.mem_append.mp this with q | q
      · exact List.mem_append_left _ q
      · rcases List.mem_cons.mp q with q | q
        · exact absurd (q ▸ hb) h1
        · exact List.mem_append_right _ q
    rw [e, List.length_append, List.length_cons, List.length_cons]
    rw [List.length_append] at ih
    omega
open Classical in
/-- each once -/
noncomputable def uq {α : Type} : List α → List α
  | [] => []
  | a :: l => if a ∈ l then uq l else a :: uq l
theorem mem_uq {α : Type} {b : α} : ∀ {l : List α}, b ∈ uq l ↔ b ∈ l
  | [] => Iff.rfl
  | a :: l => by
    unfold uq
    split
    · rename_i h
      rw [mem_uq, List.mem_cons]
      constructor
      · exact .inr
      · rintro (rfl | q)
        · exact h
        · exact q
    · rw [List.mem_cons, List.mem_cons, mem_uq]
theorem uq_nodup {α : Type} : ∀ (l : List α), (uq l).Nodup
  | [] => List.nodup_nil
  | a :: l => by
    unfold uq
    split
    · exact uq_nodup l
    · rename_i h
      exact List.nodup_cons.mpr ⟨fun q => h (mem_uq.mp q), uq_nodup l⟩
/-- all pieces of a length, as they stand -/
def allP (x : Str) (L : Nat) : List Str := (List.range (mny x L)).map (pce x L)
theorem mem_allP {x : Str} {L : Nat} {y : Str} : y ∈ allP x L ↔ ∃ j, j < mny x L ∧ pce x L j = y := by
  unfold allP
  rw [List.mem_map]
  constructor
  · rintro ⟨j, h1, h2⟩
    exact ⟨j, List.mem_range.mp h1, h2⟩
  · rintro ⟨j, h1, h2⟩
    exact ⟨j, List.mem_range.mpr h1, h2⟩
/-- how many unlike pieces -/
noncomputable def cntP (x : Str) (L : Nat) : Nat := (uq (allP x L)).length
theorem cnt_of {x : Str} {L : Nat} {ys : List Str} (nd : ys.Nodup) (mem : ∀ y, y ∈ ys ↔ ∃ j, j < mny x L ∧ pce x L j = y) : ys.length = cntP x L :=
  Nat.le_antisymm (nodup_sub _ _ nd fun y h => mem_uq.mpr (mem_allP.mpr ((mem y).mp h))) (nodup_sub _ _ (uq_nodup _) fun y h => (mem y).mpr (mem_allP.mp (mem_uq.mp h)))
/-- the unlike pieces, sorted -/
structure Pcs (x : Str) (L : Nat) (ys : List Str) : Prop where
  mem : ∀ y, y ∈ ys ↔ ∃ j, j < mny x L ∧ pce x L j = y
  nd : ys.Nodup
  so : PyProof.Rows.sortedS ys = true
theorem Pcs.len {x : Str} {L : Nat} {ys : List Str} (h : Pcs x L ys) : ys.length = cntP x L := cnt_of h.nd h.mem
theorem rise_pw : ∀ (ys : List Str) (p : Str), PyProof.Rows.risingS p ys = true → (∀ b ∈ ys, ¬ cs b < cs p) ∧ ys.Pairwise fun a b => ¬ cs b < cs a
  | [], p, _ => ⟨fun b m => (by cases m), List.Pairwise.nil⟩
  | x :: r, p, h => by
    unfold PyProof.Rows.risingS at h
    rw [Bool.and_eq_true, PyProof.Rows.ltCps_eq] at h
    obtain ⟨h1, h2⟩ := h
    have h1 : ¬ cs x < cs p := by simpa using h1
    obtain ⟨i1, i2⟩ := rise_pw r x h2
    refine ⟨fun b hb => ?_, List.pairwise_cons.mpr ⟨i1, i2⟩⟩
    rcases List.mem_cons.mp hb with rfl | hb
    · exact h1
    · exact List.not_lt.mpr (List.le_trans (List.not_lt.mp h1) (List.not_lt.mp (i1 b hb)))
theorem sort_pw (ys : List Str) (h : PyProof.Rows.sortedS ys = true) : ys.Pairwise fun a b => ¬ cs b < cs a := by
  cases ys with
  | nil => exact .nil
  | cons a r =>
    obtain ⟨i1, i2⟩ := rise_pw r a h
    exact List.pairwise_cons.mpr ⟨i1, i2⟩
theorem cs_inj {x y : Str} (h : cs x = cs y) : x = y := TL.ext_tl h
theorem sortedS_uniq {ys zs : List Str} (p : ys.Perm zs) (h1 : PyProof.Rows.sortedS ys = true) (h2 : PyProof.Rows.sortedS zs = true) : ys = zs :=
  List.Perm.eq_of_pairwise (fun a b _ _ q1 q2 => cs_inj (List.le_antisymm (List.not_lt.mp q1) (List.not_lt.mp q2))) (sort_pw ys h1) (sort_pw zs h2) p
theorem perm_nd {α : Type} {ys zs : List α} (n1 : ys.Nodup) (n2 : zs.Nodup) (h : ∀ a, a ∈ ys ↔ a ∈ zs) : ys.Perm zs := (List.perm_ext_iff_of_nodup n1 n2).mpr h
theorem Pcs.uniq {x : Str} {L : Nat} {ys zs : List Str} (h1 : Pcs x L ys) (h2 : Pcs x L zs) : ys = zs :=
  sortedS_uniq (perm_nd h1.nd h2.nd fun a => (h1.mem a).trans (h2.mem a).symm) h1.so h2.so
theorem putK_keys (kvs : List (Key × V)) (k : Key) (v : V) : (k ∈ kvs.map (·.1) → (putK kvs k v).map (·.1) = kvs.map (·.1)) ∧ (k ∉ kvs.map (·.1) → (putK kvs k v).map (·.1) = kvs.map (·.1) ++ [k]) := by
  unfold putK
  constructor
  · intro h
    have : (kvs.any fun kv => decide (kv.1 = k)) = true := by
      obtain ⟨p, hp, e⟩ := List.mem_map.mp h
      exact List.any_eq_true.mpr ⟨p, hp, decide_eq_true e⟩
    rw [if_pos this, List.map_map]
    refine List.map_congr_left fun p _ => ?_
    show (if p.1 = k then (p.1, v) else p).1 = p.1
    split <;> rfl
  · intro h
    have : ¬ (kvs.any fun kv => decide (kv.1 = k)) = true := fun q => by
      obtain ⟨p, hp, e⟩ := List.any_eq_true.mp q
      exact h (List.mem_map.mpr ⟨p, hp, of_decide_eq_true e⟩)
    rw [if_neg this, List.map_append]
    rfl
/-- the pieces that begin ahead of n, as a dict's keys -/
structure Dic (x : Str) (L n : Nat) (kvs : List (Key × V)) : Prop where
  nd : (kvs.map (·.1)).Nodup
  mem : ∀ k, k ∈ kvs.map (·.1) ↔ ∃ j, j < n ∧ Sum.inr (pce x L j) = k
theorem Dic.nil (x : Str) (L : Nat) : Dic x L 0 [] := ⟨List.nodup_nil, fun k => by simp⟩
theorem below_succ {n : Nat} {p : Nat → Prop} : (∃ j, j < n + 1 ∧ p j) ↔ (∃ j, j < n ∧ p j) ∨ p n := by
  constructor
  · rintro ⟨j, a, b⟩
    rcases Nat.lt_or_ge j n with q | q
    · exact .inl ⟨j, q, b⟩
    · have e : j = n := by omega
      subst e
      exact .inr b
  · rintro (⟨j, a, b⟩ | b)
    · exact ⟨j, by omega, b⟩
    · exact ⟨n, by omega, b⟩
theorem Dic.put {x : Str} {L n : Nat} {kvs : List (Key × V)} (h : Dic x L n kvs) (v : V) : Dic x L (n + 1) (putK kvs (Sum.inr (pce x L n)) v) := by
  obtain ⟨k1, k2⟩ := putK_keys kvs (Sum.inr (pce x L n)) v
  by_cases hin : (Sum.inr (pce x L n) : Key) ∈ kvs.map (·.1)
  · refine ⟨by rw [k1 hin]; exact h.nd, fun k => ?_⟩
    rw [k1 hin, below_succ, ← h.mem]
    constructor
    · exact .inl
    · rintro (q | q)
      · exact q
      · rw [← q]; exact hin
  · refine ⟨?_, fun k => ?_⟩
    · rw [k2 hin, List.nodup_append]
      refine ⟨h.nd, List.nodup_cons.mpr ⟨by simp, List.nodup_nil⟩, fun a ha b hb e => ?_⟩
      rw [List.mem_singleton.mp hb] at e
      exact hin (e ▸ ha)
    · rw [k2 hin, List.mem_append, List.mem_singleton, below_succ, ← h.mem]
      constructor
      · rintro (q | q)
        · exact .inl q
        · exact .inr q.symm
      · rintro (q | q)
        · exact .inl q
        · exact .inr q.symm
theorem Dic.few {x : Str} {L n : Nat} {kvs : List (Key × V)} (h : Dic x L n kvs) : kvs.length ≤ n := by
  have := nodup_sub (kvs.map (·.1)) ((List.range n).map fun j => (Sum.inr (pce x L j) : Key)) h.nd fun k hk => by
    obtain ⟨j, a, b⟩ := (h.mem k).mp hk
    exact List.mem_map.mpr ⟨j, List.mem_range.mpr a, b⟩
  rw [List.length_map, List.length_map, List.length_range] at this
  exact this
theorem Dic.len {x : Str} {L : Nat} {kvs : List (Key × V)} (h : Dic x L (mny x L) kvs) : kvs.length = cntP x L := by
  have e1 := nodup_sub (kvs.map (·.1)) ((uq (allP x L)).map (Sum.inr : Str → Key)) h.nd fun k hk => by
    obtain ⟨j, a, b⟩ := (h.mem k).mp hk
    exact List.mem_map.mpr ⟨_, mem_uq.mpr (mem_allP.mpr ⟨j, a, rfl⟩), b⟩
  have e2 := nodup_sub ((uq (allP x L)).map (Sum.inr : Str → Key)) (kvs.map (·.1)) (List.Pairwise.map _ (fun a b e q => e (Sum.inr.inj q)) (uq_nodup _)) fun k hk => by
    obtain ⟨y, a, rfl⟩ := List.mem_map.mp hk
    obtain ⟨j, a, b⟩ := mem_allP.mp (mem_uq.mp a)
    exact (h.mem _).mpr ⟨j, a, by rw [b]⟩
  rw [List.length_map, List.length_map] at e1 e2
  exact Nat.le_antisymm e1 e2
end L2
namespace L2
open PySem PySem.Spec PyProof.Rows TL
theorem Dic.strs {x : Str} {L n : Nat} {kvs : List (Key × V)} (h : Dic x L n kvs) : ∃ xs : List Str, kvs.map (·.1) = xs.map Sum.inr ∧ xs.Nodup ∧ ∀ y, y ∈ xs ↔ ∃ j, j < n ∧ pce x L j = y := by
  refine ⟨kvs.map fun kv => match kv.1 with | .inr y => y | .inl _ => Str.empty, ?_, ?_, fun y => ?_⟩
  · rw [List.map_map]
    refine List.map_congr_left fun kv hkv => ?_
    obtain ⟨j, _, e⟩ := (h.mem kv.1).mp (List.mem_map.mpr ⟨kv, hkv, rfl⟩)
    show kv.1 = Sum.inr (match kv.1 with | .inr y => y | .inl _ => Str.empty)
    rw [← e]
  · have e : kvs.map (fun kv => match kv.1 with | .inr y => y | .inl _ => Str.empty) = (kvs.map (·.1)).map (fun k : Key => match k with | .inr y => y | .inl _ => Str.empty) := by rw [List.map_map]; rfl
    rw [e]
    refine List.pairwise_map.mpr (h.nd.imp_of_mem fun {a b} ha hb ne q => ne ?_)
    obtain ⟨i, _, e1⟩ := (h.mem a).mp ha
    obtain ⟨j, _, e2⟩ := (h.mem b).mp hb
    rw [← e1, ← e2] at q ⊢
    exact congrArg Sum.inr q
  · rw [List.mem_map]
    constructor
    · rintro ⟨kv, hkv, e⟩
      obtain ⟨j, a, b⟩ := (h.mem kv.1).mp (List.mem_map.mpr ⟨kv, hkv, rfl⟩)
      rw [← b] at e
      exact ⟨j, a, e⟩
    · rintro ⟨j, a, b⟩
      obtain ⟨kv, h1, h2⟩ := List.mem_map.mp ((h.mem (Sum.inr y)).mpr ⟨j, a, by rw [b]⟩)
      exact ⟨kv, h1, by show (match kv.1 with | .inr y => y | .inl _ => Str.empty) = y; rw [h2]⟩
end L2

set_option Elab.async false
set_option linter.all false
set_option maxRecDepth 100000
set_option maxHeartbeats 1000000
namespace L2
open PySem PySem.Spec PyProof.Rows TL
section
variable {prog : Program} {w : World} {A : Around} {E : Value → Shared → Prop} {s : Shared} {T : String} {r d : Addr} {n : Nat} {P : Nat → Value → Prop} {OK : Heap → Prop}
end
end L2

set_option Elab.async false
set_option linter.all false
set_option maxRecDepth 100000
set_option maxHeartbeats 1000000
namespace L2
open PySem PySem.Spec PyProof.Rows TL
section
variable {prog : Program} {w : World} {A : Around} {E : Value → Shared → Prop} {s : Shared}
end
end L2

set_option Elab.async false
set_option linter.all false
set_option maxRecDepth 100000
set_option maxHeartbeats 1000000
namespace L2
open PySem PySem.Spec PyProof.Rows TL
section
variable {M : Model} {A : Around} {E : Value → Shared → Prop} {s : Shared} {env : Env}
end
section
variable {prog : Program} {w : World} {A : Around} {E : Value → Shared → Prop} {s : Shared}
end
end L2

set_option Elab.async false
set_option linter.all false
set_option maxRecDepth 100000
set_option maxHeartbeats 1000000
namespace L2
open PySem PySem.Spec PyProof.Rows TL
section
variable {prog : Program} {w : World} {A : Around} {E : Value → Shared → Prop} {s : Shared}
end
end L2

set_option Elab.async false
set_option linter.all false
set_option maxRecDepth 100000
set_option maxHeartbeats 1000000
namespace L2
open PySem PySem.Spec PyProof.Rows TL
end L2

set_option Elab.async false
set_option linter.all false
set_option maxRecDepth 100000
set_option maxHeartbeats 1000000
namespace L2
open PySem PySem.Spec PyProof.Rows TL
/-! ### rows of texts, compared -/
theorem dpAll_strs {K : PySem.W.Frag} {H : Hp} : ∀ ns : List Str, DpAll K H (ns.map V.str) (ns.map PyData.str)
  | [] => .nil
  | n :: ns => .cons (.str n) (dpAll_strs ns)
theorem eqvAll_strs : ∀ ns ms : List Str, PyData.eqvAll (ns.map PyData.str) (ms.map PyData.str) = decide (ns = ms)
  | [], [] => by simp [PyData.eqvAll]
  | [], m :: ms => by simp [PyData.eqvAll]
  | n :: ns, [] => by simp [PyData.eqvAll]
  | n :: ns, m :: ms => by
    rw [List.map_cons, List.map_cons]
    simp only [PyData.eqvAll, PyData.eqv]
    rw [eqvAll_strs ns ms, Bool.eq_iff_iff]
    simp
theorem eqv_strs (ns ms : List Str) : PyData.eqv (.list (ns.map PyData.str)) (.list (ms.map PyData.str)) = decide (ns = ms) := by
  simp only [PyData.eqv]
  exact eqvAll_strs ns ms
theorem Lets.ok {x : Str} (h : Lets x) : PyData.strOk x = true := by
  unfold PyData.strOk
  rw [Array.all_eq_true']
  intro c hc
  have := h c (by simpa using hc)
  exact decide_eq_true (by omega)
end L2

set_option Elab.async false
set_option linter.all false
set_option maxRecDepth 100000
set_option maxHeartbeats 1000000
namespace L2
open PySem PySem.Spec PyProof.Rows TL
/-! ### more pins, other letters -/
theorem Missed.fewer {c : List Nat} {p p' : Nat → Bool} {w : List Nat} (h : Missed c p' w) (hp : ∀ i, p i = true → p' i = true) : Missed c p w :=
  ⟨h.ne, h.at', fun i h1 h2 j hj => by
    cases e : p (i + j) with
    | false => rfl
    | true =>
      have := h.free i h1 h2 j hj
      rw [hp _ e] at this
      cases this⟩
end L2

set_option Elab.async false
set_option linter.all false
set_option maxRecDepth 100000
set_option maxHeartbeats 1000000
namespace L2
open PySem PySem.Spec PyProof.Rows TL
/-- the letters a, b, c by q, a, b -/
def f3 (c : Nat) : Nat := if c = 97 then 113 else if c = 98 then 97 else if c = 99 then 98 else c
end L2

set_option Elab.async false
set_option linter.all false
set_option maxRecDepth 100000
set_option maxHeartbeats 3200000
namespace L2
open PySem PySem.Spec PyProof.Rows TL
section
variable {prog : Program} {w : World} {A : Around} {E : Value → Shared → Prop} {s : Shared}
end
end L2

set_option Elab.async false
set_option linter.all false
set_option maxRecDepth 100000
set_option maxHeartbeats 1000000
namespace L2
open PySem PySem.Spec PyProof.Rows TL
theorem for_enum0 {K : PySem.W.Frag} {a : Addr} {xs : List V} {g : TG} {tb : TS} {D : Ends} {σ : St} {H : Hp} (Pv : Nat → St → Hp → Prop) (h0 : Pv 0 σ H) (hl : ∀ i σ H, i ≤ xs.length → Pv i σ H → SqL K H a xs)
    (hs : ∀ i x σ H T, xs[i]? = some x → Pv i σ H → H T = none → g (.ref T) σ (upd H T (.tup [.int (i : Nat), x])) fun σ2 H2 => tb { D with nx := Pv (i + 1), ct := Pv (i + 1), bk := D.nx } σ2 H2) (hd : ∀ σ H, Pv xs.length σ H → D.nx σ H) :
    tFor (fun _ H R => R (Ite K a) H) g tb D σ H := by
  refine ⟨fun i m σ H => m = xs.length - i ∧ i ≤ xs.length ∧ Pv i σ H, ⟨xs.length, by simp, Nat.zero_le _, h0⟩, ?_⟩
  rintro i m σ H ⟨rfl, hi, p⟩
  have q := hl i σ H hi p
  by_cases hlt : i < xs.length
  · refine .inr ⟨⟨xs, xs[i], q, by simp [hlt]⟩, Pv (i + 1), fun σ' H' p' => ⟨xs.length - (i + 1), by omega, rfl, hlt, p'⟩, fun x H' y => ?_⟩
    obtain ⟨T, z, rfl, hT, rfl, y⟩ := y
    exact hs i z σ _ T (y xs q) p hT
  · have e : i = xs.length := by omega
    subst e
    exact .inl ⟨⟨xs, q, Nat.le_refl _⟩, hd σ H p⟩
/-! ### joined ones -/
theorem sub_left {c d : List Nat} {i L : Nat} (h : i + L ≤ c.length) : sub (c ++ d) i L = sub c i L := by
  unfold sub
  rw [List.drop_append, List.take_append_of_le_length (by rw [List.length_drop]; omega)]
theorem sub_right {c d : List Nat} {i L : Nat} : sub (c ++ d) (c.length + i) L = sub d i L := by
  unfold sub
  rw [List.drop_append, List.drop_eq_nil_of_le (by omega), List.nil_append]
  congr 2
  omega
end L2

set_option Elab.async false
set_option linter.all false
set_option maxRecDepth 100000
set_option maxHeartbeats 1000000
namespace L2
open PySem PySem.Spec PyProof.Rows TL
/-! ### x.find(y, 0, hi) -/
/-- the first place of y in x that ends by hi -/
def FindTo (x y : Str) (hi : Nat) (z : Int) : Prop := (z = -1 ∧ ∀ i, ¬ StrLaws.At x y hi i) ∨ ∃ i : Nat, z = (i : Int) ∧ StrLaws.At x y hi i ∧ ∀ k, k < i → ¬ StrLaws.At x y hi k
theorem occ_to (x y : Str) (hi : Nat) : FindTo x y hi (match Builtin.Str.occurrences x y 0 hi 1 with | i :: _ => (i : Int) | [] => -1) := by
  rw [StrLaws.occ_eq]
  rcases StrLaws.occ_first x y hi 1 (Nat.le_refl 1) (List.range' 0 (hi + 1 - 0)) 0 (fun _ _ => Nat.zero_le _) with ⟨h0, hn⟩ | ⟨pre, a, post, e, h0, ha, hn⟩
  · rw [h0]
    refine .inl ⟨rfl, fun i hi' => hn i ?_ hi'⟩
    have := hi'.1
    rw [List.mem_range'_1]
    omega
  · generalize (forIn (List.range' 0 (hi + 1 - 0)) ((#[] : Array Nat), 0) (StrLaws.occBody x y hi 1)).run.fst = arr at h0
    have h1 : arr.toList[0]? = some a := by simpa using h0
    cases hL : arr.toList with
    | nil => rw [hL] at h1; cases h1
    | cons b t =>
      rw [hL] at h1
      have eb : b = a := by simpa using h1
      subst eb
      exact .inr ⟨b, rfl, ha, fun k hk => hn k (StrLaws.range'_split e k hk)⟩
end L2

set_option Elab.async false
set_option linter.all false
set_option maxRecDepth 100000
set_option maxHeartbeats 1000000
namespace L2
open PySem PySem.Spec PyProof.Rows TL
section
open PySem.SeqAt
open PySem.AutoSeq1 (wpAny_loadPart')
open PySem.MeetsSeq PySem.MeetsSeq2 PySem.MeetsSeq3
end
section
variable {prog : Program} {w : World} {A : Around} {E : Value → Shared → Prop} {s : Shared}
end
end L2

set_option Elab.async false
set_option linter.all false
set_option maxRecDepth 100000
set_option maxHeartbeats 1000000
namespace L2
open PySem PySem.Spec PyProof.Rows TL
/-! ### how many different pieces: facts -/
/-- all pieces of a length, in their places' order -/
def pcsL (c : List Nat) (L : Nat) : List (List Nat) := (List.range (c.length + 1 - L)).map fun i => sub c i L
noncomputable def cntL (c : List Nat) (L : Nat) : Nat := (uq (pcsL c L)).length
end L2

set_option Elab.async false
set_option linter.all false
set_option maxRecDepth 100000
set_option maxHeartbeats 1000000
namespace L2
open PySem PySem.Spec PyProof.Rows TL
/-- the letters, a place and a letter -/
def abc : Str := Str.ofString "abcdefghijklmnopqrstuvwxyz"
theorem abc_at : ∀ k : Fin 26, abc.cps.toList[k.val]? = some (97 + k.val) := by decide +kernel
theorem abc_len : abc.length = 26 := by decide +kernel
end L2

set_option Elab.async false
set_option linter.all false
set_option maxRecDepth 100000
set_option maxHeartbeats 1000000
namespace L2
open PySem PySem.Spec PyProof.Rows TL
section
variable {X : Cx}
end
end L2

set_option Elab.async false
set_option linter.all false
set_option maxRecDepth 100000
set_option maxHeartbeats 1000000
namespace L2
open PySem PySem.Spec PyProof.Rows TL
/-! ### the facts of cuts -/
def Eqm (c : List Nat) (s j k : Nat) : Prop := s + k ≤ c.length ∧ sub c j k = sub c s k
theorem sub_take {c : List Nat} {j k k' : Nat} (h : k ≤ k') : sub c j k = (sub c j k').take k := by
  unfold sub
  rw [List.take_take, Nat.min_eq_left h]
theorem Eqm.less {c : List Nat} {s j k k' : Nat} (h : Eqm c s j k') (hk : k ≤ k') : Eqm c s j k := ⟨by have := h.1; omega, by rw [sub_take hk, h.2, ← sub_take hk]⟩
theorem Eqm.zero {c : List Nat} {s j : Nat} (h : s ≤ c.length) : Eqm c s j 0 := ⟨h, rfl⟩
/-- the best of the starts before i -/
structure Bs (c : List Nat) (s i M o : Nat) : Prop where
  fit : s + M ≤ c.length
  most : ∀ j, j < i → ∀ k, Eqm c s j k → k ≤ M
  at' : 0 < M → o < i ∧ Eqm c s o M ∧ ∀ j, j < o → ¬ Eqm c s j M
  non : M = 0 → o = 0
theorem Bs.uniq {c : List Nat} {s i M o M' o' : Nat} (h : Bs c s i M o) (h' : Bs c s i M' o') : M = M' ∧ o = o' := by
  have a : ∀ {M o M' o' : Nat}, Bs c s i M o → Bs c s i M' o' → M ≤ M' := fun {M o M' o'} h h' => by
    rcases Nat.eq_zero_or_pos M with e | e
    · omega
    · obtain ⟨h1, h2, _⟩ := h.at' e
      exact h'.most o h1 M h2
  have e : M = M' := Nat.le_antisymm (a h h') (a h' h)
  subst e
  refine ⟨rfl, ?_⟩
  rcases Nat.eq_zero_or_pos M with e | e
  · rw [h.non e, h'.non e]
  · obtain ⟨_, h2, h3⟩ := h.at' e
    obtain ⟨_, h2', h3'⟩ := h'.at' e
    rcases Nat.lt_trichotomy o o' with q | q | q
    · exact absurd h2 (h3' o q)
    · exact q
    · exact absurd h2' (h3 o' q)
/-- one more start, that fits m signs -/
theorem Bs.next {c : List Nat} {s i M o m : Nat} (h : Bs c s i M o) (h1 : Eqm c s i m) (h2 : ∀ k, Eqm c s i k → k ≤ m) : (M < m → Bs c s (i + 1) m i) ∧ (¬ M < m → Bs c s (i + 1) M o) := by
  constructor
  · intro hlt
    refine ⟨h1.1, fun j hj k hk => ?_, fun _ => ⟨by omega, h1, fun j hj hk => ?_⟩, fun e => by omega⟩
    · rcases Nat.lt_or_ge j i with q | q
      · have := h.most j q k hk
        omega
      · have : j = i := by omega
        subst this
        exact h2 k hk
    · have := h.most j hj m hk
      omega
  · intro hlt
    refine ⟨h.fit, fun j hj k hk => ?_, fun e => ?_, h.non⟩
    · rcases Nat.lt_or_ge j i with q | q
      · exact h.most j q k hk
      · have : j = i := by omega
        subst this
        have := h2 k hk
        omega
    · obtain ⟨a, b, d⟩ := h.at' e
      exact ⟨by omega, b, d⟩
/-- a part: a sign, or a place and a length -/
abbrev Prt := Sum Nat (Nat × Nat)
def pLen : Prt → Nat
  | .inl _ => 1
  | .inr (_, m) => m
def pV : Prt → List V
  | .inl a => [.str (Str.ofString "sign"), .str ⟨#[a]⟩]
  | .inr (o, m) => [.str (Str.ofString "copy"), .int o, .int m]
def pD : Prt → PyData
  | .inl a => .tuple [.str (Str.ofString "sign"), .str ⟨#[a]⟩]
  | .inr (o, m) => .tuple [.str (Str.ofString "copy"), .int o, .int m]
/-- the part from s on -/
def Pt (c : List Nat) (s : Nat) : Prt → Prop
  | .inl a => c[s]? = some a ∧ Bs c s s 0 0
  | .inr (o, m) => 0 < m ∧ Bs c s s m o
theorem Pt.uniq {c : List Nat} {s : Nat} : ∀ {p q : Prt}, Pt c s p → Pt c s q → p = q
  | .inl a, .inl b, h, h' => by have := h.1.symm.trans h'.1; rw [Option.some.inj this]
  | .inl a, .inr (o, m), h, h' => by have := (h.2.uniq h'.2).1; have := h'.1; omega
  | .inr (o, m), .inl a, h, h' => by have := (h.2.uniq h'.2).1; have := h.1; omega
  | .inr (o, m), .inr (o', m'), h, h' => by obtain ⟨e1, e2⟩ := h.2.uniq h'.2; rw [e1, e2]
theorem Pt.len {c : List Nat} {s : Nat} (hs : s < c.length) : ∀ {p : Prt}, Pt c s p → 1 ≤ pLen p ∧ s + pLen p ≤ c.length
  | .inl a, h => ⟨Nat.le_refl _, hs⟩
  | .inr (o, m), h => ⟨h.1, h.2.fit⟩
/-- the parts from s on -/
inductive Fw (c : List Nat) : Nat → List Prt → Prop where
  | nil : Fw c c.length []
  | cons {s : Nat} {p : Prt} {r : List Prt} : s < c.length → Pt c s p → Fw c (s + pLen p) r → Fw c s (p :: r)
theorem Fw.uniq {c : List Nat} {s : Nat} {ps qs : List Prt} (h : Fw c s ps) (h' : Fw c s qs) : ps = qs := by
  induction h generalizing qs with
  | nil =>
    cases h' with
    | nil => rfl
    | cons a _ _ => exact absurd a (Nat.lt_irrefl _)
  | cons a b d ih =>
    cases h' with
    | nil => exact absurd a (Nat.lt_irrefl _)
    | cons a' b' d' =>
      have e := b.uniq b'
      subst e
      rw [ih d']
theorem Fw.all {c : List Nat} {s : Nat} {ps : List Prt} (h : Fw c s ps) : ps.length + s ≤ c.length ∧ ∀ p ∈ ps, ∃ t, t < c.length ∧ Pt c t p := by
  induction h with
  | nil => exact ⟨by simp, fun p m => nomatch m⟩
  | cons a b d ih =>
    have := b.len a
    refine ⟨by rw [List.length_cons]; omega, fun p m => ?_⟩
    rcases List.mem_cons.mp m with rfl | q
    · exact ⟨_, a, b⟩
    · exact ih.2 p q
/-- refs of parts -/
inductive Prts (H : Hp) : List V → List Prt → Prop where
  | nil : Prts H [] []
  | cons {r : Addr} {p : Prt} {vs : List V} {ps : List Prt} : H r = some (.tup (pV p)) → Prts H vs ps → Prts H (.ref r :: vs) (p :: ps)
theorem Prts.kept {H H' : Hp} {vs : List V} {ps : List Prt} (h : Prts H vs ps) (k : ∀ r o, H r = some o → (∃ xs, o = .tup xs) → H' r = some o) : Prts H' vs ps := by
  induction h with
  | nil => exact .nil
  | cons a _ ih => exact .cons (k _ _ a ⟨_, rfl⟩) ih
theorem Prts.snoc {H : Hp} {vs : List V} {ps : List Prt} (h : Prts H vs ps) {r : Addr} {p : Prt} (hr : H r = some (.tup (pV p))) : Prts H (vs ++ [.ref r]) (ps ++ [p]) := by
  induction h with
  | nil => exact .cons hr .nil
  | cons a _ ih => exact .cons a ih
theorem Prts.len {H : Hp} {vs : List V} {ps : List Prt} (h : Prts H vs ps) : vs.length = ps.length := by
  induction h with
  | nil => rfl
  | cons _ _ ih => rw [List.length_cons, List.length_cons, ih]
theorem pV_dp {K : PySem.W.Frag} {H : Hp} {r : Addr} : ∀ {p : Prt}, H r = some (.tup (pV p)) → Dp K H (.ref r) (pD p)
  | .inl _, h => .tup (SqT.of h) (.cons (.str _) (.cons (.str _) .nil))
  | .inr (_, _), h => .tup (SqT.of h) (.cons (.str _) (.cons (.int _) (.cons (.int _) .nil)))
theorem Prts.dp {K : PySem.W.Frag} {H : Hp} {vs : List V} {ps : List Prt} (h : Prts H vs ps) : DpAll K H vs (ps.map pD) := by
  induction h with
  | nil => exact .nil
  | cons a _ ih => exact .cons (pV_dp a) ih
theorem at_iff {x y : Str} {s M j : Nat} (h : s + M < x.length) (hy : cs y = sub (cs x) s (M + 1)) : StrLaws.At x y (s + M) j ↔ j < s ∧ Eqm (cs x) s j (M + 1) := by
  have yl : y.length = M + 1 := by rw [← cs_len, hy, sub_len (by rw [cs_len]; omega)]
  unfold StrLaws.At
  rw [PySem.StrLaws.subAt_eq, yl, beq_iff_eq]
  have e : x.cps.toList = cs x := rfl
  have e' : y.cps.toList = cs y := rfl
  rw [e, e', hy]
  unfold Eqm
  rw [cs_len]
  constructor
  · rintro ⟨h1, h2⟩
    exact ⟨by omega, by omega, h2⟩
  · rintro ⟨h1, h2, h3⟩
    exact ⟨by omega, h3⟩

/-! ### where each sign comes from -/
abbrev Ori := Sum Nat Nat
def oV : Ori → V
  | .inl c => .str ⟨#[c]⟩
  | .inr j => .int j
def orgP : Prt → List Ori
  | .inl c => [.inl c]
  | .inr (o, m) => (List.range m).map fun k => .inr (o + k)
def org (ps : List Prt) : List Ori := ps.flatMap orgP
theorem orgP_len : ∀ p : Prt, (orgP p).length = pLen p
  | .inl _ => rfl
  | .inr (o, m) => by simp [orgP, pLen]
def sumL (ps : List Prt) : Nat := (ps.map pLen).sum
theorem org_len (ps : List Prt) : (org ps).length = sumL ps := by
  induction ps with
  | nil => rfl
  | cons p r ih =>
    show (orgP p ++ org r).length = pLen p + sumL r
    rw [List.length_append, orgP_len, ih]
/-- a text that the origins come to, by a rank that falls -/
structure Sol (t : List Nat) (rk : Nat → Nat) (os : List Ori) : Prop where
  len : os.length = t.length
  sg : ∀ i c : Nat, os[i]? = some (Sum.inl c : Ori) → t[i]? = some c
  cp : ∀ i j : Nat, os[i]? = some (Sum.inr j : Ori) → j < t.length ∧ t[j]? = t[i]? ∧ rk j < rk i
  bd : ∀ i : Nat, i < t.length → rk i < t.length
theorem Sol.put {t : List Nat} {rk : Nat → Nat} {os : List Ori} (h : Sol t rk os) {i c : Nat} (e : t[i]? = some c) : Sol t rk (os.set i (.inl c)) := by
  refine ⟨by rw [List.length_set]; exact h.len, fun k d hk => ?_, fun k j hk => ?_, h.bd⟩
  · rw [List.getElem?_set] at hk
    split at hk
    · next q =>
      subst q
      split at hk
      · cases hk
        exact e
      · cases hk
    · exact h.sg k d hk
  · rw [List.getElem?_set] at hk
    split at hk
    · split at hk <;> cases hk
    · exact h.cp k j hk
theorem sub_at {c : List Nat} {a b k m : Nat} (h : sub c a m = sub c b m) (hk : k < m) : c[a + k]? = c[b + k]? := by
  have := congrArg (fun l : List Nat => l[k]?) h
  simpa [sub, hk] using this
theorem Fw.orgs {c : List Nat} {s : Nat} {ps : List Prt} (h : Fw c s ps) : (org ps).length + s = c.length ∧ ∀ (i : Nat) (o : Ori), (org ps)[i]? = some o → match o with | Sum.inl a => c[s + i]? = some a | Sum.inr j => j < s + i ∧ c[j]? = c[s + i]? := by
  induction h with
  | nil => exact ⟨by simp [org], fun i o hi => by simp [org] at hi⟩
  | @cons s p r a b d ih =>
    have e : org (p :: r) = orgP p ++ org r := rfl
    obtain ⟨ih1, ih2⟩ := ih
    refine ⟨by rw [e, List.length_append, orgP_len]; omega, fun i o hi => ?_⟩
    rw [e] at hi
    rcases Nat.lt_or_ge i (orgP p).length with q | q
    · rw [List.getElem?_append_left q] at hi
      match p, b with
      | .inl x, b =>
        have hi0 : i = 0 := by have : (orgP (.inl x)).length = 1 := rfl; omega
        subst hi0
        cases hi
        exact b.1
      | .inr (o', m), b =>
        rw [orgP_len] at q
        have q : i < m := q
        have e2 : o = .inr (o' + i) := by
          have : ((List.range m).map fun k => (Sum.inr (o' + k) : Ori))[i]? = some (.inr (o' + i)) := by simp [q]
          exact Option.some.inj (hi.symm.trans this)
        subst e2
        obtain ⟨b1, b2, _⟩ := b.2.at' b.1
        exact ⟨by omega, sub_at b2.2 q⟩
    · rw [List.getElem?_append_right q] at hi
      have := ih2 _ _ hi
      rw [orgP_len] at this q
      rw [show s + pLen p + (i - pLen p) = s + i by omega] at this
      exact this
theorem Fw.sol {c : List Nat} {ps : List Prt} (h : Fw c 0 ps) : Sol c id (org ps) := by
  obtain ⟨h1, h2⟩ := h.orgs
  refine ⟨by omega, fun i a hi => ?_, fun i j hi => ?_, fun i hi => hi⟩
  · have := h2 i _ hi
    rwa [Nat.zero_add] at this
  · have := h2 i _ hi
    rw [Nat.zero_add] at this
    have hl := (List.getElem?_eq_some_iff.mp hi).1
    exact ⟨by omega, this.2, this.1⟩
/-- the last places of the parts -/
def lpI (s : Nat) : List Prt → List Int
  | [] => []
  | p :: r => (((s + pLen p : Nat) : Int) - 1) :: lpI (s + pLen p) r
theorem sumL_snoc (ps : List Prt) (p : Prt) : sumL (ps ++ [p]) = sumL ps + pLen p := by simp [sumL]
/-- a place of the parts lies in a part: its beginning, its end -/
theorem Fw.part {c : List Nat} {s : Nat} {ps : List Prt} (h : Fw c s ps) {i : Nat} (h1 : s ≤ i) (h2 : i < c.length) : ∃ t p, Pt c t p ∧ t ≤ i ∧ i < t + pLen p ∧ ((t + pLen p : Nat) : Int) - 1 ∈ lpI s ps ∧ t < c.length := by
  induction h with
  | nil => omega
  | @cons s p r a b d ih =>
    rcases Nat.lt_or_ge i (s + pLen p) with q | q
    · exact ⟨s, p, b, h1, q, List.mem_cons_self, a⟩
    · obtain ⟨t, p', x1, x2, x3, x4, x5⟩ := ih q
      exact ⟨t, p', x1, x2, x3, List.mem_cons_of_mem _ x4, x5⟩
theorem sub_mid {c : List Nat} {a b m k L : Nat} (h : sub c a m = sub c b m) (hk : k + L ≤ m) : sub c (a + k) L = sub c (b + k) L := by
  have := congrArg (fun l : List Nat => (l.drop k).take L) h
  simp only [sub, List.drop_take, List.take_take, List.drop_drop] at this
  rw [Nat.min_eq_left (by omega)] at this
  exact this
/-- each piece stands over the end of a part -/
theorem Fw.touch {c : List Nat} {ps : List Prt} (h : Fw c 0 ps) {w : List Nat} (hw : 1 ≤ w.length) : ∀ {i : Nat}, i + w.length ≤ c.length → sub c i w.length = w → ∃ j z, j + w.length ≤ c.length ∧ sub c j w.length = w ∧ z ∈ lpI 0 ps ∧ (j : Int) ≤ z ∧ z < (j : Int) + w.length := by
  intro i
  induction i using Nat.strongRecOn with
  | _ i ih =>
    intro h1 h2
    obtain ⟨t, p, x1, x2, x3, x4, x5⟩ := h.part (Nat.zero_le i) (show i < c.length by omega)
    rcases Nat.lt_or_ge (t + pLen p) (i + w.length + 1) with q | q
    · exact ⟨i, _, h1, h2, x4, by omega, by omega⟩
    · match p, x1 with
      | .inl a, x1 =>
        have : pLen (.inl a) = 1 := rfl
        omega
      | .inr (o, m), x1 =>
        have e : pLen (.inr (o, m)) = m := rfl
        rw [e] at q x3
        obtain ⟨b1, b2, _⟩ := x1.2.at' x1.1
        have e2 := sub_mid (k := i - t) (L := w.length) b2.2 (by omega)
        rw [show t + (i - t) = i by omega, h2] at e2
        have := b2.1
        exact ih (o + (i - t)) (by omega) (by omega) e2
end L2

set_option Elab.async false
set_option linter.all false
set_option maxRecDepth 100000
set_option maxHeartbeats 1000000
namespace L2
open PySem PySem.Spec PyProof.Rows TL
end L2

set_option Elab.async false
set_option linter.all false
set_option maxRecDepth 100000
set_option maxHeartbeats 1000000
namespace L2
open PySem PySem.Spec PyProof.Rows TL
/-! ### forms whose copies come from earlier places -/
def Pe (c : List Nat) (s : Nat) : Prt → Prop
  | .inl a => c[s]? = some a
  | .inr (o, m) => 0 < m ∧ o < s ∧ Eqm c s o m
inductive Ew (c : List Nat) : Nat → List Prt → Prop where
  | nil : Ew c c.length []
  | cons {s : Nat} {p : Prt} {r : List Prt} : s < c.length → Pe c s p → Ew c (s + pLen p) r → Ew c s (p :: r)
theorem Pe.len {c : List Nat} {s : Nat} (hs : s < c.length) : ∀ {p : Prt}, Pe c s p → 1 ≤ pLen p ∧ s + pLen p ≤ c.length
  | .inl a, h => ⟨Nat.le_refl _, hs⟩
  | .inr (o, m), h => ⟨h.1, h.2.2.1⟩
theorem Ew.orgs {c : List Nat} {s : Nat} {ps : List Prt} (h : Ew c s ps) : (org ps).length + s = c.length ∧ ∀ (i : Nat) (o : Ori), (org ps)[i]? = some o → match o with | Sum.inl a => c[s + i]? = some a | Sum.inr j => j < s + i ∧ c[j]? = c[s + i]? := by
  induction h with
  | nil => exact ⟨by simp [org], fun i o hi => by simp [org] at hi⟩
  | @cons s p r a b d ih =>
    have e : org (p :: r) = orgP p ++ org r := rfl
    obtain ⟨ih1, ih2⟩ := ih
    refine ⟨by rw [e, List.length_append, orgP_len]; omega, fun i o hi => ?_⟩
    rw [e] at hi
    rcases Nat.lt_or_ge i (orgP p).length with q | q
    · rw [List.getElem?_append_left q] at hi
      match p, b with
      | .inl x, b =>
        have hi0 : i = 0 := by have : (orgP (.inl x)).length = 1 := rfl; omega
        subst hi0
        cases hi
        exact b
      | .inr (o', m), b =>
        rw [orgP_len] at q
        have q : i < m := q
        have e2 : o = .inr (o' + i) := by
          have : ((List.range m).map fun k => (Sum.inr (o' + k) : Ori))[i]? = some (.inr (o' + i)) := by simp [q]
          exact Option.some.inj (hi.symm.trans this)
        subst e2
        obtain ⟨_, b1, b2⟩ := b
        exact ⟨by omega, sub_at b2.2 q⟩
    · rw [List.getElem?_append_right q] at hi
      have := ih2 _ _ hi
      rw [orgP_len] at this q
      rw [show s + pLen p + (i - pLen p) = s + i by omega] at this
      exact this
theorem Ew.sol {c : List Nat} {ps : List Prt} (h : Ew c 0 ps) : Sol c id (org ps) := by
  obtain ⟨h1, h2⟩ := h.orgs
  refine ⟨by omega, fun i a hi => ?_, fun i j hi => ?_, fun i hi => hi⟩
  · have := h2 i _ hi
    rwa [Nat.zero_add] at this
  · have := h2 i _ hi
    rw [Nat.zero_add] at this
    have hl := (List.getElem?_eq_some_iff.mp hi).1
    exact ⟨by omega, this.2, this.1⟩
theorem Ew.all {c : List Nat} {s : Nat} {ps : List Prt} (h : Ew c s ps) : ps.length + s ≤ c.length ∧ ∀ p ∈ ps, ∃ t, t < c.length ∧ Pe c t p := by
  induction h with
  | nil => exact ⟨by simp, fun p m => nomatch m⟩
  | cons a b d ih =>
    have := b.len a
    refine ⟨by rw [List.length_cons]; omega, fun p m => ?_⟩
    rcases List.mem_cons.mp m with rfl | q
    · exact ⟨_, a, b⟩
    · exact ih.2 p q
theorem Fw.ew {c : List Nat} {s : Nat} {ps : List Prt} (h : Fw c s ps) : Ew c s ps := by
  induction h with
  | nil => exact .nil
  | @cons s p r a b d ih =>
    refine .cons a ?_ ih
    match p, b with
    | .inl x, b => exact b.1
    | .inr (o, m), b =>
      obtain ⟨h1, h2, _⟩ := b.2.at' b.1
      exact ⟨b.1, h1, h2⟩
end L2

set_option Elab.async false
set_option linter.all false
set_option maxRecDepth 100000
set_option maxHeartbeats 1000000
namespace L2
open PySem PySem.Spec PyProof.Rows TL
end L2

set_option Elab.async false
set_option linter.all false
set_option maxRecDepth 100000
set_option maxHeartbeats 1000000
namespace L2
open PySem PySem.Spec PyProof.Rows TL
theorem snoc_ind {α : Type} {P : List α → Prop} (h0 : P []) (hs : ∀ l a, P l → P (l ++ [a])) (l : List α) : P l := by
  have key : ∀ m : List α, P m.reverse := fun m => by
    induction m with
    | nil => exact h0
    | cons a m ih => rw [List.reverse_cons]; exact hs _ _ ih
  have := key l.reverse
  rwa [List.reverse_reverse] at this
/-! ### rows that name earlier ones -/
abbrev Row := List Ori
def itL (acc : List (List Nat)) : Ori → List Nat
  | .inl c => [c]
  | .inr j => acc.getD j []
def rowT (acc : List (List Nat)) (r : Row) : List Nat := r.flatMap (itL acc)
def txs (rs : List Row) : List (List Nat) := rs.foldl (fun acc r => acc ++ [rowT acc r]) []
theorem txs_snoc (rs : List Row) (r : Row) : txs (rs ++ [r]) = txs rs ++ [rowT (txs rs) r] := by
  unfold txs
  rw [List.foldl_append]
  rfl
theorem txs_len (rs : List Row) : (txs rs).length = rs.length := by
  refine snoc_ind (P := fun rs => (txs rs).length = rs.length) rfl (fun rs r ih => ?_) rs
  rw [txs_snoc, List.length_append, List.length_append, ih]
  rfl
def itOk (n : Nat) : Ori → Prop
  | .inl c => 97 ≤ c ∧ c ≤ 122
  | .inr j => j < n
def rowOk (n : Nat) (r : Row) : Prop := 1 ≤ r.length ∧ r.length ≤ 12 ∧ ∀ o ∈ r, itOk n o
def Rok (rs : List Row) : Prop := ∀ i r, rs[i]? = some r → rowOk i r
def Small (rs : List Row) : Prop := ∀ t ∈ txs rs, t.length ≤ 300
theorem Rok.nil : Rok [] := fun i r h => by simp at h
theorem Rok.snoc {rs : List Row} {r : Row} (h : Rok rs) (hr : rowOk rs.length r) : Rok (rs ++ [r]) := fun i r' h' => by
  rcases Nat.lt_or_ge i rs.length with q | q
  · rw [List.getElem?_append_left q] at h'
    exact h i r' h'
  · rw [List.getElem?_append_right q] at h'
    have hl := (List.getElem?_eq_some_iff.mp h').1
    have : i = rs.length := by simp at hl; omega
    subst this
    simp at h'
    subst h'
    exact hr
theorem Rok.take {rs : List Row} (h : Rok rs) (i : Nat) : Rok (rs.take i) := fun j r hj => by
  rw [List.getElem?_take] at hj
  split at hj
  · exact h j r hj
  · cases hj
theorem Small.snoc {rs : List Row} {r : Row} (h : Small rs) (hr : (rowT (txs rs) r).length ≤ 300) : Small (rs ++ [r]) := fun t ht => by
  rw [txs_snoc] at ht
  rcases List.mem_append.mp ht with q | q
  · exact h t q
  · rw [List.mem_singleton.mp q]
    exact hr
theorem txs_take {rs : List Row} (i : Nat) : txs (rs.take i) = (txs rs).take i := by
  refine snoc_ind (P := fun rs => txs (rs.take i) = (txs rs).take i) (by simp [txs]) (fun rs r ih => ?_) rs
  · rcases Nat.lt_or_ge i (rs.length + 1) with q | q
    · rw [List.take_append_of_le_length (by omega), txs_snoc, List.take_append_of_le_length (by rw [txs_len]; omega), ih]
    · rw [List.take_of_length_le (by simp; omega), List.take_of_length_le (by rw [txs_len]; simp; omega)]
theorem txs_at {rs : List Row} {i : Nat} {r : Row} (h : rs[i]? = some r) : (txs rs)[i]? = some (rowT (txs (rs.take i)) r) := by
  have hl := (List.getElem?_eq_some_iff.mp h).1
  have e : rs.take (i + 1) = rs.take i ++ [r] := by rw [List.take_succ, h]; rfl
  have h1 : txs (rs.take (i + 1)) = (txs rs).take (i + 1) := txs_take (i + 1)
  rw [e, txs_snoc] at h1
  have h2 : ((txs rs).take (i + 1))[i]? = (txs rs)[i]? := by rw [List.getElem?_take]; simp
  rw [← h2, ← h1, List.getElem?_append_right (by rw [txs_len, List.length_take]; omega), txs_len, List.length_take, Nat.min_eq_left (by omega), Nat.sub_self]
  rfl
theorem Small.take {rs : List Row} (h : Small rs) (i : Nat) : Small (rs.take i) := fun t ht => by
  rw [txs_take] at ht
  exact h t (List.mem_of_mem_take ht)
/-- refs of rows -/
inductive Rws (H : Hp) : List V → List Row → Prop where
  | nil : Rws H [] []
  | cons {a : Addr} {r : Row} {vs : List V} {rs : List Row} : H a = some (.tup (r.map oV)) → Rws H vs rs → Rws H (.ref a :: vs) (r :: rs)
theorem Rws.kept {H H' : Hp} {vs : List V} {rs : List Row} (h : Rws H vs rs) (k : ∀ r o, H r = some o → (∃ xs, o = .tup xs) → H' r = some o) : Rws H' vs rs := by
  induction h with
  | nil => exact .nil
  | cons a _ ih => exact .cons (k _ _ a ⟨_, rfl⟩) ih
theorem Rws.same {H H' : Hp} {vs : List V} {rs : List Row} (h : Rws H vs rs) (s : Same H H') : Rws H' vs rs := h.kept fun _ _ e _ => s _ _ e
theorem Rws.snoc {H : Hp} {vs : List V} {rs : List Row} (h : Rws H vs rs) {a : Addr} {r : Row} (hr : H a = some (.tup (r.map oV))) : Rws H (vs ++ [.ref a]) (rs ++ [r]) := by
  induction h with
  | nil => exact .cons hr .nil
  | cons a _ ih => exact .cons a ih
theorem Rws.len {H : Hp} {vs : List V} {rs : List Row} (h : Rws H vs rs) : vs.length = rs.length := by
  induction h with
  | nil => rfl
  | cons _ _ ih => rw [List.length_cons, List.length_cons, ih]
theorem Rws.at' {H : Hp} {vs : List V} {rs : List Row} (h : Rws H vs rs) : ∀ {i : Nat} {v : V}, vs[i]? = some v → ∃ a r, v = .ref a ∧ rs[i]? = some r ∧ H a = some (.tup (r.map oV)) := by
  induction h with
  | nil => intro i v hv; simp at hv
  | @cons a r vs rs hr _ ih =>
    intro i v hv
    cases i with
    | zero =>
      simp at hv
      exact ⟨a, r, hv.symm, rfl, hr⟩
    | succ i =>
      simp at hv
      obtain ⟨r', p', x, b, c⟩ := ih hv
      exact ⟨r', p', x, by simpa using b, c⟩
theorem Small.row {rs : List Row} (h : Small rs) {i : Nat} {r : Row} (hr : rs[i]? = some r) : (rowT (txs (rs.take i)) r).length ≤ 300 := h _ (List.mem_of_getElem? (txs_at hr))
end L2

set_option Elab.async false
set_option linter.all false
set_option maxRecDepth 100000
set_option maxHeartbeats 1000000
namespace L2
open PySem PySem.Spec PyProof.Rows TL
/-! ### cuts are fewest -/
theorem sub_pre {c : List Nat} {n j k : Nat} (h : j + k ≤ n) : sub (c.take n) j k = sub c j k := by
  unfold sub
  rw [List.drop_take, List.take_take, Nat.min_eq_left (by omega)]
theorem eqm_pre {c : List Nat} {n s j k : Nat} (hn : n ≤ c.length) (hj : j ≤ s) : Eqm (c.take n) s j k ↔ Eqm c s j k ∧ s + k ≤ n := by
  unfold Eqm
  rw [List.length_take, Nat.min_eq_left hn]
  constructor
  · rintro ⟨h1, h2⟩
    rw [sub_pre (by omega), sub_pre (by omega)] at h2
    exact ⟨⟨by omega, h2⟩, h1⟩
  · rintro ⟨⟨h1, h2⟩, h3⟩
    refine ⟨h3, ?_⟩
    rw [sub_pre (by omega), sub_pre (by omega)]
    exact h2
/-- one part that goes from i to j -/
def Stp (c : List Nat) (i j : Nat) : Prop := i < j ∧ j ≤ c.length ∧ (j = i + 1 ∨ ∃ o, o < i ∧ Eqm c i o (j - i))
theorem Stp.later {c : List Nat} {i i' j : Nat} (h : Stp c i j) (h1 : i ≤ i') (h2 : i' < j) : Stp c i' j := by
  obtain ⟨a, b, d⟩ := h
  refine ⟨h2, b, ?_⟩
  rcases d with e | ⟨o, ho, he⟩
  · left
    omega
  · right
    refine ⟨o + (i' - i), by omega, by omega, ?_⟩
    have := sub_mid (k := i' - i) (L := j - i') he.2 (by omega)
    rw [show i + (i' - i) = i' by omega] at this
    exact this
theorem Stp.less {c : List Nat} {i j j' : Nat} (h : Stp c i j) (h1 : i < j') (h2 : j' ≤ j) : Stp c i j' := by
  obtain ⟨a, b, d⟩ := h
  refine ⟨h1, by omega, ?_⟩
  rcases d with e | ⟨o, ho, he⟩
  · left
    omega
  · exact .inr ⟨o, ho, he.less (by omega)⟩
theorem Stp.pre {c : List Nat} {n i j : Nat} (hn : n ≤ c.length) (hj : j ≤ n) : Stp (c.take n) i j ↔ Stp c i j := by
  unfold Stp
  rw [List.length_take, Nat.min_eq_left hn]
  constructor
  · rintro ⟨a, b, d⟩
    refine ⟨a, by omega, ?_⟩
    rcases d with e | ⟨o, ho, he⟩
    · exact .inl e
    · exact .inr ⟨o, ho, ((eqm_pre hn (by omega)).mp he).1⟩
  · rintro ⟨a, b, d⟩
    refine ⟨a, hj, ?_⟩
    rcases d with e | ⟨o, ho, he⟩
    · exact .inl e
    · exact .inr ⟨o, ho, (eqm_pre hn (by omega)).mpr ⟨he, by omega⟩⟩
/-- a part of a cut goes as far as any -/
theorem Pt.stp {c : List Nat} {s : Nat} (hs : s < c.length) : ∀ {p : Prt}, Pt c s p → Stp c s (s + pLen p)
  | .inl a, h => ⟨by show s < s + 1; omega, hs, .inl rfl⟩
  | .inr (o, m), h => by
    obtain ⟨h1, h2, _⟩ := h.2.at' h.1
    have := h.2.fit
    refine ⟨by show s < s + m; have := h.1; omega, by show s + m ≤ _; omega, .inr ⟨o, h1, ?_⟩⟩
    show Eqm c s o (s + m - s)
    rw [show s + m - s = m by omega]
    exact h2
theorem Pt.far {c : List Nat} {s : Nat} {j : Nat} : ∀ {p : Prt}, Pt c s p → Stp c s j → j ≤ s + pLen p
  | .inl a, h, st => by
    show j ≤ s + 1
    rcases st.2.2 with e | ⟨o, ho, he⟩
    · omega
    · have := h.2.most o ho _ he
      omega
  | .inr (o, m), h, st => by
    show j ≤ s + m
    rcases st.2.2 with e | ⟨o, ho, he⟩
    · have := h.1
      omega
    · have := h.2.most o ho _ he
      omega
/-- from s on at most so many parts are needed to come to j -/
inductive Rch (c : List Nat) (j : Nat) : Nat → Nat → Prop where
  | done {s k : Nat} : j ≤ s → Rch c j s k
  | go {s t k : Nat} : Stp c s t → Rch c j t k → Rch c j s (k + 1)
theorem Rch.succ {c : List Nat} {j s k : Nat} (h : Rch c j s k) : Rch c j s (k + 1) := by
  induction h with
  | done a => exact .done a
  | go a b ih => exact .go a ih
theorem Rch.more {c : List Nat} {j s k k' : Nat} (h : Rch c j s k) (hk : k ≤ k') : Rch c j s k' := by
  obtain ⟨d, rfl⟩ : ∃ d, k' = k + d := ⟨k' - k, by omega⟩
  clear hk
  induction d with
  | zero => exact h
  | succ d ih => exact ih.succ
theorem Rch.later {c : List Nat} {j s s' k : Nat} (h : Rch c j s k) (hs : s ≤ s') : Rch c j s' k := by
  induction h generalizing s' with
  | done a => exact .done (by omega)
  | @go s t k a b ih =>
    rcases Nat.lt_or_ge s' t with q | q
    · exact .go (a.later hs q) b
    · exact (ih q).succ
/-- the parts of a cut are no more -/
theorem Fw.fewest {c : List Nat} {s : Nat} {ps : List Prt} (h : Fw c s ps) : ∀ {k : Nat}, Rch c c.length s k → ps.length ≤ k := by
  induction h with
  | nil => intro k _; exact Nat.zero_le _
  | @cons s p r a b d ih =>
    intro k hk
    cases hk with
    | done q => omega
    | @go _ t k st hr =>
      have := ih (hr.later (b.far st))
      rw [List.length_cons]
      omega
theorem Fw.rch {c : List Nat} {s : Nat} {ps : List Prt} (h : Fw c s ps) : Rch c c.length s ps.length := by
  induction h with
  | nil => exact .done (Nat.le_refl _)
  | @cons s p r a b d ih => exact .go (b.stp a) ih
theorem Rch.snoc {c : List Nat} {i j s k : Nat} (h : Rch c i s k) (st : Stp c i j) : Rch c j s (k + 1) := by
  induction h with
  | @done s k a =>
    rcases Nat.lt_or_ge s j with q | q
    · exact .go (st.later a q) (.done (Nat.le_refl _))
    · exact .done q
  | go a b ih => exact .go a ih
theorem Rch.pre {c : List Nat} {n j s k : Nat} (hn : n ≤ c.length) (hj : j ≤ n) : Rch (c.take n) j s k ↔ Rch c j s k := by
  constructor
  · intro h
    induction h with
    | done a => exact .done a
    | go a b ih =>
      have := a.2.1
      rw [List.length_take] at this
      exact .go ((Stp.pre hn (by omega)).mp a) ih
  · intro h
    induction h with
    | done a => exact .done a
    | @go s t k a b ih =>
      rcases Nat.lt_or_ge n t with q | q
      · rcases Nat.lt_or_ge s n with q2 | q2
        · exact .go ((Stp.pre hn (Nat.le_refl _)).mpr (a.less q2 (by omega))) (.done hj)
        · exact .done (by omega)
      · exact .go ((Stp.pre hn q).mpr a) ih
/-- the least number of parts to come to j -/
def Lst (c : List Nat) (j k : Nat) : Prop := Rch c j 0 k ∧ ∀ k', Rch c j 0 k' → k ≤ k'
theorem Lst.uniq {c : List Nat} {j k k' : Nat} (h : Lst c j k) (h' : Lst c j k') : k = k' := Nat.le_antisymm (h.2 _ h'.1) (h'.2 _ h.1)
theorem Fw.lst {c : List Nat} {n : Nat} {ps : List Prt} (hn : n ≤ c.length) (h : Fw (c.take n) 0 ps) : Lst c n ps.length := by
  have e : (c.take n).length = n := by rw [List.length_take]; omega
  have h1 := h.rch
  rw [e] at h1
  refine ⟨(Rch.pre hn (Nat.le_refl _)).mp h1, fun k hk => ?_⟩
  refine h.fewest ?_
  rw [e]
  exact (Rch.pre hn (Nat.le_refl _)).mpr hk
theorem Rch.last {c : List Nat} {j s k : Nat} (h : Rch c j s k) : j ≤ s ∨ ∃ i k', s ≤ i ∧ k = k' + 1 ∧ Rch c i s k' ∧ i < j ∧ ∃ t, j ≤ t ∧ Stp c i t := by
  induction h with
  | done a => exact .inl a
  | @go s t k a b ih =>
    rcases Nat.lt_or_ge s j with q2 | q2
    · right
      rcases ih with q | ⟨i, k', h1, h2, h3, h4, h5⟩
      · exact ⟨s, k, Nat.le_refl _, rfl, .done (Nat.le_refl _), q2, t, q, a⟩
      · exact ⟨i, k' + 1, by have := a.1; omega, by omega, .go a h3, h4, h5⟩
    · exact .inl q2
theorem rch_ones {c : List Nat} : ∀ {j : Nat}, j ≤ c.length → Rch c j 0 j
  | 0, _ => .done (Nat.le_refl _)
  | j + 1, h => (rch_ones (by omega)).snoc ⟨by omega, h, .inl rfl⟩
/-- the numbers of parts as they are found: from the places ahead of p, and some steps from p -/
structure DP (c : List Nat) (L : List Nat) (p : Nat) (W : Nat → Prop) : Prop where
  len : L.length = c.length + 1
  zero : L[0]? = some 0
  fro : ∀ j v, 1 ≤ j → L[j]? = some v → v = c.length ∨ ∃ i u, i ≤ p ∧ Stp c i j ∧ L[i]? = some u ∧ v = u + 1
  low : ∀ i j u v, i < p → Stp c i j → L[i]? = some u → L[j]? = some v → v ≤ u + 1
  here : ∀ j u v, W j → L[p]? = some u → L[j]? = some v → v ≤ u + 1
theorem DP.put {c L : List Nat} {p j : Nat} {W : Nat → Prop} (h : DP c L p W) (st : Stp c p j) {u v : Nat} (hu : L[p]? = some u) (hv : L[j]? = some v) : DP c (L.set j (if u + 1 < v then u + 1 else v)) p (fun k => W k ∨ k = j) := by
  have hpj := st.1
  have hjl := (List.getElem?_eq_some_iff.mp hv).1
  have get : ∀ k w, (L.set j (if u + 1 < v then u + 1 else v))[k]? = some w → (k = j ∧ w = (if u + 1 < v then u + 1 else v)) ∨ (k ≠ j ∧ L[k]? = some w) := fun k w hk => by
    rw [List.getElem?_set] at hk
    split at hk
    · next e =>
      exact .inl ⟨e.symm, (Option.some.inj hk).symm⟩
    · next e => exact .inr ⟨fun q => e q.symm, hk⟩
  have keep : ∀ k w, k ≠ j → L[k]? = some w → (L.set j (if u + 1 < v then u + 1 else v))[k]? = some w := fun k w hk e => by
    rw [List.getElem?_set, if_neg (fun q => hk q.symm)]
    exact e
  refine ⟨by rw [List.length_set]; exact h.len, keep _ _ (by omega) h.zero, fun k w hk e => ?_, fun i k u' w hi sk hu' e => ?_, fun k u' w hW hu' e => ?_⟩
  · rcases get k w e with ⟨rfl, rfl⟩ | ⟨ne, e⟩
    · by_cases c0 : u + 1 < v
      · exact .inr ⟨p, u, Nat.le_refl _, st, keep _ _ (by omega) hu, if_pos c0⟩
      · rcases h.fro k v hk hv with q | ⟨i, u', a1, a2, a3, a4⟩
        · exact .inl ((if_neg c0).trans q)
        · exact .inr ⟨i, u', a1, a2, keep _ _ (by have := a2.1; omega) a3, (if_neg c0).trans a4⟩
    · rcases h.fro k w hk e with q | ⟨i, u', a1, a2, a3, a4⟩
      · exact .inl q
      · exact .inr ⟨i, u', a1, a2, keep _ _ (by omega) a3, a4⟩
  · have hui : L[i]? = some u' := by
      rcases get i u' hu' with ⟨q, _⟩ | ⟨_, q⟩
      · omega
      · exact q
    rcases get k w e with ⟨rfl, rfl⟩ | ⟨ne, e⟩
    · have := h.low i k u' v hi sk hui hv
      split <;> omega
    · exact h.low i k u' w hi sk hui e
  · have hup : u' = u := by
      rcases get p u' hu' with ⟨q, _⟩ | ⟨_, q⟩
      · omega
      · rw [hu] at q
        exact (Option.some.inj q).symm
    subst hup
    rcases get k w e with ⟨rfl, rfl⟩ | ⟨ne, e⟩
    · split <;> omega
    · rcases hW with q | q
      · exact h.here k u' w q hu e
      · exact absurd q ne
theorem DP.mono {c L : List Nat} {p : Nat} {W W' : Nat → Prop} (h : DP c L p W) (hw : ∀ j, W' j → W j) : DP c L p W' := ⟨h.len, h.zero, h.fro, h.low, fun j u v w => h.here j u v (hw j w)⟩
theorem DP.next {c L : List Nat} {p : Nat} {W : Nat → Prop} (h : DP c L p W) (hw : ∀ j, Stp c p j → W j) : DP c L (p + 1) (fun _ => False) := by
  refine ⟨h.len, h.zero, fun j v hj e => ?_, fun i j u v hi st hu e => ?_, fun _ _ _ w => w.elim⟩
  · rcases h.fro j v hj e with q | ⟨i, u, a1, a2, a3, a4⟩
    · exact .inl q
    · exact .inr ⟨i, u, by omega, a2, a3, a4⟩
  · rcases Nat.lt_or_ge i p with q | q
    · exact h.low i j u v q st hu e
    · have : i = p := by omega
      subst this
      exact h.here j u v (hw j st) hu e
theorem DP.start (c : List Nat) : DP c (0 :: List.replicate c.length c.length) 0 (fun _ => False) := by
  refine ⟨by simp, rfl, fun j v hj e => ?_, fun i j u v hi => by omega, fun _ _ _ w => w.elim⟩
  obtain ⟨k, rfl⟩ : ∃ k, j = k + 1 := ⟨j - 1, by omega⟩
  rw [List.getElem?_cons_succ, List.getElem?_replicate] at e
  split at e
  · exact .inl (Option.some.inj e).symm
  · cases e
theorem DP.lst {c L : List Nat} (h : DP c L c.length (fun _ => False)) : ∀ (j v : Nat), L[j]? = some v → Lst c j v := by
  intro j
  induction j using Nat.strongRecOn with
  | _ j ih =>
    intro v hv
    have hjl := (List.getElem?_eq_some_iff.mp hv).1
    rw [h.len] at hjl
    rcases Nat.eq_zero_or_pos j with e | e
    · subst e
      rw [h.zero] at hv
      cases hv
      exact ⟨.done (Nat.le_refl _), fun k _ => Nat.zero_le _⟩
    · refine ⟨?_, fun k hk => ?_⟩
      · rcases h.fro j v e hv with q | ⟨i, u, a1, a2, a3, a4⟩
        · rw [q]
          exact (rch_ones (by omega)).more (by omega)
        · rw [a4]
          exact (ih i a2.1 u a3).1.snoc a2
      · rcases hk.last with q | ⟨i, k', _, h2, h3, h4, t, h5, h6⟩
        · omega
        · have hil : i < L.length := by rw [h.len]; omega
          have hu := List.getElem?_eq_getElem hil
          have st : Stp c i j := h6.less h4 h5
          have := h.low i j _ v (by have := st.2.1; omega) st hu hv
          have := (ih i h4 _ hu).2 _ h3
          omega
end L2

set_option Elab.async false
set_option linter.all false
set_option maxRecDepth 100000
set_option maxHeartbeats 1000000
namespace L2
open PySem PySem.Spec PyProof.Rows TL
/-! ### own classes: methods and making by name -/
structure FunM (K : PySem.W.Frag) (C : Addr) (m qual : Str) (st : Stmt) (ps : List Str) : Prop where
  ex : ∃ (f : Addr) (fd : FuncData), Fun K m qual st f fd ∧ Meth K C m f ∧ Binds K fd ps []
structure FunI (K : PySem.W.Frag) (C : Addr) (qual : Str) (st : Stmt) (ps : List Str) : Prop where
  ex : ∃ (f : Addr) (fd : FuncData), Fun K "__init__" qual st f fd ∧ Mk K C f ∧ Binds K fd ps []
structure CalM (P : Program) (w : World) (K : PySem.W.Frag) (mg : Str → Option Value) (base : Heap) (k : Nat) (C : Addr) (m : Str) (ps : List Str) (sp : Sp) : Prop where
  ex : ∃ (f : Addr) (fd : FuncData), FnOk P w K mg base CX0 k f fd ps sp ∧ Meth K C m f ∧ Binds K fd ps []
structure CalI (P : Program) (w : World) (K : PySem.W.Frag) (mg : Str → Option Value) (base : Heap) (k : Nat) (C : Addr) (ps : List Str) (sp : Sp) : Prop where
  ex : ∃ (f : Addr) (fd : FuncData), FnOk P w K mg base CX0 k f fd ps sp ∧ Mk K C f ∧ Binds K fd ps []
section
variable {P : Program} {w : World} {K : PySem.W.Frag} {mg : Str → Option Value} {base : Heap}
end
section
variable {X : Cx}
end
end L2

set_option Elab.async false
set_option linter.all false
set_option maxRecDepth 100000
set_option maxHeartbeats 1000000
namespace L2
open PySem PySem.Spec PyProof.Rows TL
/-! ### texts that grow -/
/-- the ending of m signs stands at an earlier place, too -/
def kno (c : List Nat) (m : Nat) : Prop := ∃ i, i + m < c.length ∧ sub c i m = sub c (c.length - m) m
theorem kno.less {c : List Nat} {m m' : Nat} (h : kno c m) (hm : m' ≤ m) : kno c m' := by
  obtain ⟨i, h1, h2⟩ := h
  refine ⟨i + (m - m'), by omega, ?_⟩
  have := sub_mid (k := m - m') (L := m') h2 (by omega)
  rw [show c.length - m + (m - m') = c.length - m' by omega] at this
  exact this
def Kn (c : List Nat) (k : Nat) : Prop := (c = [] ∧ k = 0) ∨ (kno c k ∧ ∀ m, kno c m → m ≤ k)
theorem Kn.uniq {c : List Nat} {k k' : Nat} (h : Kn c k) (h' : Kn c k') : k = k' := by
  rcases h with ⟨e, rfl⟩ | ⟨h1, h2⟩
  · rcases h' with ⟨_, rfl⟩ | ⟨⟨i, q, _⟩, _⟩
    · rfl
    · rw [e] at q
      simp at q
  · rcases h' with ⟨e, rfl⟩ | ⟨h3, h4⟩
    · obtain ⟨i, q, _⟩ := h1
      rw [e] at q
      simp at q
    · exact Nat.le_antisymm (h4 _ h1) (h2 _ h3)
theorem Kn.lt {c : List Nat} {k : Nat} (h : Kn c k) : k ≤ c.length := by
  rcases h with ⟨_, rfl⟩ | ⟨⟨i, q, _⟩, _⟩
  · exact Nat.zero_le _
  · omega
theorem sub_app {c : List Nat} {a i m : Nat} (h : i + m ≤ c.length) : sub (c ++ [a]) i m = sub c i m := by
  unfold sub
  rw [List.drop_append_of_le_length (by omega), List.take_append_of_le_length (by rw [List.length_drop]; omega)]
/-- the counts of a text, as whole numbers -/
noncomputable def cnc (c : List Nat) : List Int := (List.range c.length).map fun i => ((cntL c (i + 1) : Nat) : Int)
/-! ### a growing text's fields -/
theorem n1 : ¬ (("signs" : Str) = "unlike") := by decide +kernel
theorem n2 : ¬ (("signs" : Str) = "known") := by decide +kernel
theorem n3 : ¬ (("unlike" : Str) = "known") := by decide +kernel
def gfl (x : Str) (u : Addr) (k : Nat) : List (Str × V) := putF "known" (.int (k : Int)) (putF "unlike" (.ref u) (putF "signs" (.str x) []))
/-- a growing text stands at g, its counts at u -/
structure GAt (C : Addr) (H : Hp) (g u : Addr) (x : Str) : Prop where
  ob : ∃ dx k, H g = some (.ins C dx (gfl x u k)) ∧ Kn (cs x) k
  ul : H u = some (.lst ((cnc (cs x)).map V.int))
theorem GAt.ne {C : Addr} {H : Hp} {g u : Addr} {x : Str} (h : GAt C H g u x) : g ≠ u := by
  obtain ⟨dx, k, h1, _⟩ := h.ob
  intro e
  rw [e, h.ul] at h1
  cases h1
theorem GAt.kept {C : Addr} {H H' : Hp} {g u : Addr} {x : Str} (h : GAt C H g u x) (h1 : ∀ o, H g = some o → H' g = some o) (h2 : ∀ o, H u = some o → H' u = some o) : GAt C H' g u x := by
  obtain ⟨dx, k, a, b⟩ := h.ob
  exact ⟨⟨dx, k, h1 _ a, b⟩, h2 _ h.ul⟩
theorem GAt.same {C : Addr} {H H' : Hp} {g u : Addr} {x : Str} (h : GAt C H g u x) (s : Same H H') : GAt C H' g u x := h.kept (fun o => s _ o) (fun o => s _ o)
end L2

set_option Elab.async false
set_option linter.all false
set_option maxRecDepth 100000
set_option maxHeartbeats 1000000
namespace L2
open PySem PySem.Spec PyProof.Rows TL HT
section
variable {prog : Program} {w : World} {A : Around} {E : Value → Shared → Prop} {s : Shared}
end
section
variable {X : Cx}
end
end L2

set_option Elab.async false
set_option linter.all false
set_option maxRecDepth 100000
set_option maxHeartbeats 1000000
namespace L2
open PySem PySem.Spec PyProof.Rows TL
/-! ### a cut when a sign is put behind -/
theorem eqm_app {c : List Nat} {a s j k : Nat} (h : s + k ≤ c.length) (hj : j ≤ s) : Eqm (c ++ [a]) s j k ↔ Eqm c s j k := by
  unfold Eqm
  rw [sub_app (by omega), sub_app (by omega), List.length_append]
  constructor
  · rintro ⟨_, h2⟩
    exact ⟨h, h2⟩
  · rintro ⟨h1, h2⟩
    exact ⟨by omega, h2⟩
theorem Pt.app {c : List Nat} {a s : Nat} : ∀ {p : Prt}, Pt c s p → s + pLen p < c.length → Pt (c ++ [a]) s p
  | .inl x, h, hs => by
    have hs : s + 1 < c.length := hs
    refine ⟨by rw [List.getElem?_append_left (by omega)]; exact h.1, by rw [List.length_append]; omega, fun j hj k hk => ?_, fun q => by omega, fun _ => rfl⟩
    rcases Nat.eq_zero_or_pos k with e | e
    · omega
    · have := h.2.most j hj 1 ((eqm_app (by omega) (by omega)).mp (hk.less e))
      omega
  | .inr (o, m), h, hs => by
    have hs : s + m < c.length := hs
    obtain ⟨h1, h2, h3⟩ := h.2.at' h.1
    refine ⟨h.1, by rw [List.length_append]; omega, fun j hj k hk => ?_, fun _ => ⟨h1, (eqm_app (by omega) (by omega)).mpr h2, fun j hj q => h3 j hj ((eqm_app (by omega) (by omega)).mp q)⟩, fun q => absurd h.1 (by omega)⟩
    rcases Nat.lt_or_ge m k with q | q
    · have := h.2.most j hj (m + 1) ((eqm_app (by omega) (by omega)).mp (hk.less q))
      omega
    · exact q
theorem Fw.inv {c : List Nat} {s : Nat} {p : Prt} {r : List Prt} (h : Fw c s (p :: r)) : s < c.length ∧ Pt c s p ∧ Fw c (s + pLen p) r := by
  cases h with
  | cons a b d => exact ⟨a, b, d⟩
theorem Fw.last {c : List Nat} {s : Nat} {ps : List Prt} (h : Fw c s ps) (hs : s < c.length) : ∃ t p, ps.getLast? = some p ∧ Pt c t p ∧ t + pLen p = c.length ∧ t < c.length := by
  induction h with
  | nil => omega
  | @cons s p r x b d ih =>
    have hl := b.len x
    rcases Nat.lt_or_ge (s + pLen p) c.length with q | q
    · obtain ⟨t, p', h1, h2, h3, h4⟩ := ih q
      refine ⟨t, p', ?_, h2, h3, h4⟩
      rw [List.getLast?_cons, h1]
      rfl
    · have e : s + pLen p = c.length := by omega
      refine ⟨s, p, ?_, b, e, x⟩
      cases r with
      | nil => rfl
      | cons p2 r2 =>
        have := d.inv.1
        omega
theorem Fw.new {c : List Nat} {a : Nat} {qs : List Prt} (h : Fw (c ++ [a]) 0 qs) (hk : Kn (c ++ [a]) 0) : qs.getLast? = some (.inl a) := by
  have hl : (c ++ [a]).length = c.length + 1 := by simp
  obtain ⟨t, p, h1, h2, h3, h4⟩ := h.last (by omega)
  rw [h1]
  match p, h2, h3 with
  | .inl b, h2, h3 =>
    have e : t = c.length := by have : t + 1 = _ := h3; omega
    have := h2.1
    rw [e, List.getElem?_append_right (Nat.le_refl _), Nat.sub_self] at this
    have e2 : a = b := by simpa using this
    rw [e2]
  | .inr (o, m), h2, h3 =>
    exfalso
    have h3 : t + m = _ := h3
    obtain ⟨x1, x2, _⟩ := h2.2.at' h2.1
    have hm := h2.1
    have e := sub_mid (k := m - 1) (L := 1) x2.2 (by omega)
    have kn : kno (c ++ [a]) 1 := ⟨o + (m - 1), by omega, by rw [show (c ++ [a]).length - 1 = t + (m - 1) by omega]; exact e⟩
    rcases hk with ⟨e, _⟩ | ⟨_, q⟩
    · simp at e
    · have := q 1 kn
      omega
theorem Prts.take {H : Hp} {vs : List V} {ps : List Prt} (h : Prts H vs ps) : ∀ i, Prts H (vs.take i) (ps.take i) := by
  induction h with
  | nil => intro i; simp; exact .nil
  | cons a _ ih =>
    intro i
    cases i with
    | zero => exact .nil
    | succ i => exact .cons a (ih i)
theorem cut_to {us : List V} {n : Nat} : cutV us none (some (n : Int)) = us.take n := by
  unfold cutV
  have e : HT.sIx us.length 0 none = 0 := rfl
  have e2 : HT.sIx us.length us.length (some (n : Int)) = min n us.length := by
    show (if (n : Int) < 0 then ((n : Int) + (us.length : Int)).toNat else min (n : Int).toNat us.length) = _
    rw [if_neg (by omega), Int.toNat_natCast]
  rw [e, e2, List.drop_zero, Nat.sub_zero]
  rcases Nat.le_total n us.length with q | q
  · rw [Nat.min_eq_left q]
  · rw [Nat.min_eq_right q, List.take_length, List.take_of_length_le q]
end L2

set_option Elab.async false
set_option linter.all false
set_option maxRecDepth 100000
set_option maxHeartbeats 1000000
namespace L2
open PySem PySem.Spec PyProof.Rows TL
end L2

set_option Elab.async false
set_option linter.all false
set_option maxRecDepth 100000
set_option maxHeartbeats 1000000
namespace L2
open PySem PySem.Spec PyProof.Rows TL
/-! ### zip of lists and tuples -/
/-- the iterator of a tuple (true) or of a list -/
def SI : Bool → Heap → Addr → Addr → Nat → Prop
  | true, h, i, l, k => IsTupIter h i l k
  | false, h, i, l, k => h.IsListIter i l k
def SC : Bool → Heap → Addr → Array Value → Prop
  | true, h, l, xs => IsTup h l xs
  | false, h, l, xs => h.IsList l xs
theorem SI.at' {b : Bool} {h h' : Heap} {i l : Addr} {k : Nat} (x : SI b h i l k) (e : ∀ o, h.get? i = some o → h'.get? i = some o) : SI b h' i l k := by
  cases b with
  | true => obtain ⟨o, ho, r⟩ := x; exact ⟨o, e o ho, r⟩
  | false => obtain ⟨o, ho, r⟩ := x; exact ⟨o, e o ho, r⟩
theorem SI.ex {b : Bool} {h : Heap} {i l : Addr} {k : Nat} (x : SI b h i l k) : ∃ o, h.get? i = some o ∧ o.data = .fields #[.ref l, .int k 0] := by
  cases b with
  | true => obtain ⟨o, ho, _, d⟩ := x; exact ⟨o, ho, d⟩
  | false => obtain ⟨o, ho, _, d⟩ := x; exact ⟨o, ho, d⟩
theorem SC.at' {b : Bool} {h h' : Heap} {l : Addr} {xs : Array Value} (x : SC b h l xs) (e : ∀ o, h.get? l = some o → h'.get? l = some o) : SC b h' l xs := by
  cases b with
  | true => obtain ⟨o, ho, r⟩ := x; exact ⟨o, e o ho, r⟩
  | false => obtain ⟨o, ho, r⟩ := x; exact ⟨o, e o ho, r⟩
section
variable {prog : Program} {w : World} {A : Around} {E : Value → Shared → Prop} {s : Shared}
theorem nextS_item {b : Bool} {i l : Addr} {k : Nat} {xs : Array Value} {x : Value} {Q : Value → Shared → Prop} (hi : SI b s.heap i l k) (hl : SC b s.heap l xs) (hx : xs[k]? = some x)
    (hQ : ∀ h', SI b h' i l (k + 1) → Heap.SameBut i s.heap h' → Q x { s with heap := h' }) : wpAny (model prog w) A (Builtin.SmallTypes.nextOf (.ref i)) Q E s := by
  cases b with
  | false => exact wpAny_nextOf_list_item hi hl hx hQ
  | true =>
    obtain ⟨o, ho, hc, hd⟩ := id hi
    obtain ⟨ol, hol, _, nl, hdl⟩ := hl
    have ty : s.TypeIs (.ref i) "tuple_iterator" := ⟨o, ho, hc⟩
    unfold Builtin.SmallTypes.nextOf
    refine wpAny_bind (wpAny_callSpecial?_slot (name := Str.ofString "__next__") ty F.slot_tuple_iterator_next (wpAny_call_entry F.slot_tuple_iterator_next ty F.entry_tuple_iterator_next ?_ (F.args_tuple_iterator_next_1 _)))
    show wpAny _ _ (field (.ref i) 0 >>= _) _ _ s
    refine wpAny_bind (wpAny_field ho hd (x := .ref l) rfl ?_)
    show wpAny _ _ (if (Value.ref l == Value.none) = true then _ else (field (.ref i) 1 >>= _)) _ _ s
    rw [if_neg (by exact Bool.false_ne_true)]
    refine wpAny_bind (wpAny_field ho hd (x := .int k 0) rfl (wpAny_bind (wpAny_seqItems hol hdl ?_)))
    simp only [Int.toNat_natCast, hx]
    refine wpAny_bind (wpAny_setField ho hd (by simp) (wpAny_pure ⟨x, rfl, wpAny_pure (hQ _ ⟨_, Heap.get?_update_self _ ho (Obj.isFreed_of_fields (Obj.data_mapFields hd _)), (Obj.cls_mapFields ..).trans hc, ?_⟩ (Heap.SameBut.update ..))⟩))
    rw [Obj.data_mapFields hd]
    simp [rawInt]
theorem nextS_end {b : Bool} {i l : Addr} {k : Nat} {xs : Array Value} {Q : Value → Shared → Prop} (hh : A.handled = none) (hi : SI b s.heap i l k) (hl : SC b s.heap l xs) (hx : xs[k]? = none)
    (hE : ∀ h' e, Heap.ExtBut i s.heap h' → (∃ o, h'.get? e = some o ∧ o.cls = .type "StopIteration") → E (.ref e) { s with heap := h' }) : wpAny (model prog w) A (Builtin.SmallTypes.nextOf (.ref i)) Q E s := by
  cases b with
  | false => exact wpAny_nextOf_list_end hh hi hl hx hE
  | true =>
    obtain ⟨o, ho, hc, hd⟩ := id hi
    obtain ⟨ol, hol, _, nl, hdl⟩ := hl
    have ty : s.TypeIs (.ref i) "tuple_iterator" := ⟨o, ho, hc⟩
    unfold Builtin.SmallTypes.nextOf
    refine wpAny_bind (wpAny_callSpecial?_slot (name := Str.ofString "__next__") ty F.slot_tuple_iterator_next (wpAny_call_entry F.slot_tuple_iterator_next ty F.entry_tuple_iterator_next ?_ (F.args_tuple_iterator_next_1 _)))
    show wpAny _ _ (field (.ref i) 0 >>= _) _ _ s
    refine wpAny_bind (wpAny_field ho hd (x := .ref l) rfl ?_)
    show wpAny _ _ (if (Value.ref l == Value.none) = true then _ else (field (.ref i) 1 >>= _)) _ _ s
    rw [if_neg (by exact Bool.false_ne_true)]
    refine wpAny_bind (wpAny_field ho hd (x := .int k 0) rfl (wpAny_bind (wpAny_seqItems hol hdl ?_)))
    simp only [Int.toNat_natCast, hx]
    refine wpAny_bind (wpAny_rule (wpAny_bind (wpAny_setField ho hd (by simp) ?_)))
    show wpAny _ _ (newExc (.type "StopIteration") [] >>= _) _ _ _
    refine wpAny_bind ?_
    simp only [newExc, newTuple]
    refine wpAny_bind (wpAny_newObj_type (wpAny_bind (m := firstArgMember _ _) (wpAny_of_eq (a := Value.none) (by first | rfl | (simp only [firstArgMember]; rfl)) (wpAny_newObj_type ?_ (by size_fits)))) (by size_fits))
    simp only [raiseNew]
    refine wpAny_bind (wpAny_handled ?_); first | rw [show A.in1.handled = none from hh] | rw [hh]
    exact wpAny_bind (wpAny_pure (wpAny_throw (hE _ _ (((Heap.SameBut.update ..).extBut.push _).push _) ⟨_, Heap.get?_push_size _ rfl, rfl⟩)))
/-- a turn of zip -/
theorem zipS_next {b1 b2 : Bool} {z TI TO i1 i2 l1 l2 : Addr} {k : Nat} {xs ys : Array Value} {x y u v : Value} {Q : Value → Shared → Prop} (D : ZipApart z TI TO i1 i2 l1 l2)
    (hz : IsZip s.heap z TI TO .none) (hTI : IsPair s.heap TI (.ref i1) (.ref i2)) (hTO : IsPair s.heap TO u v) (h1 : SI b1 s.heap i1 l1 k) (h2 : SI b2 s.heap i2 l2 k) (c1 : SC b1 s.heap l1 xs) (c2 : SC b2 s.heap l2 ys) (hx : xs[k]? = some x) (hy : ys[k]? = some y)
    (hQ : ∀ h', IsZip h' z TI TO (rawInt s.heap.objs.size) → IsPair h' TO x y → SI b1 h' i1 l1 (k + 1) → SI b2 h' i2 l2 (k + 1) → IsPair h' s.heap.objs.size x y → h'.objs.size = s.heap.objs.size + 1 →
      (∀ c o, c ≠ z → c ≠ TO → c ≠ i1 → c ≠ i2 → s.heap.get? c = some o → h'.get? c = some o) → Q (.ref s.heap.objs.size) { s with heap := h' }) :
    wpAny (model prog w) A (Builtin.«zip.__next__» ⟨[.ref z], []⟩) (fun fin s' => ∃ v, fin = .done (.ret v) ∧ Q v s') E s := by
  show wpAny _ _ (field (.ref z) 2 >>= _) _ _ _; refine wpAny_bind (wpAny_field hz rfl (x := .bool false) rfl ?_)
  show wpAny _ _ (field (.ref z) 3 >>= _) _ _ _; refine wpAny_bind (wpAny_field hz rfl (x := .ref TI) rfl (wpAny_bind (wpAny_seqItems hTI rfl ?_)))
  show wpAny _ _ (Builtin.SmallTypes.ownedTupleIsFree (.ref z) >>= _) _ _ _; refine wpAny_bind ?_; unfold Builtin.SmallTypes.ownedTupleIsFree
  refine wpAny_bind (wpAny_field hz rfl (x := .none) rfl (wpAny_pure ?_)); simp only [if_true]
  refine wpAny_bind (wpAny_rule (wpAny_bind (wpAny_field hz rfl (x := .ref TO) rfl (wpAny_bind (wpAny_setField_rec hz (by simp) fun ha za sa => ?_)))))
  replace za : IsZip ha z TI TO .ellipsis := za
  have ka : ∀ c o, c ≠ z → s.heap.get? c = some o → ha.get? c = some o := fun c o n e => sa.extBut c o n e
  refine wpAny_bind ?_; simp only [List.zipIdx_cons, List.zipIdx_nil, List.forIn_cons, List.forIn_nil]
  refine wpAny_bind (wpAny_bind (wpAny_onRaise ?_)); show wpAny _ _ (Builtin.SmallTypes.nextOf (.ref i1) >>= _) _ _ _
  refine wpAny_bind (nextS_item (h1.at' fun o e => ka _ o D.i1z e) (c1.at' fun o e => ka _ o D.l1z e) hx fun hb n1 sb => wpAny_pure ?_)
  have kb : ∀ c o, c ≠ z → c ≠ i1 → s.heap.get? c = some o → hb.get? c = some o := fun c o n m e => sb.extBut c o m (ka c o n e)
  have tb : IsPair hb TO u v := kb _ _ D.TOz D.TOi1 hTO
  refine wpAny_bind (wpAny_seqItems tb rfl (wpAny_bind (wpAny_updateSeq_pair tb fun hc tc sc => ?_)))
  replace tc : IsPair hc TO x v := tc
  have kc : ∀ c o, c ≠ TO → hb.get? c = some o → hc.get? c = some o := fun c o n e => sc.extBut c o n e
  refine wpAny_bind (wpAny_letGo (wpAny_pure ?_))
  refine wpAny_bind (wpAny_bind (wpAny_onRaise ?_)); show wpAny _ _ (Builtin.SmallTypes.nextOf (.ref i2) >>= _) _ _ _
  refine wpAny_bind (nextS_item (h2.at' fun o e => kc _ o D.TOi2.symm (kb _ o D.i2z D.i12.symm e)) (c2.at' fun o e => kc _ o D.l2TO (kb _ o D.l2z D.l2i1 e)) hy fun hd n2 sd => wpAny_pure ?_)
  have td : IsPair hd TO x v := sd.extBut _ _ D.TOi2 tc
  refine wpAny_bind (wpAny_seqItems td rfl (wpAny_bind (wpAny_updateSeq_pair td fun he te se => ?_)))
  replace te : IsPair he TO x y := te
  refine wpAny_bind (wpAny_letGo (wpAny_pure (wpAny_pure (wpAny_bind (wpAny_seqItems te rfl (wpAny_bind (wpAny_newTuple ?_)))))))
  have siz : he.objs.size = s.heap.objs.size := by rw [se.1, sd.1, sc.1, sb.1, sa.1]
  have ke : ∀ c o, c ≠ TO → c ≠ i2 → hc.get? c = some o → he.get? c = some o := fun c o n m e => se.extBut c o n (sd.extBut c o m e)
  have ze : IsZip he z TI TO .ellipsis := ke _ _ D.TOz.symm D.i2z.symm (kc _ _ D.TOz.symm (sb.extBut _ _ D.i1z.symm za))
  have n1e : SI b1 he i1 l1 (k + 1) := n1.at' fun o e => ke _ o D.TOi1.symm D.i12 (kc _ o D.TOi1.symm e)
  have n2e : SI b2 he i2 l2 (k + 1) := n2.at' fun o e => se.extBut _ o D.TOi2.symm e
  have hzlt : z < he.objs.size := Heap.lt_size ze
  show wpAny _ _ (Builtin.SmallTypes.ownedTupleHandOut (.ref z) (.ref he.objs.size) >>= _) _ _ _; refine wpAny_bind ?_; unfold Builtin.SmallTypes.ownedTupleHandOut
  have zf : IsZip (he.push { cls := .type "tuple", data := .seq #[x, y] }) z TI TO .ellipsis := Heap.get?_push_of_some _ ze
  refine wpAny_bind (wpAny_setField_rec zf (by simp) fun hg zg sg => ?_)
  replace zg : IsZip hg z TI TO (rawInt he.objs.size) := zg
  refine wpAny_setField_rec zg (by simp) fun hj zj sj => ?_
  replace zj : IsZip hj z TI TO (rawInt he.objs.size) := zj
  have up : ∀ c o, c ≠ z → he.get? c = some o → hj.get? c = some o := fun c o n e => sj.extBut _ _ n (sg.extBut _ _ n (Heap.get?_push_of_some _ e))
  have tj : IsPair hj he.objs.size x y := sj.extBut _ _ (Nat.ne_of_gt hzlt) (sg.extBut _ _ (Nat.ne_of_gt hzlt) (Heap.get?_push_size _ rfl))
  have sizj : hj.objs.size = he.objs.size + 1 := by rw [sj.1, sg.1, Heap.size_push]
  rw [siz] at zj tj sizj
  refine wpAny_pure ⟨_, rfl, ?_⟩; show Q (.ref he.objs.size) _; rw [siz]
  exact hQ hj zj (up _ _ D.TOz te) (n1e.at' fun o e => up _ o D.i1z e) (n2e.at' fun o e => up _ o D.i2z e) tj sizj fun c o m1 m2 m3 m4 e => up c o m1 (ke c o m2 m4 (kc c o m2 (kb c o m1 m3 e)))
theorem zipS_end {b1 b2 : Bool} {z TI TO i1 i2 l1 l2 : Addr} {k : Nat} {xs ys : Array Value} {u v : Value} {Q : Fin → Shared → Prop} (hh : A.handled = none) (D : ZipApart z TI TO i1 i2 l1 l2)
    (hz : IsZip s.heap z TI TO .none) (hTI : IsPair s.heap TI (.ref i1) (.ref i2)) (hTO : IsPair s.heap TO u v) (h1 : SI b1 s.heap i1 l1 k) (h2 : SI b2 s.heap i2 l2 k) (c1 : SC b1 s.heap l1 xs) (c2 : SC b2 s.heap l2 ys) (hend : xs[k]? = none ∨ ys[k]? = none)
    (hE : ∀ h' e, (∀ c o, c ≠ z → c ≠ TO → c ≠ i1 → c ≠ i2 → s.heap.get? c = some o → h'.get? c = some o) → (∃ o, h'.get? e = some o ∧ o.cls = .type "StopIteration") → E (.ref e) { s with heap := h' }) :
    wpAny (model prog w) A (Builtin.«zip.__next__» ⟨[.ref z], []⟩) Q E s := by
  show wpAny _ _ (field (.ref z) 2 >>= _) _ _ _; refine wpAny_bind (wpAny_field hz rfl (x := .bool false) rfl ?_)
  show wpAny _ _ (field (.ref z) 3 >>= _) _ _ _; refine wpAny_bind (wpAny_field hz rfl (x := .ref TI) rfl (wpAny_bind (wpAny_seqItems hTI rfl ?_)))
  show wpAny _ _ (Builtin.SmallTypes.ownedTupleIsFree (.ref z) >>= _) _ _ _; refine wpAny_bind ?_; unfold Builtin.SmallTypes.ownedTupleIsFree
  refine wpAny_bind (wpAny_field hz rfl (x := .none) rfl (wpAny_pure ?_)); simp only [if_true]
  refine wpAny_bind (wpAny_rule (wpAny_bind (wpAny_field hz rfl (x := .ref TO) rfl (wpAny_bind (wpAny_setField_rec hz (by simp) fun ha za sa => ?_)))))
  replace za : IsZip ha z TI TO .ellipsis := za
  have ka : ∀ c o, c ≠ z → s.heap.get? c = some o → ha.get? c = some o := fun c o n e => sa.extBut c o n e
  have out : ∀ (hq : Heap) (e : Addr), IsZip hq z TI TO .ellipsis → (∃ o, hq.get? e = some o ∧ o.cls = .type "StopIteration") → e ≠ z := fun hq e zq ⟨o, ho, hc⟩ q => by
    subst q; rw [zq] at ho; cases ho; simp at hc
  refine wpAny_bind ?_; simp only [List.zipIdx_cons, List.zipIdx_nil, List.forIn_cons, List.forIn_nil]
  refine wpAny_bind (wpAny_bind (wpAny_onRaise ?_)); show wpAny _ _ (Builtin.SmallTypes.nextOf (.ref i1) >>= _) _ _ _
  cases hx : xs[k]? with
  | none =>
    refine wpAny_bind (nextS_end hh (h1.at' fun o e => ka _ o D.i1z e) (c1.at' fun o e => ka _ o D.l1z e) hx fun hb e eb he => ?_)
    have zb : IsZip hb z TI TO .ellipsis := eb _ _ D.i1z.symm za
    have nez := out hb e zb he
    obtain ⟨oe, hoe, hce⟩ := he
    exact wpAny_setField_rec zb (by simp) fun hc _ sc => hE hc e (fun c o m1 _ m3 _ q => sc.extBut _ _ m1 (eb _ _ m3 (ka c o m1 q))) ⟨oe, sc.extBut _ _ nez hoe, hce⟩
  | some x =>
    have hy : ys[k]? = none := by
      rcases hend with q | q
      · rw [hx] at q; cases q
      · exact q
    refine wpAny_bind (nextS_item (h1.at' fun o e => ka _ o D.i1z e) (c1.at' fun o e => ka _ o D.l1z e) hx fun hb n1 sb => wpAny_pure ?_)
    have kb : ∀ c o, c ≠ z → c ≠ i1 → s.heap.get? c = some o → hb.get? c = some o := fun c o n m e => sb.extBut c o m (ka c o n e)
    have tb : IsPair hb TO u v := kb _ _ D.TOz D.TOi1 hTO
    refine wpAny_bind (wpAny_seqItems tb rfl (wpAny_bind (wpAny_updateSeq_pair tb fun hc tc sc => ?_)))
    have kc : ∀ c o, c ≠ TO → hb.get? c = some o → hc.get? c = some o := fun c o n e => sc.extBut c o n e
    refine wpAny_bind (wpAny_letGo (wpAny_pure ?_))
    refine wpAny_bind (wpAny_bind (wpAny_onRaise ?_)); show wpAny _ _ (Builtin.SmallTypes.nextOf (.ref i2) >>= _) _ _ _
    refine wpAny_bind (nextS_end hh (h2.at' fun o e => kc _ o D.TOi2.symm (kb _ o D.i2z D.i12.symm e)) (c2.at' fun o e => kc _ o D.l2TO (kb _ o D.l2z D.l2i1 e)) hy fun hd e ed he => ?_)
    have zd : IsZip hd z TI TO .ellipsis := ed _ _ D.i2z.symm (kc _ _ D.TOz.symm (sb.extBut _ _ D.i1z.symm za))
    have nez := out hd e zd he
    obtain ⟨oe, hoe, hce⟩ := he
    exact wpAny_setField_rec zd (by simp) fun hf _ sf => hE hf e (fun c o m1 m2 m3 m4 q => sf.extBut _ _ m1 (ed _ _ m4 (kc c o m2 (kb c o m1 m3 q)))) ⟨oe, sf.extBut _ _ nez hoe, hce⟩
end
end L2

set_option Elab.async false
set_option linter.all false
set_option maxRecDepth 100000
set_option maxHeartbeats 1000000
namespace L2
open PySem PySem.Spec PyProof.Rows TL
def itn (b : Bool) : String := if b then "tuple_iterator" else "list_iterator"
abbrev itO (b : Bool) (l : Addr) : Obj := { cls := .type (itn b), data := .fields #[.ref l, .int 0 0] }
section
variable {prog : Program} {w : World} {A : Around} {E : Value → Shared → Prop} {s : Shared}
theorem pyIterS {b : Bool} {l : Addr} {xs : Array Value} {Q : Value → Shared → Prop} (c : SC b s.heap l xs) (hQ : Q (.ref s.heap.objs.size) { s with heap := s.heap.push (itO b l) }) : wpAny (model prog w) A (pyIter (.ref l)) Q E s := by
  cases b with
  | true => exact wpAny_pyIter_tuple (show s.heap.IsTuple l xs from c) hQ
  | false => exact wpAny_pyIter_list c hQ
end
abbrev zs2 (h : Heap) (b1 b2 : Bool) (l1 l2 : Addr) : Heap := (h.push (itO b1 l1)).push (itO b2 l2)
abbrev zs3 (h : Heap) (b1 b2 : Bool) (l1 l2 : Addr) : Heap := (zs2 h b1 b2 l1 l2).push { cls := .type "tuple", data := .seq #[.ref h.objs.size, .ref (h.push (itO b1 l1)).objs.size] }
abbrev zs4 (h : Heap) (b1 b2 : Bool) (l1 l2 : Addr) : Heap := (zs3 h b1 b2 l1 l2).push { cls := .type "tuple", data := .seq #[.none, .none] }
abbrev zs5 (h : Heap) (b1 b2 : Bool) (l1 l2 : Addr) : Heap := (zs4 h b1 b2 l1 l2).push { cls := .type "zip", data := .fields #[.none, .bool false, .bool false, .ref (zs2 h b1 b2 l1 l2).objs.size, .ref (zs3 h b1 b2 l1 l2).objs.size] }
theorem meets_zipS (b1 b2 : Bool) (l1 l2 : Addr) (xs ys : Array Value) :
    Meets (Builtin.«zip.__new__» ⟨[.type "zip", .ref l1, .ref l2], []⟩) (fun _ R s => SC b1 s.heap l1 xs ∧ SC b2 s.heap l2 ys ∧ R (.ok (.ret (.ref (zs4 s.heap b1 b2 l1 l2).objs.size))) { s with heap := zs5 s.heap b1 b2 l1 l2 }) :=
  .of_wp fun prog w A R s h => by
    obtain ⟨hp, g, d, tk, os⟩ := s; obtain ⟨c1, c2, h⟩ := h
    have hsub := sub_zip
    have k1 : SC b1 (Shared.heap ⟨hp, g, d, tk, os⟩) l1 xs := c1
    have k2 : SC b2 (Shared.heap ⟨hp.push (itO b1 l1), g, d, tk, os⟩) l2 ys := SC.at' c2 fun o e => Heap.get?_push_of_some _ e
    wp_walk using pyIterS k1, pyIterS k2
    exact ⟨_, rfl, h⟩
section
variable {prog : Program} {w : World} {A : Around} {E : Value → Shared → Prop} {s : Shared}
theorem SI.new {b : Bool} {h : Heap} {i l : Addr} (e : h.get? i = some (itO b l)) : SI b h i l 0 := by
  cases b with
  | true => exact ⟨_, e, rfl, rfl⟩
  | false => exact ⟨_, e, rfl, rfl⟩
theorem callZ {b1 b2 : Bool} {l1 l2 : Addr} {xs ys : Array Value} {Q : Value → Shared → Prop} (c1 : SC b1 s.heap l1 xs) (c2 : SC b2 s.heap l2 ys)
    (h : ∀ h', IsZip h' (s.heap.objs.size + 4) (s.heap.objs.size + 2) (s.heap.objs.size + 3) .none → IsPair h' (s.heap.objs.size + 2) (.ref s.heap.objs.size) (.ref (s.heap.objs.size + 1)) →
      IsPair h' (s.heap.objs.size + 3) .none .none → SI b1 h' s.heap.objs.size l1 0 → SI b2 h' (s.heap.objs.size + 1) l2 0 → (∀ c o, s.heap.get? c = some o → h'.get? c = some o) → Q (.ref (s.heap.objs.size + 4)) { s with heap := h' }) :
    wpAny (model prog w) A (call (.type "zip") [.ref l1, .ref l2]) Q E s := by
  refine callType_new F.called_zip (by decide) (F.typeCall_zip_2 _ _) (F.newCall_zip_2 _ _) (fun obj => F.args_object_init_3 obj _ _) F.entry_zip_new (meets_zipS b1 b2 l1 l2 xs ys) ⟨c1, c2, ?_⟩
  have z1 : (s.heap.push (itO b1 l1)).objs.size = s.heap.objs.size + 1 := Heap.size_push ..
  have z2 : (zs2 s.heap b1 b2 l1 l2).objs.size = s.heap.objs.size + 2 := by rw [Heap.size_push, z1]
  have z3 : (zs3 s.heap b1 b2 l1 l2).objs.size = s.heap.objs.size + 3 := by rw [Heap.size_push, z2]
  have z4 : (zs4 s.heap b1 b2 l1 l2).objs.size = s.heap.objs.size + 4 := by rw [Heap.size_push, z3]
  have p : ∀ {hh : Heap} {o : Obj} {c : Addr} {q : Obj}, hh.get? c = some q → (hh.push o).get? c = some q := fun e => Heap.get?_push_of_some _ e
  have g5 : (zs5 s.heap b1 b2 l1 l2).get? (zs4 s.heap b1 b2 l1 l2).objs.size = some _ := Heap.get?_push_size _ rfl
  have g4 : (zs5 s.heap b1 b2 l1 l2).get? (zs3 s.heap b1 b2 l1 l2).objs.size = some _ := p (Heap.get?_push_size _ rfl)
  have g3 : (zs5 s.heap b1 b2 l1 l2).get? (zs2 s.heap b1 b2 l1 l2).objs.size = some _ := p (p (Heap.get?_push_size _ rfl))
  have g2 : (zs5 s.heap b1 b2 l1 l2).get? (s.heap.push (itO b1 l1)).objs.size = some (itO b2 l2) := p (p (p (Heap.get?_push_size _ rfl)))
  have g1 : (zs5 s.heap b1 b2 l1 l2).get? s.heap.objs.size = some (itO b1 l1) := p (p (p (p (Heap.get?_push_size _ rfl))))
  show _ ∧ _
  rw [z2, z3, z4] at g5
  rw [z1, z2] at g3
  rw [z3] at g4
  rw [z1] at g2
  rw [z4]
  exact ⟨⟨_, g5, rfl⟩, h _ g5 g3 g4 (SI.new g1) (SI.new g2) fun c o x => p (p (p (p (p x))))⟩
theorem nextZ_item {b1 b2 : Bool} {z TI TO i1 i2 l1 l2 : Addr} {k : Nat} {xs ys : Array Value} {x y u v : Value} {Q : Option Value → Shared → Prop} (D : ZipApart z TI TO i1 i2 l1 l2)
    (hz : IsZip s.heap z TI TO .none) (hTI : IsPair s.heap TI (.ref i1) (.ref i2)) (hTO : IsPair s.heap TO u v) (h1 : SI b1 s.heap i1 l1 k) (h2 : SI b2 s.heap i2 l2 k) (c1 : SC b1 s.heap l1 xs) (c2 : SC b2 s.heap l2 ys) (hx : xs[k]? = some x) (hy : ys[k]? = some y)
    (hQ : ∀ h', IsZip h' z TI TO (rawInt s.heap.objs.size) → IsPair h' TO x y → SI b1 h' i1 l1 (k + 1) → SI b2 h' i2 l2 (k + 1) → IsPair h' s.heap.objs.size x y → h'.objs.size = s.heap.objs.size + 1 →
      (∀ c o, c ≠ z → c ≠ TO → c ≠ i1 → c ≠ i2 → s.heap.get? c = some o → h'.get? c = some o) → Q (some (.ref s.heap.objs.size)) { s with heap := h' }) :
    wpAny (model prog w) A (pyNext (.ref z)) Q E s := by
  have ty : s.TypeIs (.ref z) "zip" := ⟨_, hz, rfl⟩
  unfold pyNext
  exact wpAny_bind (wpAny_attempt (wpAny_callSpecial?_slot (name := Str.ofString "__next__") ty F.slot_zip_next (wpAny_call_entry F.slot_zip_next ty F.entry_zip_next (zipS_next D hz hTI hTO h1 h2 c1 c2 hx hy fun h' a1 a2 a3 a4 a5 a6 a7 => wpAny_pure (hQ h' a1 a2 a3 a4 a5 a6 a7)) (F.args_zip_next_1 _))))
theorem nextZ_end {b1 b2 : Bool} {z TI TO i1 i2 l1 l2 : Addr} {k : Nat} {xs ys : Array Value} {u v : Value} {Q : Option Value → Shared → Prop} (hh : A.handled = none) (D : ZipApart z TI TO i1 i2 l1 l2)
    (hz : IsZip s.heap z TI TO .none) (hTI : IsPair s.heap TI (.ref i1) (.ref i2)) (hTO : IsPair s.heap TO u v) (h1 : SI b1 s.heap i1 l1 k) (h2 : SI b2 s.heap i2 l2 k) (c1 : SC b1 s.heap l1 xs) (c2 : SC b2 s.heap l2 ys) (hend : xs[k]? = none ∨ ys[k]? = none)
    (hQ : ∀ h', (∀ c o, c ≠ z → c ≠ TO → c ≠ i1 → c ≠ i2 → s.heap.get? c = some o → h'.get? c = some o) → Q none { s with heap := h' }) : wpAny (model prog w) A (pyNext (.ref z)) Q E s := by
  have ty : s.TypeIs (.ref z) "zip" := ⟨_, hz, rfl⟩
  unfold pyNext
  refine wpAny_bind (wpAny_attempt (wpAny_callSpecial?_slot (name := Str.ofString "__next__") ty F.slot_zip_next (wpAny_call_entry F.slot_zip_next ty F.entry_zip_next (zipS_end hh D hz hTI hTO h1 h2 c1 c2 hend fun h' e hk he => ?_) (F.args_zip_next_1 _))))
  obtain ⟨o, ho, hc⟩ := he
  exact wpAny_bind (wpAny_isInstance (T := "StopIteration") (b := true) ⟨o, ho, hc⟩ isSubtype_stop (wpAny_pure (hQ _ hk)))
end
/-- a list or a tuple -/
def SqS (b : Bool) (K : PySem.W.Frag) (H : Hp) (a : Addr) (xs : List V) : Prop := match b with | true => SqT K H a xs | false => SqL K H a xs
theorem Inv.sqs {X : Cx} {pins : List (Addr × Obj)} {σ : St} {H : Hp} {s : Shared} {b : Bool} {a : Addr} {xs : List V} (I : Inv X pins σ H s) (h : SqS b X.K H a xs) : ∃ its : List Value, Vals xs its ∧ SC b s.heap a its.toArray := by
  cases b with
  | true => obtain ⟨its, r, p, _⟩ := I.tuple h; exact ⟨its, r, p⟩
  | false => obtain ⟨its, r, p, _⟩ := I.list h; exact ⟨its, r, p.isList⟩
theorem Inv.sqs_inj {X : Cx} {pins : List (Addr × Obj)} {σ : St} {H : Hp} {s : Shared} {b : Bool} {a : Addr} {xs ys : List V} (I : Inv X pins σ H s) (h : SqS b X.K H a xs) (h' : SqS b X.K H a ys) : xs = ys := by
  cases b with
  | true => exact I.tuple_inj h h'
  | false => exact I.list_inj h h'
theorem SC.lt {b : Bool} {h : Heap} {l : Addr} {xs : Array Value} (c : SC b h l xs) : l < h.objs.size := by
  cases b with
  | true => obtain ⟨o, ho, _⟩ := c; exact Heap.lt_size ho
  | false => obtain ⟨o, ho, _⟩ := c; exact Heap.lt_size ho
/-- the turns of zip over lists and tuples -/
def ItZ (b1 b2 : Bool) (K : PySem.W.Frag) (a b : Addr) : It :=
  ⟨fun i H => ∃ (xs ys : List V) (x y : V), SqS b1 K H a xs ∧ SqS b2 K H b ys ∧ xs[i]? = some x ∧ ys[i]? = some y,
    fun i H v H' => ∃ T x y, v = .ref T ∧ H T = none ∧ H' = upd H T (.tup [x, y]) ∧ (∀ xs, SqS b1 K H a xs → xs[i]? = some x) ∧ ∀ ys, SqS b2 K H b ys → ys[i]? = some y,
    fun i H => ∃ xs ys : List V, SqS b1 K H a xs ∧ SqS b2 K H b ys ∧ (xs.length ≤ i ∨ ys.length ≤ i)⟩
theorem turn_zipS {P : Program} {w : World} {K : PySem.W.Frag} {b1 b2 : Bool} {elts : List Expr} {kk : Nat} {tpos : Pos} {a b z TI TO i1 i2 : Addr} (D : ZipApart z TI TO i1 i2 a b) :
    Turn P w K (.Tuple elts kk tpos) (ItZ b1 b2 K a b) [z, TI, TO, i1, i2] z (fun i h => IsZip h z TI TO .none ∧ IsPair h TI (.ref i1) (.ref i2) ∧ (∃ x y, IsPair h TO x y) ∧ SI b1 h i1 a i ∧ SI b2 h i2 b i) where
  mem := by simp
  obj := fun i h st c hc => by
    obtain ⟨hz, hTI, ⟨x, y, hTO⟩, h1, h2⟩ := st
    obtain ⟨o1, e1, d1⟩ := h1.ex
    obtain ⟨o2, e2, d2⟩ := h2.ex
    have e' : c = z ∨ c = TI ∨ c = TO ∨ c = i1 ∨ c = i2 := by simpa using hc
    rcases e' with rfl | rfl | rfl | rfl | rfl
    · exact ⟨_, hz, fun v q => nomatch q⟩
    · exact ⟨_, hTI, fun v q => nomatch q⟩
    · exact ⟨_, hTO, fun v q => nomatch q⟩
    · exact ⟨o1, e1, fun v q => by rw [d1] at q; cases q⟩
    · exact ⟨o2, e2, fun v q => by rw [d2] at q; cases q⟩
  keep := fun i h h' st k => by
    obtain ⟨hz, hTI, ⟨x, y, hTO⟩, h1, h2⟩ := st
    exact ⟨k z (by simp) _ hz, k TI (by simp) _ hTI, ⟨x, y, k TO (by simp) _ hTO⟩, h1.at' fun o q => k i1 (by simp) o q, h2.at' fun o q => k i2 (by simp) o q⟩
  item := by
    intro X hP hw hK hc i pins s σ H E I hf st hg
    subst hP hw hK
    obtain ⟨hz, hTI, ⟨x0, y0, hTO⟩, h1, h2⟩ := st
    obtain ⟨xs, ys, x, y, hqx, hqy, hx, hy⟩ := hg
    obtain ⟨its, rv, p⟩ := Inv.sqs I hqx
    obtain ⟨its2, rv2, p2⟩ := Inv.sqs I hqy
    obtain ⟨u, hu, ru⟩ := rv.get hx
    obtain ⟨u2, hu2, ru2⟩ := rv2.get hy
    have hzl : z < s.heap.objs.size := Heap.lt_size hz
    refine nextZ_item D hz hTI hTO h1 h2 p p2 (x := u) (y := u2) (by simpa using hu) (by simpa using hu2) fun h' z' TO' h1' h2' hT hsz hk => ?_
    refine ⟨_, rfl, wpAny_letOwnedTupleGo_zip (s := { s with heap := h' }) z' fun h'' z'' sb => ?_⟩
    have hT2 : h''.get? s.heap.objs.size = some { cls := .type "tuple", data := .seq #[u, u2] } := (sb.2 _ (Nat.ne_of_gt hzl)).trans hT
    have new : ObjOk X.prog X.w (upd H s.heap.objs.size (.tup [x, y])) h'' s.heap.objs.size (.tup [x, y]) := ⟨by show 2 ≤ sizeLine; decide, [u, u2], .cons ru (.cons ru2 .nil), ⟨_, hT2, rfl, _, rfl⟩⟩
    have I1 : Inv X pins σ (upd H s.heap.objs.size (.tup [x, y])) { s with heap := h'' } :=
      I.turnedNew (t' := s.toks) (ch := [z, TI, TO, i1, i2]) (fun c o hb q => by
        have n : c ≠ z ∧ c ≠ TO ∧ c ≠ i1 ∧ c ≠ i2 := by simp at hb; exact ⟨hb.1, hb.2.2.1, hb.2.2.2.1, hb.2.2.2.2⟩
        exact (sb.2 c n.1).trans (hk c o n.1 n.2.1 n.2.2.1 n.2.2.2 q)) hf (Nat.le_refl _) new
    refine ⟨.ref s.heap.objs.size, _, I1, rfl, ⟨_, x, y, rfl, I.hok.fresh (Nat.le_refl _), rfl, fun l hl => by rw [Inv.sqs_inj I hl hqx]; exact hx, fun l hl => by rw [Inv.sqs_inj I hl hqy]; exact hy⟩, ⟨z'', ?_, ⟨u, u2, ?_⟩, ?_, ?_⟩, fun c hcm => ?_⟩
    · exact (sb.2 _ D.TIz).trans (hk _ _ D.TIz D.TITO D.TIi1 D.TIi2 hTI)
    · exact (sb.2 _ D.TOz).trans TO'
    · exact h1'.at' fun o q => (sb.2 _ D.i1z).trans q
    · exact h2'.at' fun o q => (sb.2 _ D.i2z).trans q
    · have hlt : c < s.heap.objs.size := by
        obtain ⟨o1, e1, _⟩ := h1.ex
        obtain ⟨o2, e2, _⟩ := h2.ex
        have e' : c = z ∨ c = TI ∨ c = TO ∨ c = i1 ∨ c = i2 := by simpa using hcm
        rcases e' with rfl | rfl | rfl | rfl | rfl
        · exact hzl
        · exact Heap.lt_size hTI
        · exact Heap.lt_size hTO
        · exact Heap.lt_size e1
        · exact Heap.lt_size e2
      rw [upd_ne (Nat.ne_of_lt hlt)]
      exact (hf c hcm).1
  done := by
    intro X hP hw hK hc i pins s σ H E I hf st hg
    subst hP hw hK
    obtain ⟨hz, hTI, ⟨x0, y0, hTO⟩, h1, h2⟩ := st
    obtain ⟨xs, ys, hqx, hqy, hend⟩ := hg
    obtain ⟨its, rv, p⟩ := Inv.sqs I hqx
    obtain ⟨its2, rv2, p2⟩ := Inv.sqs I hqy
    have l1 := rv.length
    have l2 := rv2.length
    have he : its.toArray[i]? = none ∨ its2.toArray[i]? = none := by
      rcases hend with q | q
      · exact .inl (by simp; omega)
      · exact .inr (by simp; omega)
    exact nextZ_end (I.ok.hd hc) D hz hTI hTO h1 h2 p p2 he fun h' hk => ⟨rfl, I.turnedL (t' := s.toks) (ch := [z, TI, TO, i1, i2]) (fun c o hb q => by
      have n : c ≠ z ∧ c ≠ TO ∧ c ≠ i1 ∧ c ≠ i2 := by simp at hb; exact ⟨hb.1, hb.2.2.1, hb.2.2.2.1, hb.2.2.2.2⟩
      exact hk c o n.1 n.2.1 n.2.2.1 n.2.2.2 q) hf⟩
  self := fun A i s Q E st h => wpAny_pyIter_zip st.1 h
def iZipS (b1 b2 : Bool) (K : PySem.W.Frag) (ta : TA) : TI := fun σ H R => ta σ H fun vs H1 => ∃ a b xs ys, vs = [.ref a, .ref b] ∧ SqS b1 K H1 a xs ∧ SqS b2 K H1 b ys ∧ R (ItZ b1 b2 K a b) H1
theorem pi_zipS (b1 b2 : Bool) {X : Cx} {e e2 : Expr} {ta : TA} {p pos tpos : Pos} {elts : List Expr} {kk : Nat} (hg : Gl X "zip") (hm : X.mg "zip" = none) (ha : PA X [e, e2] ta)
    (hs : starEach [e, e2] X.env = (false, eval e X.env) :: starEach [e2] X.env := by rfl) (hpl : (backTo pos (starEach [e2] X.env)).any (·.1) = false := by rfl) :
    PI X (.Tuple elts kk tpos) (.Call (.Name "zip" p) [e, e2] [] pos) (iZipS b1 b2 X.K ta) := by
  intro pins s σ H R I h
  refine Call_ (ld_blt I hg hm boot_zip5 (PyProof.Rows.callWith_type1 (thn (ha pos pins s σ H _ I h) fun us s1 ⟨vs, H1, I1, r1, q1⟩ => ?_) hs hpl))
  obtain ⟨a, b, xs, ys, ex, hqx, hqy, q⟩ := q1
  subst ex
  cases r1 with
  | cons r rr =>
    cases rr with
    | cons r' rr =>
      cases rr; cases r; cases r'
      obtain ⟨its, rv, p1⟩ := Inv.sqs I1 hqx
      obtain ⟨its2, rv2, p2⟩ := Inv.sqs I1 hqy
      have la : a < s1.heap.objs.size := p1.lt
      have lb : b < s1.heap.objs.size := p2.lt
      refine callZ p1 p2 fun h' hz hTI hTO h1 h2 hk => wpAny_pyIter_zip hz ?_
      have I2 : Inv X pins σ H1 { s1 with heap := h' } := I1.kept (t' := s1.toks) hk
      refine ⟨s1.heap.objs.size + 4, [s1.heap.objs.size + 4, s1.heap.objs.size + 2, s1.heap.objs.size + 3, s1.heap.objs.size, s1.heap.objs.size + 1], _, _, H1, rfl, I2, turn_zipS (PySem.W.ktu_apart s1.heap.objs.size a b la lb), ⟨hz, hTI, ⟨_, _, hTO⟩, h1, h2⟩, fun c hcm => ?_, q⟩
      have e' : c = s1.heap.objs.size + 4 ∨ c = s1.heap.objs.size + 2 ∨ c = s1.heap.objs.size + 3 ∨ c = s1.heap.objs.size ∨ c = s1.heap.objs.size + 1 := by simpa using hcm
      have hle : s1.heap.objs.size ≤ c := by
        rcases e' with q | q | q | q | q <;> rw [q] <;> first | exact Nat.le_refl _ | exact Nat.le_add_right _ _
      exact I1.fpOk hle (I1.hok.fresh hle)
end L2

set_option Elab.async false
set_option linter.all false
set_option maxRecDepth 100000
set_option maxHeartbeats 1000000
namespace L2
open PySem PySem.Spec PyProof.Rows TL
end L2

set_option Elab.async false
set_option linter.all false
set_option maxRecDepth 100000
set_option maxHeartbeats 1000000
namespace L2
open PySem PySem.Spec PyProof.Rows TL
/-! ### a dict whose keys are the numbers of a set -/
structure DicN (S : Nat → Prop) (kvs : List (Key × V)) : Prop where
  nd : (kvs.map (·.1)).Nodup
  mem : ∀ k, k ∈ kvs.map (·.1) ↔ ∃ p : Nat, S p ∧ (Sum.inl (p : Int) : Key) = k
theorem DicN.nil : DicN (fun _ => False) [] := ⟨List.nodup_nil, fun k => by simp⟩
theorem DicN.iff {S S' : Nat → Prop} {kvs : List (Key × V)} (h : DicN S kvs) (e : ∀ p, S p ↔ S' p) : DicN S' kvs :=
  ⟨h.nd, fun k => (h.mem k).trans ⟨fun ⟨p, a, b⟩ => ⟨p, (e p).mp a, b⟩, fun ⟨p, a, b⟩ => ⟨p, (e p).mpr a, b⟩⟩⟩
theorem DicN.put {S : Nat → Prop} {kvs : List (Key × V)} (h : DicN S kvs) (p : Nat) (v : V) : DicN (fun q => S q ∨ q = p) (putK kvs (Sum.inl (p : Int)) v) := by
  obtain ⟨k1, k2⟩ := putK_keys kvs (Sum.inl (p : Int)) v
  have spl : ∀ k : Key, (∃ q : Nat, (S q ∨ q = p) ∧ (Sum.inl (q : Int) : Key) = k) ↔ (∃ q : Nat, S q ∧ (Sum.inl (q : Int) : Key) = k) ∨ (Sum.inl (p : Int) : Key) = k := fun k => by
    constructor
    · rintro ⟨q, a | rfl, b⟩
      · exact .inl ⟨q, a, b⟩
      · exact .inr b
    · rintro (⟨q, a, b⟩ | b)
      · exact ⟨q, .inl a, b⟩
      · exact ⟨p, .inr rfl, b⟩
  by_cases hin : (Sum.inl (p : Int) : Key) ∈ kvs.map (·.1)
  · refine ⟨by rw [k1 hin]; exact h.nd, fun k => ?_⟩
    rw [k1 hin, spl, ← h.mem]
    constructor
    · exact .inl
    · rintro (q | q)
      · exact q
      · rw [← q]; exact hin
  · refine ⟨?_, fun k => ?_⟩
    · rw [k2 hin, List.nodup_append]
      refine ⟨h.nd, List.nodup_cons.mpr ⟨by simp, List.nodup_nil⟩, fun a ha b hb e => ?_⟩
      rw [List.mem_singleton.mp hb] at e
      exact hin (e ▸ ha)
    · rw [k2 hin, List.mem_append, List.mem_singleton, spl, ← h.mem]
      constructor
      · rintro (q | q)
        · exact .inl q
        · exact .inr q.symm
      · rintro (q | q)
        · exact .inl q
        · exact .inr q.symm
theorem DicN.few {S : Nat → Prop} {kvs : List (Key × V)} (h : DicN S kvs) {n : Nat} (hn : ∀ p, S p → p < n) : kvs.length ≤ n := by
  have := nodup_sub (kvs.map (·.1)) ((List.range n).map fun j : Nat => (Sum.inl (j : Int) : Key)) h.nd fun k hk => by
    obtain ⟨j, a, b⟩ := (h.mem k).mp hk
    exact List.mem_map.mpr ⟨j, List.mem_range.mpr (hn j a), b⟩
  rw [List.length_map, List.length_map, List.length_range] at this
  exact this
/-! ### the least -/
def Lea (S : Nat → Prop) : Option Nat → Prop
  | none => ∀ p, ¬ S p
  | some m => S m ∧ ∀ p, S p → m ≤ p
theorem Lea.iff {S S' : Nat → Prop} {o : Option Nat} (h : Lea S o) (e : ∀ p, S p ↔ S' p) : Lea S' o := by
  cases o with
  | none => exact fun p q => h p ((e p).mpr q)
  | some m => exact ⟨(e m).mp h.1, fun p q => h.2 p ((e p).mpr q)⟩
theorem Lea.uniq {S : Nat → Prop} {o o' : Option Nat} (h : Lea S o) (h' : Lea S o') : o = o' := by
  cases o with
  | none =>
    cases o' with
    | none => rfl
    | some m => exact absurd h'.1 (h m)
  | some m =>
    cases o' with
    | none => exact absurd h.1 (h' m)
    | some m' =>
      have := h.2 m' h'.1
      have := h'.2 m h.1
      have : m = m' := by omega
      rw [this]
/-- least_of -/
def leO : Option Nat → Nat → Nat
  | none, n => n
  | some m, n => min m n
theorem Lea.put {S : Nat → Prop} {o : Option Nat} (h : Lea S o) (n : Nat) : Lea (fun p => S p ∨ p = n) (some (leO o n)) := by
  cases o with
  | none => exact ⟨.inr rfl, fun p hp => hp.elim (fun q => absurd q (h p)) fun q => by rw [q]; exact Nat.le_refl _⟩
  | some m =>
    refine ⟨?_, fun p hp => ?_⟩
    · show S (min m n) ∨ min m n = n
      rcases Nat.le_total m n with q | q
      · rw [Nat.min_eq_left q]; exact .inl h.1
      · rw [Nat.min_eq_right q]; exact .inr rfl
    · show min m n ≤ p
      rcases hp with q | q
      · have := h.2 p q
        omega
      · omega
/-- a set moved on, beside another -/
theorem Lea.moved {S T : Nat → Prop} {o : Option Nat} {m d : Nat} (h : Lea S o) (t : Lea T (some m)) : Lea (fun p => S p ∨ ∃ q, T q ∧ p = q + d) (some (leO o (m + d))) := by
  have := h.put (m + d)
  refine ⟨?_, fun p hp => ?_⟩
  · rcases this.1 with q | q
    · exact .inl q
    · exact .inr ⟨m, t.1, q⟩
  · rcases hp with q | ⟨q, hq, rfl⟩
    · exact this.2 p (.inl q)
    · have h1 := this.2 (m + d) (.inr rfl)
      have h2 := t.2 q hq
      omega
theorem Lea.sorted {S : Nat → Prop} {ns : List Nat} {ys : List Int} (hm : ∀ p, p ∈ ns ↔ S p) (hp : ys.Perm (ns.map fun n : Nat => (n : Int))) (hs : ys.Pairwise (· ≤ ·)) : ∃ o : Option Nat, Lea S o ∧ ys.head? = o.map fun n : Nat => (n : Int) := by
  cases ys with
  | nil =>
    refine ⟨none, fun p q => ?_, rfl⟩
    have : (p : Int) ∈ ([] : List Int) := hp.mem_iff.mpr (List.mem_map.mpr ⟨p, (hm p).mpr q, rfl⟩)
    cases this
  | cons y r =>
    obtain ⟨n, hn, e⟩ := List.mem_map.mp (hp.mem_iff.mp (List.mem_cons_self ..))
    refine ⟨some n, ⟨(hm n).mp hn, fun p q => ?_⟩, by rw [← e]; rfl⟩
    have : (p : Int) ∈ y :: r := hp.mem_iff.mpr (List.mem_map.mpr ⟨p, (hm p).mpr q, rfl⟩)
    rcases List.mem_cons.mp this with e2 | e2
    · rw [← e] at e2
      omega
    · have := (List.pairwise_cons.mp hs).1 _ e2
      rw [← e] at this
      omega
/-! ### where rows are met -/
def offR (rs : List Row) (r : Row) (t : Nat) : Nat := (rowT (txs rs) (r.take t)).length
inductive Occ (rs : List Row) : Nat → Nat → Prop where
  | last : Occ rs (rs.length - 1) 0
  | step {i p t j : Nat} {r : Row} : Occ rs i p → rs[i]? = some r → r[t]? = some (.inr j) → Occ rs j (p + offR rs r t)
theorem offR_succ {rs : List Row} {r : Row} {t : Nat} {o : Ori} (h : r[t]? = some o) : offR rs r (t + 1) = offR rs r t + (itL (txs rs) o).length := by
  unfold offR rowT
  rw [List.take_succ, h, Option.toList_some, List.flatMap_append, List.length_append, List.flatMap_singleton]
theorem itL_take {rs : List Row} {k : Nat} {o : Ori} (h : itOk k o) : itL (txs (rs.take k)) o = itL (txs rs) o := by
  cases o with
  | inl c => rfl
  | inr j =>
    have hj : j < k := h
    show (txs (rs.take k)).getD j [] = (txs rs).getD j []
    rw [txs_take, List.getD_eq_getElem?_getD, List.getD_eq_getElem?_getD, List.getElem?_take, if_pos hj]
theorem rowT_take {rs : List Row} {k : Nat} {r : Row} (h : ∀ o ∈ r, itOk k o) : rowT (txs (rs.take k)) r = rowT (txs rs) r := by
  unfold rowT
  rw [List.flatMap_def, List.flatMap_def]
  congr 1
  exact List.map_congr_left fun o ho => itL_take (h o ho)
/-- a row's place, and its length, are within the last one's -/
theorem Occ.fits {rs : List Row} (rok : Rok rs) (sml : Small rs) {j p : Nat} (h : Occ rs j p) : ∃ t, (∀ y, (txs rs)[j]? = some y → p + y.length ≤ t) ∧ t ≤ 300 := by
  induction h with
  | last =>
    cases e : (txs rs)[rs.length - 1]? with
    | none => exact ⟨0, fun y hy => (by cases hy), by decide⟩
    | some z => exact ⟨z.length, fun y hy => (by cases hy; omega), sml z (List.mem_of_getElem? e)⟩
  | @step i p t j r a b c ih =>
    obtain ⟨u, h1, h2⟩ := ih
    refine ⟨u, fun y hy => ?_, h2⟩
    have h3 := h1 _ (txs_at b)
    rw [rowT_take (rok i r b).2.2] at h3
    have e1 : itL (txs rs) (.inr j) = y := by
      show (txs rs).getD j [] = y
      rw [List.getD_eq_getElem?_getD, hy]
      rfl
    have e2 : offR rs r (t + 1) ≤ (rowT (txs rs) r).length := by
      unfold offR rowT
      conv => rhs; rw [← List.take_append_drop (t + 1) r, List.flatMap_append, List.length_append]
      omega
    have e3 := offR_succ (rs := rs) c
    rw [e1] at e3
    omega
theorem Occ.at_ {rs : List Row} (h1 : 1 ≤ rs.length) (rok : Rok rs) {j p : Nat} (h : Occ rs j p) : j < rs.length := by
  induction h with
  | last => omega
  | step a b c ih =>
    have := (rok _ _ b).2.2 _ (List.mem_of_getElem? c)
    have h : _ < _ := this
    omega
theorem Occ.le {rs : List Row} (h1 : 1 ≤ rs.length) (rok : Rok rs) (sml : Small rs) {j p : Nat} (h : Occ rs j p) : p < 301 := by
  obtain ⟨t, a, b⟩ := h.fits rok sml
  have hj := h.at_ h1 rok
  have := a _ (List.getElem?_eq_getElem (by rw [txs_len]; exact hj))
  omega
end L2

set_option Elab.async false
set_option linter.all false
set_option maxRecDepth 100000
set_option maxHeartbeats 1000000
namespace L2
open PySem PySem.Spec PyProof.Rows TL
end L2

set_option Elab.async false
set_option linter.all false
set_option maxRecDepth 100000
set_option maxHeartbeats 1000000
namespace L2
open PySem PySem.Spec PyProof.Rows TL
/-! ### dicts in a row -/
def Dcs (x : Nat → Prop) (H : Hp) (ds : List Addr) (S : Nat → Nat → Prop) : Prop := ∀ j d, x j → ds[j]? = some d → ∃ kvs, H d = some (.dK kvs) ∧ DicN (S j) kvs
theorem Dcs.iff {x : Nat → Prop} {H : Hp} {ds : List Addr} {S S' : Nat → Nat → Prop} (h : Dcs x H ds S) (e : ∀ j p, S j p ↔ S' j p) : Dcs x H ds S' := fun j d hx hd => by
  obtain ⟨kvs, a, b⟩ := h j d hx hd
  exact ⟨kvs, a, b.iff (e j)⟩
theorem Dcs.kept {x : Nat → Prop} {H H' : Hp} {ds : List Addr} {S : Nat → Nat → Prop} (h : Dcs x H ds S) (k : ∀ d o, H d = some o → (∃ kvs, o = .dK kvs) → H' d = some o) : Dcs x H' ds S := fun j d hx hd => by
  obtain ⟨kvs, a, b⟩ := h j d hx hd
  exact ⟨kvs, k _ _ a ⟨_, rfl⟩, b⟩
theorem nodup_at {α : Type} {ds : List α} (nd : ds.Nodup) {i j : Nat} {d : α} (hi : ds[i]? = some d) (hj : ds[j]? = some d) : i = j := by
  obtain ⟨h1, e1⟩ := List.getElem?_eq_some_iff.mp hi
  obtain ⟨h2, e2⟩ := List.getElem?_eq_some_iff.mp hj
  exact (List.getElem_inj nd).mp (e1.trans e2.symm)
theorem Dcs.put {x : Nat → Prop} {H : Hp} {ds : List Addr} {S : Nat → Nat → Prop} (h : Dcs x H ds S) (nd : ds.Nodup) {j : Nat} {d : Addr} {kvs : List (Key × V)} (hj : ds[j]? = some d) (hk : DicN (S j) kvs) (p : Nat) (v : V) :
    Dcs x (upd H d (.dK (putK kvs (Sum.inl (p : Int)) v))) ds (fun j' q => S j' q ∨ (j' = j ∧ q = p)) := fun j' d' hx hd' => by
  by_cases e : j' = j
  · subst e
    rw [hj] at hd'
    cases hd'
    exact ⟨_, upd_same, (hk.put p v).iff fun q => ⟨fun a => a.elim .inl fun b => .inr ⟨rfl, b⟩, fun a => a.elim .inl fun b => .inr b.2⟩⟩
  · obtain ⟨kv', a, b⟩ := h j' d' hx hd'
    refine ⟨kv', ?_, b.iff fun q => ⟨.inl, fun a => a.elim id fun c => absurd c.1 e⟩⟩
    rw [upd_ne fun ed => e (by subst ed; exact nodup_at nd hd' hj)]
    exact a
/-! ### where rows are put in -/
end L2

set_option Elab.async false
set_option linter.all false
set_option maxRecDepth 100000
set_option maxHeartbeats 1000000
namespace L2
open PySem PySem.Spec PyProof.Rows TL
/-! ### a dict whose keys are numbers -/
structure DicZ (S : Int → Prop) (kvs : List (Key × V)) : Prop where
  nd : (kvs.map (·.1)).Nodup
  mem : ∀ k, k ∈ kvs.map (·.1) ↔ ∃ p : Int, S p ∧ (Sum.inl p : Key) = k
theorem DicZ.nil : DicZ (fun _ => False) [] := ⟨List.nodup_nil, fun k => by simp⟩
theorem DicZ.iff {S S' : Int → Prop} {kvs : List (Key × V)} (h : DicZ S kvs) (e : ∀ p, S p ↔ S' p) : DicZ S' kvs :=
  ⟨h.nd, fun k => (h.mem k).trans ⟨fun ⟨p, a, b⟩ => ⟨p, (e p).mp a, b⟩, fun ⟨p, a, b⟩ => ⟨p, (e p).mpr a, b⟩⟩⟩
theorem DicZ.put {S : Int → Prop} {kvs : List (Key × V)} (h : DicZ S kvs) (p : Int) (v : V) : DicZ (fun q => S q ∨ q = p) (putK kvs (Sum.inl p) v) := by
  obtain ⟨k1, k2⟩ := putK_keys kvs (Sum.inl p) v
  have spl : ∀ k : Key, (∃ q : Int, (S q ∨ q = p) ∧ (Sum.inl q : Key) = k) ↔ (∃ q : Int, S q ∧ (Sum.inl q : Key) = k) ∨ (Sum.inl p : Key) = k := fun k => by
    constructor
    · rintro ⟨q, a | rfl, b⟩
      · exact .inl ⟨q, a, b⟩
      · exact .inr b
    · rintro (⟨q, a, b⟩ | b)
      · exact ⟨q, .inl a, b⟩
      · exact ⟨p, .inr rfl, b⟩
  by_cases hin : (Sum.inl p : Key) ∈ kvs.map (·.1)
  · refine ⟨by rw [k1 hin]; exact h.nd, fun k => ?_⟩
    rw [k1 hin, spl, ← h.mem]
    constructor
    · exact .inl
    · rintro (q | q)
      · exact q
      · rw [← q]; exact hin
  · refine ⟨?_, fun k => ?_⟩
    · rw [k2 hin, List.nodup_append]
      refine ⟨h.nd, List.nodup_cons.mpr ⟨by simp, List.nodup_nil⟩, fun a ha b hb e => ?_⟩
      rw [List.mem_singleton.mp hb] at e
      exact hin (e ▸ ha)
    · rw [k2 hin, List.mem_append, List.mem_singleton, spl, ← h.mem]
      constructor
      · rintro (q | q)
        · exact .inl q
        · exact .inr q.symm
      · rintro (q | q)
        · exact .inl q
        · exact .inr q.symm
def intK : Key → Int
  | .inl i => i
  | .inr _ => 0
theorem DicZ.ints {S : Int → Prop} {kvs : List (Key × V)} (h : DicZ S kvs) : ∃ ns : List Int, kvs.map (·.1) = ns.map Sum.inl ∧ ns.Nodup ∧ ∀ p, p ∈ ns ↔ S p := by
  have kk : ∀ k ∈ kvs.map (·.1), S (intK k) ∧ (Sum.inl (intK k) : Key) = k := fun k hk => by
    obtain ⟨p, a, rfl⟩ := (h.mem k).mp hk
    exact ⟨a, rfl⟩
  refine ⟨(kvs.map (·.1)).map intK, ?_, ?_, fun p => ?_⟩
  · rw [List.map_map]
    conv => lhs; rw [← List.map_id (kvs.map (·.1))]
    exact List.map_congr_left fun k hk => ((kk k hk).2).symm
  · refine List.pairwise_map.mpr (h.nd.imp_of_mem fun {a b} ha hb ne q => ne ?_)
    rw [← (kk a ha).2, ← (kk b hb).2, q]
  · rw [List.mem_map]
    constructor
    · rintro ⟨k, hk, rfl⟩
      exact (kk k hk).1
    · intro hp
      exact ⟨Sum.inl p, (h.mem _).mpr ⟨p, hp, rfl⟩, rfl⟩
/-! ### the pins of rows -/
end L2

set_option Elab.async false
set_option linter.all false
set_option maxRecDepth 100000
set_option maxHeartbeats 1000000
namespace L2
open PySem PySem.Spec PyProof.Rows PySem.W
/-! ### one object as it stands; a code record -/
def objX (a : Addr) (o : Obj) : HO := .ext fun h => h.get? a = some o
def codX (a : Addr) (q : Str) : HO := .ext fun h => h.CodeRec (.ref a) q
theorem HOk.obj {P : Program} {w : World} {H : Hp} {h : Heap} {a : Addr} {o : Obj} (x : HOk P w H h) (e : H a = some (objX a o)) : h.get? a = some o := (x a _ e).1
/-- the table of a def in which one lambda stands: empty, or with the lambda's code -/
structure Tab (q : Str) (pos : Pos) (P : Addr) (H : Hp) : Prop where
  ex : H P = some (objX P (tabObj #[])) ∨ ∃ c', c' ≠ P ∧ H P = some (objX P (tabObj #[rawInt pos.line, rawInt pos.col, .ref c'])) ∧ H c' = some (codX c' q)
theorem Tab.same {q : Str} {pos : Pos} {P : Addr} {H H' : Hp} (t : Tab q pos P H) (s : Same H H') : Tab q pos P H' := by
  rcases t.ex with h | ⟨c, n, h1, h2⟩
  · exact ⟨.inl (s _ _ h)⟩
  · exact ⟨.inr ⟨c, n, s _ _ h1, s _ _ h2⟩⟩
theorem Tab.has {q : Str} {pos : Pos} {P : Addr} {H : Hp} (t : Tab q pos P H) : ∃ ps, H P = some (objX P (tabObj ps)) := by
  rcases t.ex with h | ⟨c, n, h1, h2⟩
  · exact ⟨_, h⟩
  · exact ⟨_, h1⟩
section
variable {X : Cx} {pins : List (Addr × Obj)} {σ : St} {H : Hp} {s : Shared}
/-- an object that came behind the entry is tracked from now on -/
theorem Inv.track {a : Addr} {o : HO} (I : Inv X pins σ H s) (ha : X.s_0.heap.objs.size ≤ a) (hL : a ≠ X.env.locals) (hc : ∀ x c, X.env.cells.lookup x = some c → c ≠ a) (hp : ∀ p ∈ X.pn ++ pins, p.1 ≠ a) (hn : H a = none)
    (new : ObjOk X.prog X.w (upd H a o) s.heap a o) : Inv X pins σ (upd H a o) s := by
  have old : ∀ b ob, X.s_0.heap.get? b = some ob → b ≠ a := fun b ob e z => absurd (Heap.lt_size e) (by rw [z]; exact Nat.not_lt.mpr ha)
  have oldH : ∀ b ob, X.H_0 b = some ob → H b = some ob → b ≠ a := fun b ob _ e z => by rw [z, hn] at e; cases e
  refine ⟨I.ok, I.os, I.bare, ⟨I.base.keep, I.base.slot, fun b ob e n hx => ?_, I.base.there, fun b xs e => ?_, fun b ob u e => ?_, fun b ps e => ?_⟩, I.loc, I.cell, ?_, fun x c e => ?_, fun p hpp => ?_, fun b u e => ?_, I.len⟩
  · rw [upd_ne (old b ob e)]
    exact I.base.free b ob e n hx
  · have q := I.base.tups b xs e
    rw [upd_ne (ne_of_none q hn)]
    exact q
  · have q := I.base.frzs b ob u e
    rw [upd_ne (ne_of_none q hn)]
    exact q
  · obtain ⟨m, q⟩ := I.base.tbls b ps e
    exact ⟨m, by rw [upd_ne (ne_of_none q hn)]; exact q⟩
  · rw [upd_ne (Ne.symm hL)]
    exact I.free
  · rw [upd_ne (hc x c e)]
    exact I.freeC x c e
  · obtain ⟨a1, a2, a3⟩ := I.pin p hpp
    refine ⟨a1, ?_, a3⟩
    rw [upd_ne (hp p hpp)]
    exact a2
  · by_cases hb : b = a
    · subst hb
      rw [upd_same] at e
      cases e
      exact new
    · rw [upd_ne hb] at e
      exact (I.hok b u e).stay (fun c v _ q => q) (fun c q => by rw [upd_ne (ne_of_none q hn)]; exact q) fun c xs q => by rw [upd_ne (ne_of_none q hn)]; exact q
end
/-! ### a lambda is made -/
/-- what the def's code object gives -/
structure CodeT (base : Heap) (mg : Str → Option Value) (c P : Addr) : Prop where
  code : CodeHd base c P
  bm : base.BuiltinsAt mg P
section
variable {X : Cx} {pins : List (Addr × Obj)} {σ : St} {H : Hp} {s : Shared}
end
end L2

set_option Elab.async false
set_option linter.all false
set_option maxRecDepth 100000
set_option maxHeartbeats 1000000
namespace L2
open PySem PySem.Spec PyProof.Rows PySem.W
/-! ### a lambda of one parameter y and one free name x is called -/
structure LamScope (y x : Str) (sc : Scope) : Prop where
  kind : sc.kind = .function
  co : sc.isCoroutine = false
  gen : sc.isGenerator = false
  nocell : ∀ z ∈ sc.names, z.2 ≠ .cell
  loc : sc.names.lookup y = some .local
  fre : sc.names.lookup x = some .free
  only : ∀ z ∈ sc.names, z.2 = .free → z.1 = x
  ne : y ≠ x
section
variable {X : Cx} {pins : List (Addr × Obj)} {σ : St} {H : Hp} {s : Shared}
end
end L2

set_option Elab.async false
set_option linter.all false
set_option maxRecDepth 100000
set_option maxHeartbeats 1000000
namespace L2
open PySem PySem.Spec PyProof.Rows PySem.W TL
/-! ### sorted(xs, key=lambda y: ..): whole numbers by texts -/
/-- the texts' order -/
def sLe (x y : Str) : Prop := ¬ (cs y < cs x)
/-- the numbers that come out: the same ones, by their keys -/
structure ByKey (g : Int → Str) (ns ys : List Int) : Prop where
  perm : ys.Perm ns
  sor : ys.Pairwise fun m n => sLe (g m) (g n)
  stb : ∀ k, ns = upInts 0 k → ys.Pairwise fun m n => cs (g m) = cs (g n) → m ≤ n
/-- the setting of a stable sort of numbers by texts: a number stands at its own place at the start -/
@[reducible] def stI : L2S.St := ⟨oneType', strKind, fun p => (numOf p.2).toNat⟩
end L2

set_option Elab.async false
set_option linter.all false
set_option maxRecDepth 100000
set_option maxHeartbeats 1000000
namespace L2
open PySem PySem.Spec PyProof.Rows PySem.W TL
section
variable {X : Cx} {pins : List (Addr × Obj)} {σ : St} {H : Hp} {s : Shared} {E : Value → Shared → Prop}
end
end L2

set_option Elab.async false
set_option linter.all false
set_option maxRecDepth 100000
set_option maxHeartbeats 1000000
namespace L2
open PySem PySem.Spec PyProof.Rows PySem.W TL
section
variable {X : Cx} {pins : List (Addr × Obj)} {σ : St} {H : Hp} {s : Shared} {E : Value → Shared → Prop}
end
end L2

set_option Elab.async false
set_option linter.all false
set_option maxRecDepth 100000
set_option maxHeartbeats 1000000
namespace L2
open PySem PySem.Spec PyProof.Rows PySem.W TL
section
variable {X : Cx}
end
/-! ### a def whose code object is known -/
structure FunC (K : PySem.W.Frag) (mg : Str → Option Value) (x : Str) (st : Stmt) (ps : List Str) (c : Addr) : Prop where
  ex : ∃ (f : Addr) (fd : FuncData), Fun K x x st f fd ∧ mg x = some (.ref f) ∧ Binds K fd ps [] ∧ fd.code = .ref c
end L2

set_option Elab.async false
set_option linter.all false
set_option maxRecDepth 100000
set_option maxHeartbeats 1000000
namespace L2
open PySem PySem.Spec PyProof.Rows PySem.W TL
end L2

set_option Elab.async false
set_option linter.all false
set_option maxRecDepth 100000
set_option maxHeartbeats 1000000
namespace L2
open PySem PySem.Spec PyProof.Rows
/-! ### turns of a text with the point behind -/
/-- the signs turned round from j on -/
def rotL (w : List Nat) (j : Nat) : List Nat := w.drop j ++ w.take j
theorem rotL_len {w : List Nat} {j : Nat} : (rotL w j).length = w.length := by
  unfold rotL
  rw [List.length_append, List.length_drop, List.length_take]
  omega
/-- the text and the point -/
def wh (x : Str) : List Nat := cs x ++ [46]
theorem wh_len {x : Str} : (wh x).length = x.length + 1 := by unfold wh; rw [List.length_append, cs_len]; rfl
def rotS (x : Str) (n : Int) : Str := ⟨(rotL (wh x) n.toNat).toArray⟩
theorem cs_rotS {x : Str} {n : Int} : cs (rotS x n) = rotL (wh x) n.toNat := by unfold rotS cs; rw [List.toList_toArray]
theorem strL_antisymm {a b : List Nat} (h1 : ¬ a < b) (h2 : ¬ b < a) : a = b := by
  have := PyProof.Rows.strKind.total a b (by simpa using h1) (by simpa using h2)
  exact this
/-- sorted lists of the same texts are alike -/
theorem sorted_uniq {as bs : List (List Nat)} (p : as.Perm bs) (ha : as.Pairwise fun x y => ¬ y < x) (hb : bs.Pairwise fun x y => ¬ y < x) : as = bs :=
  List.Perm.eq_of_pairwise (fun a b _ _ h1 h2 => strL_antisymm h2 h1) ha hb p
/-- the last sign of the turn from n on -/
def lstN (w : List Nat) (n : Nat) : Nat := if n = 0 then w.getLastD 0 else w.getD (n - 1) 0
theorem rot_last {w : List Nat} {n : Nat} (h : n < w.length) : (rotL w n).getLast? = some (lstN w n) := by
  unfold rotL lstN
  by_cases h0 : n = 0
  · subst h0
    rw [if_pos rfl, List.drop_zero, List.take_zero, List.append_nil]
    cases w with
    | nil => simp at h
    | cons c r => rw [List.getLastD_eq_getLast?, List.getLast?_cons]; rfl
  · rw [if_neg h0, List.getLast?_append]
    have e : (List.take n w).getLast? = some (w.getD (n - 1) 0) := by
      rw [List.getLast?_eq_getElem?, List.length_take, Nat.min_eq_left (by omega), List.getElem?_take_of_lt (by omega)]
      rw [List.getD_eq_getElem?_getD, List.getElem?_eq_getElem (show n - 1 < w.length by omega)]
      rfl
    rw [e]
    rfl
/-- y is the turned text of x -/
structure Tnd (x : Str) (ys : List Int) (y : Str) : Prop where
  by_ : ByKey (rotS x) (upInts 0 (x.length + 1)) ys
  cs_ : cs y = ys.map fun n => lstN (wh x) n.toNat
theorem mem_up {k : Nat} {n : Int} (h : n ∈ upInts 0 k) : 0 ≤ n ∧ n < k := by
  obtain ⟨i, hi, rfl⟩ := List.mem_map.mp (by unfold upInts at h; exact h)
  have := List.mem_range.mp hi
  constructor <;> omega
theorem ByKey.mem {g : Int → Str} {ns ys : List Int} (h : ByKey g ns ys) {n : Int} (hn : n ∈ ys) : n ∈ ns := h.perm.mem_iff.mp hn
theorem ByKey.in_ {g : Int → Str} {k : Nat} {ys : List Int} (h : ByKey g (upInts 0 k) ys) {n : Int} (hn : n ∈ ys) : 0 ≤ n ∧ n < k := mem_up (h.mem hn)
theorem ByKey.len {g : Int → Str} {k : Nat} {ys : List Int} (h : ByKey g (upInts 0 k) ys) : ys.length = k := by
  rw [h.perm.length_eq]
  unfold upInts
  rw [List.length_map, List.length_range]
/-- the sorted turns -/
theorem ByKey.turns {x : Str} {ys : List Int} (h : ByKey (rotS x) (upInts 0 (x.length + 1)) ys) : (ys.map fun n => rotL (wh x) n.toNat).Pairwise (fun a b => ¬ b < a) ∧ (ys.map fun n => rotL (wh x) n.toNat).Perm ((List.range (x.length + 1)).map (rotL (wh x))) := by
  constructor
  · rw [List.pairwise_map]
    refine h.sor.imp fun {a b} q => ?_
    unfold sLe at q
    rwa [cs_rotS, cs_rotS] at q
  · have := h.perm.map fun n => rotL (wh x) n.toNat
    refine this.trans (List.Perm.of_eq ?_)
    unfold upInts
    rw [List.map_map]
    refine List.map_congr_left fun i _ => ?_
    show rotL (wh x) ((0 : Int) + (i : Int)).toNat = _
    rw [show ((0 : Int) + (i : Int)).toNat = i by omega]
theorem Tnd.last {x : Str} {ys : List Int} {y : Str} (h : Tnd x ys y) : cs y = (ys.map fun n => rotL (wh x) n.toNat).map fun l => l.getLastD 0 := by
  rw [h.cs_, List.map_map]
  refine List.map_congr_left fun n hn => ?_
  have := h.by_.in_ hn
  have e := rot_last (w := wh x) (n := n.toNat) (by rw [wh_len]; omega)
  show _ = (rotL (wh x) n.toNat).getLastD 0
  rw [List.getLastD_eq_getLast?, e]
  rfl
theorem Tnd.uniq {x : Str} {ys zs : List Int} {y z : Str} (h : Tnd x ys y) (h' : Tnd x zs z) : y = z := by
  refine cs_inj ?_
  rw [h.last, h'.last, sorted_uniq (h.by_.turns.2.trans h'.by_.turns.2.symm) h.by_.turns.1 h'.by_.turns.1]
theorem Tnd.len {x : Str} {ys : List Int} {y : Str} (h : Tnd x ys y) : y.length = x.length + 1 := by
  rw [← cs_len, h.cs_, List.length_map, h.by_.len]
end L2

set_option Elab.async false
set_option linter.all false
set_option maxRecDepth 100000
set_option maxHeartbeats 1000000
namespace L2
open PySem PySem.Spec PyProof.Rows
/-! ### xs.insert(i, y), i a place of xs or its length -/
end L2

set_option Elab.async false
set_option linter.all false
set_option maxRecDepth 100000
set_option maxHeartbeats 1000000
namespace L2
open PySem PySem.Spec PyProof.Rows
/-- a table stays when a list changes -/
theorem Tab.off {q : Str} {pos : Pos} {P r : Addr} {H H' : Hp} (t : Tab q pos P H) (o : Off r H H') (hr : ∃ xs, H r = some (.lst xs)) : Tab q pos P H' := by
  obtain ⟨xs, hx⟩ := hr
  rcases t.ex with h | ⟨c, n, h1, h2⟩
  · exact ⟨.inl (o _ _ h fun z => by rw [z, hx] at h; cases h)⟩
  · exact ⟨.inr ⟨c, n, o _ _ h1 (fun z => by rw [z, hx] at h1; cases h1), o _ _ h2 fun z => by rw [z, hx] at h2; cases h2⟩⟩
/-- what is new to the heap at the start may change -/
theorem Off.new {P r : Addr} {H H1 H2 : Hp} (o1 : Off P H H1) (hr : H r = none) (o2 : Off r H1 H2) : Off P H H2 := fun b ob e nb => o2 _ _ (o1 _ _ e nb) (ne_of_none e hr)
theorem Off.free {P l : Addr} {H H1 : Hp} (o : Off P H H1) (h : H1 l = none) (hP : ∃ ps, H1 P = some (objX P (PySem.W.tabObj ps))) : H l = none := by
  cases e : H l with
  | none => rfl
  | some ob =>
    by_cases z : l = P
    · obtain ⟨ps, hps⟩ := hP
      rw [z, hps] at h
      cases h
    · rw [o _ _ e z] at h
      cases h
end L2

set_option Elab.async false
set_option linter.all false
set_option maxRecDepth 100000
set_option maxHeartbeats 1000000
namespace L2
open PySem PySem.Spec PyProof.Rows
/-! ### runs -/
/-- a run begins at i -/
def rb (l : List Nat) (i : Nat) : Bool := decide (i = 0) || !decide (l[i - 1]? = l[i]?)
end L2

set_option Elab.async false
set_option linter.all false
set_option maxRecDepth 100000
set_option maxHeartbeats 1000000
namespace L2
open PySem PySem.Spec PyProof.Rows
/-! ### so many places in parts of 1, 2, 4, .. -/
/-- parts one behind the other: each a pin, or without one -/
def SegOk (p : Nat → Bool) : Nat → List Nat → Prop
  | _, [] => True
  | s, l :: r => (1 ≤ l ∧ ((p s = true ∧ l = 1) ∨ ∀ j, j < l → p (s + j) = false)) ∧ SegOk p (s + l) r
theorem SegOk.app {p : Nat → Bool} : ∀ {s : Nat} {a b : List Nat}, SegOk p s a → SegOk p (s + a.sum) b → SegOk p s (a ++ b)
  | s, [], b, _, h => by simpa using h
  | s, l :: r, b, ⟨h1, h2⟩, h => ⟨h1, SegOk.app h2 (by rw [List.sum_cons] at h; rwa [Nat.add_assoc])⟩
theorem SegOk.free {p : Nat → Bool} : ∀ {s : Nat} {ls : List Nat}, (∀ l ∈ ls, 1 ≤ l) → (∀ j, s ≤ j → j < s + ls.sum → p j = false) → SegOk p s ls
  | s, [], _, _ => trivial
  | s, l :: r, h1, h2 => by
    rw [List.sum_cons] at h2
    exact ⟨⟨h1 l (.head _), .inr fun j hj => h2 (s + j) (by omega) (by omega)⟩, SegOk.free (fun x hx => h1 x (.tail _ hx)) fun j a b => h2 j (by omega) (by omega)⟩
theorem SegOk.get {p : Nat → Bool} : ∀ {s : Nat} {ls : List Nat} {k l : Nat}, SegOk p s ls → ls[k]? = some l → 1 ≤ l ∧ ((p (s + (ls.take k).sum) = true ∧ l = 1) ∨ ∀ j, j < l → p (s + (ls.take k).sum + j) = false)
  | s, l :: r, 0, l', h, e => by
    have e' : l = l' := Option.some.inj e
    subst e'
    simpa using h.1
  | s, l :: r, k + 1, l', h, e => by
    have := SegOk.get (k := k) h.2 e
    rw [List.take_succ_cons, List.sum_cons, ← Nat.add_assoc]
    exact this
  | s, [], k, l', h, e => by simp at e
/-- pins of a text of n signs -/
structure PinsN (n : Nat) (ps : List Nat) (p : Nat → Bool) : Prop where
  up : ps.Pairwise (· < ·)
  lt : ∀ x ∈ ps, x < n
  iff : ∀ i, p i = true ↔ i ∈ ps
theorem up_lt {ps : List Nat} (h : ps.Pairwise (· < ·)) {i j : Nat} (hij : i < j) (hj : j < ps.length) : ps.getD i 0 < ps.getD j 0 := by
  have := List.pairwise_iff_getElem.mp h i j (by omega) hj hij
  rw [List.getD_eq_getElem?_getD, List.getD_eq_getElem?_getD, List.getElem?_eq_getElem (by omega), List.getElem?_eq_getElem hj]
  exact this
/-- no pin between two pins that follow -/
theorem PinsN.between {n : Nat} {ps : List Nat} {p : Nat → Bool} (h : PinsN n ps p) {j : Nat} (i : Nat) (hi : i ≤ ps.length) (h1 : i = 0 ∨ ps.getD (i - 1) 0 < j) (h2 : i < ps.length → j < ps.getD i 0) : p j = false := by
  cases e : p j with
  | false => rfl
  | true =>
    obtain ⟨t, ht⟩ := List.mem_iff_getElem?.mp ((h.iff j).mp e)
    have htl := (List.getElem?_eq_some_iff.mp ht).1
    have et : ps.getD t 0 = j := by rw [List.getD_eq_getElem?_getD, ht]; rfl
    rcases Nat.lt_or_ge t i with q | q
    · rcases h1 with z | z
      · omega
      · rcases Nat.lt_or_ge t (i - 1) with q2 | q2
        · have := up_lt h.up q2 (by omega)
          omega
        · have : t = i - 1 := by omega
          subst this
          omega
    · rcases Nat.lt_or_ge i t with q2 | q2
      · have := up_lt h.up q2 htl
        have := h2 (by omega)
        omega
      · have : t = i := by omega
        subst this
        have := h2 htl
        omega
end L2

set_option Elab.async false
set_option linter.all false
set_option maxRecDepth 100000
set_option maxHeartbeats 1000000
namespace L2
open PySem PySem.Spec PyProof.Rows TL
/-! ### enumerate of a tuple -/
section
variable {prog : Program} {w : World} {A : Around} {E : Value → Shared → Prop} {s : Shared}
end
section
variable {prog : Program} {w : World} {A : Around} {E : Value → Shared → Prop} {s : Shared}
end
end L2

set_option Elab.async false
set_option linter.all false
set_option maxRecDepth 100000
set_option maxHeartbeats 1000000
namespace L2
open PySem PySem.Spec PyProof.Rows
/-- each place without a pin ends a piece that begins behind a pin (or at the beginning) and stood ahead -/
def Gr (c : List Nat) (S : Nat → Prop) (n : Nat) : Prop := ∀ e, e < n → ¬ S e → ∃ b, b ≤ e ∧ (b = 0 ∨ S (b - 1)) ∧ ∃ s', s' < b ∧ sub c s' (e + 1 - b) = sub c b (e + 1 - b)
theorem Gr.more {c : List Nat} {S S' : Nat → Prop} {n : Nat} (h : Gr c S n) (k : ∀ i, S i → S' i) : Gr c S' n := fun e he hn => by
  obtain ⟨b, h1, h2, h3⟩ := h e he fun z => hn (k e z)
  exact ⟨b, h1, h2.imp id (k _), h3⟩
/-! ### pins of a half that comes again -/
end L2

set_option Elab.async false
set_option linter.all false
set_option maxRecDepth 100000
set_option maxHeartbeats 1000000
namespace L2
open PySem PySem.Spec PyProof.Rows
/-! ### how far from the pins -/
def dst (i x : Nat) : Nat := (i - x) + (x - i)
/-- the least distance to a pin -/
def far (ps : List Nat) (i : Nat) : Nat := ((ps.map (dst i)).min?).getD 0
/-- how many times halved until nought -/
def bl (n : Nat) : Nat := if n = 0 then 0 else bl (n / 2) + 1
termination_by n
decreasing_by omega
/-! ### the parts grow with the distance -/
/-- each part a pin, or away from all pins by a power of two that is no less than its length -/
def SegF (ps : List Nat) : Nat → List Nat → Prop
  | _, [] => True
  | s, l :: r => ((s ∈ ps ∧ l = 1) ∨ ∃ q, l ≤ 2 ^ q ∧ ∀ j, j < l → ∀ x ∈ ps, 2 ^ q ≤ dst (s + j) x) ∧ SegF ps (s + l) r
theorem SegF.app {ps : List Nat} : ∀ {s : Nat} {a b : List Nat}, SegF ps s a → SegF ps (s + a.sum) b → SegF ps s (a ++ b)
  | s, [], b, _, h => by simpa using h
  | s, l :: r, b, ⟨h1, h2⟩, h => ⟨h1, SegF.app h2 (by rw [List.sum_cons] at h; rwa [Nat.add_assoc])⟩
theorem SegF.get {ps : List Nat} : ∀ {s : Nat} {ls : List Nat} {k l : Nat}, SegF ps s ls → ls[k]? = some l → (s + (ls.take k).sum ∈ ps ∧ l = 1) ∨ ∃ q, l ≤ 2 ^ q ∧ ∀ j, j < l → ∀ x ∈ ps, 2 ^ q ≤ dst (s + (ls.take k).sum + j) x
  | s, l :: r, 0, l', h, e => by
    have e' : l = l' := Option.some.inj e
    subst e'
    simpa using h.1
  | s, l :: r, k + 1, l', h, e => by
    have := SegF.get (k := k) h.2 e
    rw [List.take_succ_cons, List.sum_cons, ← Nat.add_assoc]
    exact this
  | s, [], k, l', h, e => by simp at e
theorem SegF.of {ps : List Nat} : ∀ {s : Nat} {ls : List Nat}, (∀ k l, ls[k]? = some l → ∃ q, l ≤ 2 ^ q ∧ ∀ j, j < l → ∀ x ∈ ps, 2 ^ q ≤ dst (s + (ls.take k).sum + j) x) → SegF ps s ls
  | s, [], _ => trivial
  | s, l :: r, h => by
    refine ⟨.inr (by simpa using h 0 l rfl), SegF.of fun k l' e => ?_⟩
    have := h (k + 1) l' e
    rwa [List.take_succ_cons, List.sum_cons, ← Nat.add_assoc] at this
/-- a pin is one of the two that follow, or outside -/
theorem PinsN.out {n : Nat} {ps : List Nat} {p : Nat → Bool} (h : PinsN n ps p) {i x : Nat} (hx : x ∈ ps) (hi : i + 1 < ps.length) : x ≤ ps.getD i 0 ∨ ps.getD (i + 1) 0 ≤ x := by
  rcases Nat.lt_or_ge (ps.getD i 0) x with a | a
  · rcases Nat.lt_or_ge x (ps.getD (i + 1) 0) with b | b
    · have := h.between (j := x) (i + 1) (by omega) (.inr (by rw [Nat.add_sub_cancel]; exact a)) fun _ => b
      rw [(h.iff x).mpr hx] at this
      cases this
    · exact .inr b
  · exact .inl a
theorem PinsN.first {n : Nat} {ps : List Nat} {p : Nat → Bool} (h : PinsN n ps p) {x : Nat} (hx : x ∈ ps) : ps.getD 0 0 ≤ x := by
  rcases Nat.lt_or_ge x (ps.getD 0 0) with b | b
  · have := h.between (j := x) 0 (Nat.zero_le _) (.inl rfl) fun _ => b
    rw [(h.iff x).mpr hx] at this
    cases this
  · exact b
theorem PinsN.last {n : Nat} {ps : List Nat} {p : Nat → Bool} (h : PinsN n ps p) {x : Nat} (hx : x ∈ ps) : x ≤ ps.getD (ps.length - 1) 0 := by
  rcases Nat.lt_or_ge (ps.getD (ps.length - 1) 0) x with b | b
  · have := h.between (j := x) ps.length (Nat.le_refl _) (.inr b) fun z => absurd z (Nat.lt_irrefl _)
    rw [(h.iff x).mpr hx] at this
    cases this
  · exact b
/-- where an origin comes from -/
theorem org_at : ∀ {qs : List Prt} {i : Nat} {o : Ori}, (org qs)[i]? = some o → ∃ k q t, qs[k]? = some q ∧ i = ((qs.take k).map pLen).sum + t ∧ (orgP q)[t]? = some o
  | [], i, o, e => by simp [org] at e
  | q :: r, i, o, e => by
    have e1 : org (q :: r) = orgP q ++ org r := by simp [org]
    rw [e1] at e
    rcases Nat.lt_or_ge i (orgP q).length with z | z
    · rw [List.getElem?_append_left z] at e
      exact ⟨0, q, i, rfl, by simp, e⟩
    · rw [List.getElem?_append_right z] at e
      obtain ⟨k, q', t, h1, h2, h3⟩ := org_at e
      refine ⟨k + 1, q', t, h1, ?_, h3⟩
      rw [List.take_succ_cons, List.map_cons, List.sum_cons]
      rw [orgP_len] at z h2
      omega
end L2

set_option Elab.async false
set_option linter.all false
set_option maxRecDepth 100000
set_option maxHeartbeats 3200000
namespace L2
open PySem PySem.Spec PyProof.Rows TL
section
variable {prog : Program} {w : World} {A : Around} {R : Result → Shared → Prop} {I : Addr} {fp wr : List Addr} {G : Array GenState → Array GenState → Prop} {St : Nat → Shared → Prop} {Pv : Nat → Value → Prop}
end
section
variable {prog : Program} {w : World} {A : Around} {E : Value → Shared → Prop} {s : Shared}
end
end L2

set_option Elab.async false
set_option linter.all false
set_option maxRecDepth 100000
set_option maxHeartbeats 1000000
namespace L2
open PySem PySem.Spec PyProof.Rows TL
theorem sub_subs {c : List Nat} {p N i L : Nat} (h : i + L ≤ N) : sub (sub c p N) i L = sub c (p + i) L := by
  unfold sub
  rw [List.drop_take, List.take_take, Nat.min_eq_left (by omega), List.drop_drop]
/-- the texts of the rows, by all of them -/
theorem txs_row {rs : List Row} (rok : Rok rs) {j : Nat} {r : Row} (h : rs[j]? = some r) : (txs rs)[j]? = some (rowT (txs rs) r) := by
  rw [txs_at h, rowT_take (rok j r h).2.2]
theorem rowT_split {acc : List (List Nat)} {r : Row} {t : Nat} {o : Ori} (h : r[t]? = some o) : rowT acc r = rowT acc (r.take t) ++ (itL acc o ++ rowT acc (r.drop (t + 1))) := by
  have e : r = r.take t ++ (o :: r.drop (t + 1)) := by
    obtain ⟨hl, he⟩ := List.getElem?_eq_some_iff.mp h
    have := List.drop_eq_getElem_cons hl
    rw [he] at this
    rw [← this, List.take_append_drop]
  unfold rowT
  conv => lhs; rw [e]
  rw [List.flatMap_append, List.flatMap_cons]
theorem row_sub {rs : List Row} {r : Row} {t : Nat} {o : Ori} (h : r[t]? = some o) {i L : Nat} (hi : i + L ≤ (itL (txs rs) o).length) : offR rs r t + i + L ≤ (rowT (txs rs) r).length ∧ sub (rowT (txs rs) r) (offR rs r t + i) L = sub (itL (txs rs) o) i L := by
  rw [rowT_split (acc := txs rs) h]
  unfold offR
  refine ⟨by rw [List.length_append, List.length_append]; omega, ?_⟩
  rw [sub_right, sub_left hi]
theorem last_at {rs : List Row} {t : List Nat} (ht : (txs rs).getLast? = some t) : (txs rs)[rs.length - 1]? = some t := by
  rw [List.getLast?_eq_getElem?, txs_len] at ht
  exact ht
/-- the text of a row stands where it is met -/
theorem Occ.stand {rs : List Row} (rok : Rok rs) {t : List Nat} (ht : (txs rs).getLast? = some t) {j p : Nat} (h : Occ rs j p) : ∀ y, (txs rs)[j]? = some y → p + y.length ≤ t.length ∧ sub t p y.length = y := by
  induction h with
  | last =>
    intro y hy
    rw [last_at ht] at hy
    cases hy
    refine ⟨by omega, ?_⟩
    unfold sub
    rw [List.drop_zero, List.take_length]
  | @step i p tt j r a b c ih =>
    intro y hy
    obtain ⟨h1, h2⟩ := ih _ (txs_row rok b)
    have ey : itL (txs rs) (.inr j) = y := by
      show (txs rs).getD j [] = y
      rw [List.getD_eq_getElem?_getD, hy]
      rfl
    obtain ⟨h3, h4⟩ := row_sub (rs := rs) c (i := 0) (L := y.length) (by rw [ey]; omega)
    rw [ey, Nat.add_zero] at h4
    rw [Nat.add_zero] at h3
    refine ⟨by omega, ?_⟩
    rw [← sub_subs (N := (rowT (txs rs) r).length) h3, h2, h4]
    unfold sub
    rw [List.drop_zero, List.take_length]
def pinZ (zs : List Int) (i : Nat) : Bool := decide ((i : Int) ∈ zs)
/-! ### a row behind that names the last one alone -/
end L2

set_option Elab.async false
set_option linter.all false
set_option maxRecDepth 100000
set_option maxHeartbeats 1000000
namespace L2
open PySem PySem.Spec PyProof.Rows TL
section
variable {X : Cx}
end
end L2

set_option Elab.async false
set_option linter.all false
set_option maxRecDepth 100000
set_option maxHeartbeats 1000000
namespace L2
open PySem PySem.Spec PyProof.Rows TL
section
variable {X : Cx}
end
end L2

set_option Elab.async false
set_option linter.all false
set_option maxRecDepth 100000
set_option maxHeartbeats 1000000
namespace L2
open PySem PySem.Spec PyProof.Rows TL
theorem lpI_at : ∀ {ps : List Prt} {s k : Nat} {p : Prt}, ps[k]? = some p → ((s + ((ps.take k).map pLen).sum + pLen p : Nat) : Int) - 1 ∈ lpI s ps
  | [], s, k, p, h => by simp at h
  | q :: r, s, 0, p, h => by
    have : q = p := Option.some.inj h
    subst this
    exact List.mem_cons.mpr (.inl (by simp))
  | q :: r, s, k + 1, p, h => by
    have := lpI_at (s := s + pLen q) (ps := r) (k := k) (p := p) (by simpa using h)
    refine List.mem_cons.mpr (.inr ?_)
    rw [List.take_succ_cons, List.map_cons, List.sum_cons]
    rw [show s + (pLen q + ((r.take k).map pLen).sum) + pLen p = s + pLen q + ((r.take k).map pLen).sum + pLen p by omega]
    exact this
theorem org_part {ps : List Prt} {k : Nat} {p : Prt} (h : ps[k]? = some p) {d : Nat} (hd : d < pLen p) : (org ps)[((ps.take k).map pLen).sum + d]? = (orgP p)[d]? := by
  have e : ps = ps.take k ++ (p :: ps.drop (k + 1)) := by
    obtain ⟨hl, he⟩ := List.getElem?_eq_some_iff.mp h
    have := List.drop_eq_getElem_cons hl
    rw [he] at this
    rw [← this, List.take_append_drop]
  have hl : (org (ps.take k)).length = ((ps.take k).map pLen).sum := org_len _
  have e2 : org ps = org (ps.take k) ++ (orgP p ++ org (ps.drop (k + 1))) := by
    conv => lhs; rw [e]
    unfold org
    rw [List.flatMap_append, List.flatMap_cons]
  rw [e2, List.getElem?_append_right (by omega), hl, Nat.add_sub_cancel_left, List.getElem?_append_left (by rw [orgP_len]; exact hd)]
/-- each piece of a text that a form tells stands over the end of a part -/
theorem Sol.touch {t : List Nat} {rk : Nat → Nat} {ps : List Prt} (sol : Sol t rk (org ps)) {w : List Nat} (hw : 1 ≤ w.length) : ∀ n i, rk i < n → i + w.length ≤ t.length → sub t i w.length = w → ∃ j z, j + w.length ≤ t.length ∧ sub t j w.length = w ∧ z ∈ lpI 0 ps ∧ (j : Int) ≤ z ∧ z < (j : Int) + w.length := by
  intro n
  induction n with
  | zero => intro i h; omega
  | succ n ih =>
    intro i hi h1 h2
    obtain ⟨o, ho⟩ : ∃ o, (org ps)[i]? = some o := ⟨_, List.getElem?_eq_getElem (by rw [sol.len]; omega)⟩
    obtain ⟨k, q, d, k1, k2, k3⟩ := org_at ho
    have hd : d < pLen q := by rw [← orgP_len]; exact (List.getElem?_eq_some_iff.mp k3).1
    have hlp := lpI_at (s := 0) k1
    rw [Nat.zero_add] at hlp
    rcases Nat.lt_or_ge (i + w.length) (((ps.take k).map pLen).sum + pLen q) with z | z
    · match q, hd, k1, k3, z with
      | .inl c, hd, k1, k3, z =>
        have hd : d < 1 := hd
        have z : i + w.length < ((ps.take k).map pLen).sum + 1 := z
        omega
      | .inr (o', m), hd, k1, k3, z =>
        have hd : d < m := hd
        have z : i + w.length < ((ps.take k).map pLen).sum + m := z
        have hor : ∀ e, e < w.length → (org ps)[i + e]? = some (Sum.inr (o' + d + e) : Ori) := fun e he => by
          have := org_part k1 (d := d + e) (by show d + e < m; omega)
          rw [k2, Nat.add_assoc, this]
          show ((List.range m).map fun k => (Sum.inr (o' + k) : Ori))[d + e]? = _
          rw [List.getElem?_map, List.getElem?_range (by omega)]
          rw [Nat.add_assoc]
          rfl
        have hc : ∀ e, e < w.length → o' + d + e < t.length ∧ t[o' + d + e]? = t[i + e]? ∧ rk (o' + d + e) < rk (i + e) := fun e he => sol.cp _ _ (hor e he)
        have hlast := (hc (w.length - 1) (by omega)).1
        have hj : o' + d + w.length ≤ t.length := by omega
        refine ih (o' + d) ?_ hj ?_
        · have := (hc 0 (by omega)).2.2
          rw [Nat.add_zero, Nat.add_zero] at this
          omega
        · refine Eq.trans (?_ : sub t (o' + d) w.length = sub t i w.length) h2
          refine List.ext_getElem? fun e => ?_
          rcases Nat.lt_or_ge e w.length with q | q
          · have := (hc e q).2.1
            unfold sub
            rw [List.getElem?_take_of_lt q, List.getElem?_take_of_lt q, List.getElem?_drop, List.getElem?_drop]
            exact this
          · rw [List.getElem?_eq_none (by rw [sub_len hj]; exact q), List.getElem?_eq_none (by rw [sub_len h1]; exact q)]
    · exact ⟨i, _, h1, h2, hlp, by omega, by omega⟩
theorem Sol.held {t : List Nat} {rk : Nat → Nat} {ps : List Prt} (sol : Sol t rk (org ps)) : ¬ ∃ w, Missed t (pinZ (lpI 0 ps)) w := by
  rintro ⟨w, hw⟩
  obtain ⟨i, i1, i2⟩ := hw.at'
  obtain ⟨j, z, j1, j2, j3, j4, j5⟩ := sol.touch hw.ne (rk i + 1) i (by omega) i1 i2
  have := hw.free j j1 j2 (z.toNat - j) (by omega)
  unfold pinZ at this
  rw [show ((j + (z.toNat - j) : Nat) : Int) = z by omega] at this
  exact absurd j3 (of_decide_eq_false this)
/-! ### following copies -/
inductive Fol (os : List Ori) : Nat → Nat → Nat → Prop where
  | sign {i c : Nat} : os[i]? = some (Sum.inl c) → Fol os i 0 c
  | copy {i j m c : Nat} : os[i]? = some (Sum.inr j) → Fol os j m c → Fol os i (m + 1) c
theorem Fol.uniq {os : List Ori} {i m c : Nat} (h : Fol os i m c) : ∀ {m' c' : Nat}, Fol os i m' c' → m = m' ∧ c = c' := by
  induction h with
  | sign e =>
    intro m' c' h'
    cases h' with
    | sign e' => rw [e] at e'; cases e'; exact ⟨rfl, rfl⟩
    | copy e' _ => rw [e] at e'; cases e'
  | copy e _ ih =>
    intro m' c' h'
    cases h' with
    | sign e' => rw [e] at e'; cases e'
    | copy e' h2 =>
      rw [e] at e'
      cases e'
      obtain ⟨a, b⟩ := ih h2
      exact ⟨by omega, b⟩
theorem Fol.lt {os : List Ori} {i m c : Nat} (h : Fol os i m c) : i < os.length := by
  cases h with
  | sign e => exact (List.getElem?_eq_some_iff.mp e).1
  | copy e _ => exact (List.getElem?_eq_some_iff.mp e).1
theorem Fol.way {os : List Ori} {i m c : Nat} (h : Fol os i m c) : ∃ l : List Nat, l.length = m + 1 ∧ l.Nodup ∧ ∀ x ∈ l, x < os.length ∧ ∃ m', m' ≤ m ∧ Fol os x m' c := by
  induction h with
  | @sign i c e => exact ⟨[i], rfl, by simp, fun x hx => by rw [List.mem_singleton.mp hx]; exact ⟨(Fol.sign e).lt, 0, Nat.le_refl _, .sign e⟩⟩
  | @copy i j m c e h ih =>
    obtain ⟨l, l1, l2, l3⟩ := ih
    have hi := Fol.copy e h
    refine ⟨i :: l, by rw [List.length_cons, l1], List.nodup_cons.mpr ⟨fun q => ?_, l2⟩, fun x hx => ?_⟩
    · obtain ⟨_, m', g1, g2⟩ := l3 i q
      have := (hi.uniq g2).1
      omega
    · rcases List.mem_cons.mp hx with q | q
      · rw [q]
        exact ⟨hi.lt, m + 1, Nat.le_refl _, hi⟩
      · obtain ⟨a, m', b, d⟩ := l3 x q
        exact ⟨a, m', by omega, d⟩
theorem Fol.few {os : List Ori} {i m c : Nat} (h : Fol os i m c) : m < os.length := by
  obtain ⟨l, l1, l2, l3⟩ := h.way
  have := nodup_sub l (List.range os.length) l2 fun x hx => List.mem_range.mpr (l3 x hx).1
  rw [l1, List.length_range] at this
  omega
/-- copies of like signs, be they going round or not -/
structure SolW (t : List Nat) (os : List Ori) : Prop where
  len : os.length = t.length
  sg : ∀ i c : Nat, os[i]? = some (Sum.inl c : Ori) → t[i]? = some c
  cp : ∀ i j : Nat, os[i]? = some (Sum.inr j : Ori) → j < t.length ∧ t[j]? = t[i]?
noncomputable def rkOf (os : List Ori) (i : Nat) : Nat := open Classical in if h : ∃ m c, Fol os i m c then h.choose else 0
theorem rkOf_eq {os : List Ori} {i m c : Nat} (h : Fol os i m c) : rkOf os i = m := by
  have hx : ∃ m c, Fol os i m c := ⟨m, c, h⟩
  unfold rkOf
  rw [dif_pos hx]
  obtain ⟨c', hc⟩ := hx.choose_spec
  exact (hc.uniq h).1
theorem SolW.sol {t : List Nat} {os : List Ori} (h : SolW t os) (all : ∀ i, i < t.length → ∃ m c, Fol os i m c) : Sol t (rkOf os) os := by
  refine ⟨h.len, h.sg, fun i j e => ?_, fun i hi => ?_⟩
  · obtain ⟨a, b⟩ := h.cp i j e
    obtain ⟨m, c, hc⟩ := all j a
    refine ⟨a, b, ?_⟩
    rw [rkOf_eq hc, rkOf_eq (Fol.copy e hc)]
    omega
  · obtain ⟨m, c, hc⟩ := all i hi
    rw [rkOf_eq hc, ← h.len]
    exact hc.few
/-- told as signs, a place needs no more copies -/
theorem Fol.told {os os' : List Ori} (h : ∀ i : Nat, os'[i]? = os[i]? ∨ ∃ c : Nat, os'[i]? = some (Sum.inl c)) {i m c : Nat} (hc : Fol os i m c) : ∃ m' c', Fol os' i m' c' := by
  induction hc with
  | @sign i c e =>
    rcases h i with q | ⟨c', q⟩
    · exact ⟨0, c, .sign (q.trans e)⟩
    · exact ⟨0, c', .sign q⟩
  | @copy i j m c e _ ih =>
    rcases h i with q | ⟨c', q⟩
    · obtain ⟨m', c', g⟩ := ih
      exact ⟨m' + 1, c', .copy (q.trans e) g⟩
    · exact ⟨0, c', .sign q⟩
end L2

set_option Elab.async false
set_option linter.all false
set_option maxRecDepth 100000
set_option maxHeartbeats 4000000
namespace L2
open PySem PySem.Spec PyProof.Rows

/-! ### exceptions of our own classes: how one lies behind a call -/
/-- g: the heap at the entry; h: now. The exception at a and its trace entry are new and not tracked, the entry's flight has ended -/
def Trc (g h : Heap) (H : Hp) (a : Addr) (cls : Value) (dd : Option Addr) : Prop :=
  ∃ (oe : Obj) (vs : Array Value) (T : Addr) (oT : Obj) (ts : Array Value), h.get? a = some oe ∧ oe.cls = cls ∧ oe.dict = dd ∧ oe.data = Data.fields vs ∧ vs[1]? = some (Value.ref T) ∧ T ≠ a ∧
    h.get? T = some oT ∧ oT.data = Data.fields ts ∧ ts[3]? = some Value.none ∧ H a = none ∧ H T = none ∧ g.get? a = none ∧ g.get? T = none
/-- the wish of an exception: its class, its dict, the tracked heap -/
def CXE (P : Program) (w : World) : CXT := fun outer H s E e s' =>
  ∃ (a : Addr) (cls : Value) (dd : Option Addr) (H' : Hp), e = Value.ref a ∧ s'.os = s.os ∧ AllBare s'.gens ∧ Un (frs outer) [] H H' s.heap s'.heap ∧ HOk P w H' s'.heap ∧ Trc s.heap s'.heap H' a cls dd ∧ E cls dd H'

theorem frs_cons {env : Env} {l : List Env} {L : Addr} (h : env.frame = some L) : frs (env :: l) = L :: frs l := by
  unfold frs; rw [List.filterMap_cons, h]
theorem ObjOk.ex {P : Program} {w : World} {H : Hp} {h : Heap} {a : Addr} {o : HO} (x : ObjOk P w H h a o) : ∃ ob, h.get? a = some ob := by
  cases o with
  | lst xs => obtain ⟨_, _, _, _, e⟩ := x; exact ⟨_, e⟩
  | tup xs => obtain ⟨_, _, _, ob, e, _⟩ := x; exact ⟨_, e⟩
  | dK kvs => obtain ⟨_, _, _, _, o, _, _, e, _⟩ := x; exact ⟨_, e⟩
  | dT kvs => obtain ⟨_, _, _, _, o, _, _, e, _⟩ := x; exact ⟨_, e⟩
  | set S n => obtain ⟨o, _, _, _, e, _⟩ := x; exact ⟨_, e⟩
  | ins C dx fs => obtain ⟨_, _, _, e, _⟩ := x; exact ⟨_, e⟩
  | own y => obtain ⟨_, e⟩ := x; exact ⟨_, e⟩
  | xd fs => obtain ⟨_, ⟨_, _, _, e, _⟩, _⟩ := x; exact ⟨_, e⟩
  | rng lo hi => obtain ⟨_, _, _, e⟩ := x; exact ⟨_, e⟩
  | frz ob u => obtain ⟨e, _⟩ := x; exact ⟨_, e⟩
  | tbl ps => exact ⟨_, (show h.get? a = some _ from x)⟩
  | met f y => exact ⟨_, (show h.get? a = some _ from x)⟩
  | ext φ => obtain ⟨_, ⟨_, e⟩, _⟩ := x; exact ⟨_, e⟩
/-- what is tracked stays where all but untracked ones stay -/
theorem HOk.off {P : Program} {w : World} {H : Hp} {h h' : Heap} (ok : HOk P w H h) (l : List Addr) (hl : ∀ b ∈ l, H b = none) (k : ∀ b o, h.get? b = some o → b ∉ l → h'.get? b = some o) : HOk P w H h' := fun a o e =>
  (ok a o e).stay (fun b u hb q => k b u q fun z => by
    rcases hb with rfl | hb
    · rw [hl b z] at e; cases e
    · rw [hl b z] at hb; cases hb) (fun _ q => q) fun _ _ q => q
theorem FunFrames.to {h h' base base' : Heap} : ∀ {l : List Env}, h.FunFrames base l → (∀ b ∈ frs l, base'.get? b = none) → (∀ b o, b ∈ frs l → h.get? b = some o → ∃ sl, h'.get? b = some { o with slots := sl }) → h'.FunFrames base' l := by
  intro l
  induction l with
  | nil => intro _ _ _; trivial
  | cons env r ih =>
    intro hl h1 h2
    obtain ⟨hk, ⟨L, o, hf, hn, ho, hd⟩, hr⟩ := hl
    rw [frs_cons hf] at h1 h2
    obtain ⟨sl, e⟩ := h2 L o List.mem_cons_self ho
    exact ⟨hk, ⟨L, _, hf, h1 L List.mem_cons_self, e, hd⟩, ih hr (fun b hb => h1 b (List.mem_cons_of_mem _ hb)) fun b o hb => h2 b o (List.mem_cons_of_mem _ hb)⟩
/-- behind: the older objects are kept but the frames' slots -/
structure Stays (fs : List Addr) (g h h' : Heap) : Prop where
  keep : ∀ b o o', g.get? b = some o → h.get? b = some o' → b ∉ fs → h'.get? b = some o'
  slot : ∀ b o, b ∈ fs → h.get? b = some o → ∃ sl, h'.get? b = some { o with slots := sl }

/-- all but what stands at ch, of frames all but the slots -/
structure Near (fs ch : List Addr) (h h' : Heap) : Prop where
  keep : ∀ b o, h.get? b = some o → b ∉ fs → b ∉ ch → h'.get? b = some o
  slot : ∀ b o, h.get? b = some o → b ∈ fs → b ∉ ch → ∃ sl, h'.get? b = some { o with slots := sl }
theorem map_dict {o : Obj} {f : Array Value → Array Value} : (Obj.mapFields f o).dict = o.dict := by
  obtain ⟨c, d, da, sl⟩ := o
  cases da <;> rfl
section
variable {M : Model} {A : Around} {env : Env} {outer : List Env} {L e : Addr} {b0 : Heap} {s : Shared} {Q : Unit → Shared → Prop} {E : Value → Shared → Prop} {oe : Obj} {vs : Array Value}
/-- the end of a note: a new entry with no flight -/
def Noted (fs : List Addr) (h : Heap) (e : Addr) (oe : Obj) (h' : Heap) : Prop :=
  ∃ (oe' : Obj) (vs' : Array Value) (T : Addr) (oT : Obj) (ts : Array Value), Near fs [e] h h' ∧ h'.get? e = some oe' ∧ oe'.cls = oe.cls ∧ oe'.dict = oe.dict ∧ oe'.data = Data.fields vs' ∧ vs'[1]? = some (Value.ref T) ∧
    h.get? T = none ∧ h'.get? T = some oT ∧ oT.data = Data.fields ts ∧ ts[3]? = some Value.none
theorem entry_on {head : Value} {hn : Bool} (fr : A.frames = some (env :: outer)) (ff : s.heap.FunFrames b0 (env :: outer)) (hL : env.frame = some L) (he : s.heap.get? e = some oe) (hd : oe.data = Data.fields vs) (hv : 1 < vs.size)
    (h : ∀ h', Noted (frs (env :: outer)) s.heap e oe h' → Q () { s with heap := h' }) :
    wpAny M A (do
      let a ← frameOf env
      let pl ← entryPlaceOf L hn
      let b ← EntryCells.newEntry head a Value.none (rawInt ↑L) Value.none pl
      setField (Value.ref e) 1 b) (fun _ s2 => wpAny M A (setFlight (.ref e) none) Q E s2) E s := by
  have hef : e ∉ frs (env :: outer) := fun z => by
    obtain ⟨_, o, ho, nd⟩ := ff.mem z
    rw [he] at ho; cases ho
    exact nd _ hd
  refine wpAny_bind (wpAny_frameOf_fun fr ff hL fun h1 so => ?_)
  refine wpAny_bind (wpAny_entryPlaceOf fun pl ip => ?_)
  refine wpAny_bind ?_
  unfold EntryCells.newEntry newFields
  refine wpAny_newObj_type ?_ (ip.sizeOk5 _ _ _ _ _)
  obtain ⟨hsz, hk, hs⟩ := so
  have he1 : h1.get? e = some oe := (hk e hef).trans he
  have hne : e ≠ h1.objs.size := Nat.ne_of_lt (Heap.lt_size he1)
  let oT : Obj := { cls := .type "traceback", data := Data.fields ([head, Value.ref L, Value.none, rawInt ↑L, Value.none] ++ if pl.isEmpty = true then List.replicate 6 Value.none else pl).toArray }
  have he2 : (h1.push oT).get? e = some oe := Heap.get?_push_of_some _ he1
  have hT2 : (h1.push oT).get? h1.objs.size = some oT := Heap.get?_push_size _ rfl
  refine wpAny_setField he2 hd hv ?_
  have he3 : ((h1.push oT).update e (Obj.mapFields fun x => x.setIfInBounds 1 (Value.ref h1.objs.size))).get? e = some (Obj.mapFields (fun x => x.setIfInBounds 1 (Value.ref h1.objs.size)) oe) :=
    Heap.get?_update_self _ he2 (Obj.isFreed_of_fields (Obj.data_mapFields hd _))
  have hT3 : ((h1.push oT).update e (Obj.mapFields fun x => x.setIfInBounds 1 (Value.ref h1.objs.size))).get? h1.objs.size = some oT := by
    rw [Heap.get?_update_other _ _ hne]; exact hT2
  have hv1 : (vs.setIfInBounds 1 (Value.ref h1.objs.size))[1]? = some (Value.ref h1.objs.size) := by
    rw [Array.getElem?_setIfInBounds_self_of_lt hv]
  refine wpAny_setFlight_none he3 (Obj.data_mapFields hd _) hv1 hT3 rfl (by simp) ?_
  refine h _ ⟨_, vs.setIfInBounds 1 (Value.ref h1.objs.size), h1.objs.size, _, Array.setIfInBounds ([head, Value.ref L, Value.none, rawInt ↑L, Value.none] ++ if pl.isEmpty = true then List.replicate 6 Value.none else pl).toArray 3 Value.none, ⟨fun b o q nb nc => ?_, fun b o q hb nc => ?_⟩, ?_, Obj.cls_mapFields _ (fun x => x.setIfInBounds 1 (Value.ref h1.objs.size)), map_dict, Obj.data_mapFields hd (fun x => x.setIfInBounds 1 (Value.ref h1.objs.size)), hv1, ?_, Heap.get?_update_self (Obj.mapFields fun x => x.setIfInBounds 3 Value.none) hT3 (Obj.isFreed_of_fields (Obj.data_mapFields (o := oT) rfl _)), Obj.data_mapFields (o := oT) rfl (fun x => x.setIfInBounds 3 Value.none), ?_⟩
  · have q1 : h1.get? b = some o := (hk b nb).trans q
    have n1 : b ≠ h1.objs.size := Nat.ne_of_lt (Heap.lt_size q1)
    rw [Heap.get?_update_other _ _ (Ne.symm n1), Heap.get?_update_other _ _ (fun z => nc (by simp [z]))]
    exact Heap.get?_push_of_some _ q1
  · obtain ⟨sl, q1⟩ := hs b o q
    have n1 : b ≠ h1.objs.size := Nat.ne_of_lt (Heap.lt_size q1)
    refine ⟨sl, ?_⟩
    rw [Heap.get?_update_other _ _ (Ne.symm n1), Heap.get?_update_other _ _ (fun z => nc (by simp [z]))]
    exact Heap.get?_push_of_some _ q1
  · rw [Heap.get?_update_other _ _ (Ne.symm hne)]; exact he3
  · exact Heap.get?_none_of_le (Nat.le_of_eq hsz.symm)
  · rw [Array.getElem?_setIfInBounds_self_of_lt (by simp)]
/-- an exception that is new, or that came from a callee -/
def Flown (h : Heap) (e : Addr) (vs : Array Value) : Prop :=
  vs[1]? = some Value.none ∨ ∃ (T : Addr) (oT : Obj) (ts : Array Value), vs[1]? = some (Value.ref T) ∧ h.get? T = some oT ∧ oT.data = Data.fields ts ∧ ts[3]? = some Value.none
theorem note_on (fr : A.frames = some (env :: outer)) (ff : s.heap.FunFrames b0 (env :: outer)) (hL : env.frame = some L) (he : s.heap.get? e = some oe) (hd : oe.data = Data.fields vs) (hv : Flown s.heap e vs)
    (h : ∀ h', Noted (frs (env :: outer)) s.heap e oe h' → Q () { s with heap := h' }) : wpAny M A (noteFrame (.ref e) env) (fun _ s2 => wpAny M A (setFlight (.ref e) none) Q E s2) E s := by
  have hv1 : 1 < vs.size := by
    rcases hv with z | ⟨_, _, _, z, _⟩
    · exact (Array.getElem?_eq_some_iff.mp z).1
    · exact (Array.getElem?_eq_some_iff.mp z).1
  unfold noteFrame
  rw [hL]
  dsimp only
  rcases hv with z | ⟨T, oT, ts, z, hT, hTd, h3⟩
  · refine wpAny_bind (wpAny_field he hd z ?_)
    refine wpAny_ite_false (by rfl) ?_
    exact entry_on fr ff hL he hd hv1 h
  · refine wpAny_bind (wpAny_field he hd z ?_)
    refine wpAny_ite_true (by rfl) ?_
    refine wpAny_bind (wpAny_field hT hTd h3 ?_)
    refine wpAny_ite_false (by rfl) ?_
    refine wpAny_bind (wpAny_setField hT hTd (Array.getElem?_eq_some_iff.mp h3).1 ?_)
    rw [show (Heap.update s.heap T (Obj.mapFields fun x => x.setIfInBounds 3 Value.none)) = s.heap from Heap.update_setField_same s.heap T oT ts 3 Value.none hT hTd h3]
    exact entry_on fr ff hL he hd hv1 h
theorem leave_ex (fr : A.frames = some (env :: outer)) (ff : s.heap.FunFrames b0 (env :: outer)) (hL : env.frame = some L) (he : s.heap.get? e = some oe) (hd : oe.data = Data.fields vs) (hv : Flown s.heap e vs)
    (h : ∀ h', Noted (frs (env :: outer)) s.heap e oe h' → Q () { s with heap := h' }) : wpAny M A (leaving env (.ref e)) Q E s := by
  unfold leaving
  exact wpAny_bind (note_on fr ff hL he hd hv h)
end

section
variable {P : Program} {w : World} {env : Env} {outer : List Env} {a : Addr} {H : Hp} {g h h' : Heap} {oe : Obj}
/-- behind a note: what is tracked, the trace, the older objects -/
theorem Noted.out (n : Noted (frs (env :: outer)) h a oe h') (hf : ∀ b ∈ frs (env :: outer), H b = none) (hok : HOk P w H h) (ha : H a = none) (hga : g.get? a = none) (hea : h.get? a = some oe) (na : a ∉ frs (env :: outer)) (hg : ∀ b o, g.get? b = some o → ∃ o', h.get? b = some o') :
    HOk P w H h' ∧ Trc g h' H a oe.cls oe.dict ∧ Stays (frs (env :: outer)) g h h' := by
  obtain ⟨oe', vs', T, oT, ts, nr, k1, k2, k3, k4, k5, k6, k7, k8, k9⟩ := n
  have hHT : H T = none := by
    cases q : H T with
    | none => rfl
    | some x => obtain ⟨ob, e⟩ := (hok T x q).ex; rw [e] at k6; cases k6
  have hgT : g.get? T = none := by
    cases q : g.get? T with
    | none => rfl
    | some x => obtain ⟨ob, e⟩ := hg T x q; rw [e] at k6; cases k6
  refine ⟨hok.off (a :: frs (env :: outer)) (fun b hb => ?_) fun b o e nb => nr.keep b o e (fun z => nb (List.mem_cons_of_mem _ z)) (fun z => nb (by simp only [List.mem_singleton] at z; subst z; exact List.mem_cons_self)),
    ⟨oe', vs', T, oT, ts, k1, k2, k3, k4, k5, fun z => ?_, k7, k8, k9, ha, hHT, hga, hgT⟩, ⟨fun b o o' e e' nb => nr.keep b o' e' nb fun z => ?_, fun b o hb e => ?_⟩⟩
  · rcases List.mem_cons.mp hb with rfl | hb
    · exact ha
    · exact hf b hb
  · subst z; rw [hea] at k6; cases k6
  · simp only [List.mem_singleton] at z; subst z; rw [hga] at e; cases e
  · by_cases z : b = a
    · subst z
      exact absurd hb na
    · exact nr.slot b o e hb (by simpa using z)
end
end L2

set_option Elab.async false
set_option linter.all false
set_option maxRecDepth 100000
set_option maxHeartbeats 4000000
namespace L2
open PySem PySem.Spec PyProof.Rows

theorem Un.fly {env : Env} {outer : List Env} {H0 H1 H2 : Hp} {g h1 h2 h3 : Heap} {L : Addr} (u1 : Un (frs outer) [] H0 H1 g h1) (u2 : Un (frs (env :: outer)) [] H1 H2 h1 h2) (st : Stays (frs (env :: outer)) g h2 h3)
    (hL : env.frame = some L) (hg : g.get? L = none) : Un (frs outer) [] H0 H2 g h3 := by
  have nx : ∀ b : Addr, b ∉ ([] : List Addr) := fun b z => nomatch z
  have nL : ∀ b o, g.get? b = some o → b ∉ frs outer → b ∉ frs (env :: outer) := fun b o e nb z => by
    rw [frs_cons hL] at z
    rcases List.mem_cons.mp z with rfl | z
    · rw [hg] at e; cases e
    · exact nb z
  have sub : ∀ b, b ∈ frs outer → b ∈ frs (env :: outer) := fun b z => by rw [frs_cons hL]; exact List.mem_cons_of_mem _ z
  refine ⟨fun b o e n nb _ => ?_, fun b o e n hb _ => ?_, fun b o e n _ => ?_, fun b o e _ => ?_, fun b xs e => u2.tups b xs (u1.tups b xs e), fun b o u e => u2.frzs b o u (u1.frzs b o u e), fun b ps e => ?_⟩
  · have nb' := nL b o e nb
    exact st.keep b o o e (u2.keep b o (u1.keep b o e n nb (nx b)) (u1.free b o e n (nx b)) nb' (nx b)) nb'
  · obtain ⟨sl, e1⟩ := u1.slot b o e n hb (nx b)
    obtain ⟨sl2, e2⟩ := u2.slot b _ e1 (u1.free b o e n (nx b)) (sub b hb) (nx b)
    obtain ⟨sl3, e3⟩ := st.slot b _ (sub b hb) e2
    exact ⟨sl3, e3⟩
  · obtain ⟨o', e1⟩ := u1.there b o e (nx b)
    exact u2.free b o' e1 (u1.free b o e n (nx b)) (nx b)
  · obtain ⟨o1, e1⟩ := u1.there b o e (nx b)
    obtain ⟨o2, e2⟩ := u2.there b o1 e1 (nx b)
    by_cases hb : b ∈ frs (env :: outer)
    · obtain ⟨sl, e3⟩ := st.slot b o2 hb e2
      exact ⟨_, e3⟩
    · exact ⟨o2, st.keep b o o2 e e2 hb⟩
  · obtain ⟨m1, e1⟩ := u1.tbls b ps e
    obtain ⟨m2, e2⟩ := u2.tbls b _ e1
    exact ⟨m1 ++ m2, by rw [e2, Array.append_assoc]⟩

section
variable {P : Program} {w : World} {K : PySem.W.Frag} {mg : Str → Option Value} {base : Heap} {N : List Str} {qual : Str} {scope : Scope} {f : Addr} {cd : Value} {A : Around} {outer : List Env} {s : Shared} {H : Hp} {E E' : XK}
/-- an exception of a callee leaves the caller, too -/
theorem pass_on (hE : ∀ c a H, E' c a H → E c a H) : Passes (CXE P w) (cxOf (CXE P w) P w K mg base N qual scope f cd A outer s H E) E' := by
  intro pins σ H1 s1 e s2 I hx
  obtain ⟨a, cls, dd, H2, rfl, os, bare, un, hok, tr, q⟩ := hx
  have un : Un (frs (envOfC qual scope s.heap.objs.size f cd :: outer)) [] H1 H2 s1.heap s2.heap := un
  have u1 : Un (frs outer) [] H H1 s.heap s1.heap := I.base
  have ff : s1.heap.FunFrames base (envOfC qual scope s.heap.objs.size f cd :: outer) := I.stack
  have hf1 : ∀ b ∈ frs (envOfC qual scope s.heap.objs.size f cd :: outer), H1 b = none := I.stkFree
  have hf : ∀ b ∈ frs (envOfC qual scope s.heap.objs.size f cd :: outer), H2 b = none := fun b hb => by
    obtain ⟨_, o, ho, _⟩ := ff.mem hb
    exact un.free b o ho (hf1 b hb) (by simp)
  have gd : ∀ b o, s.heap.get? b = some o → ∃ o', s1.heap.get? b = some o' := fun b o e => u1.there b o e (by simp)
  have ng : ∀ b, s1.heap.get? b = none → s.heap.get? b = none := fun b e => by
    cases q : s.heap.get? b with
    | none => rfl
    | some o => obtain ⟨o', e'⟩ := gd b o q; rw [e] at e'; cases e'
  have ff2 : s2.heap.FunFrames base (envOfC qual scope s.heap.objs.size f cd :: outer) := FunFrames.to ff (fun b hb => (ff.mem hb).1) fun b o hb e => un.slot b o e (hf1 b hb) hb (by simp)
  obtain ⟨oe, vs, T, oT, ts, h1, h2, hdd, h3, h5, h6, h7, h8, h9, h10, h11, h12, h13⟩ := tr
  subst h2 hdd
  have na : a ∉ frs (envOfC qual scope s.heap.objs.size f cd :: outer) := fun z => by
    obtain ⟨_, o, ho, nd⟩ := ff2.mem z
    rw [h1] at ho; cases ho
    exact nd _ h3
  refine leave_ex (L := s.heap.objs.size) I.ok.frames ff2 rfl h1 h3 (.inr ⟨T, oT, ts, h5, h7, h8, h9⟩) fun h' n => ?_
  obtain ⟨ok', t', st⟩ := n.out (g := s.heap) hf hok h10 (ng _ h12) h1 na fun b o e => by
    obtain ⟨o', e'⟩ := gd b o e
    exact un.there b o' e' (by simp)
  exact ⟨a, _, _, H2, rfl, os.trans I.os, bare, Un.fly u1 un st rfl (Heap.get?_none_of_le (Nat.le_refl _)), ok', t', hE _ _ _ q⟩
/-- one that is made here, not tracked, leaves the frame -/
theorem out_new {pins : List (Addr × Obj)} {σ : St} {H1 : Hp} {s1 : Shared} {a : Addr} {oe : Obj} {vs : Array Value} (I : Inv (cxOf (CXE P w) P w K mg base N qual scope f cd A outer s H E) pins σ H1 s1)
    (he : s1.heap.get? a = some oe) (hd : oe.data = Data.fields vs) (hv : vs[1]? = some Value.none) (ha : H1 a = none) (hg : s.heap.get? a = none) (q : E oe.cls oe.dict H1) : (cxOf (CXE P w) P w K mg base N qual scope f cd A outer s H E).xe (.ref a) s1 := by
  have u1 : Un (frs outer) [] H H1 s.heap s1.heap := I.base
  have ff : s1.heap.FunFrames base (envOfC qual scope s.heap.objs.size f cd :: outer) := I.stack
  have hf1 : ∀ b ∈ frs (envOfC qual scope s.heap.objs.size f cd :: outer), H1 b = none := I.stkFree
  have na : a ∉ frs (envOfC qual scope s.heap.objs.size f cd :: outer) := fun z => by
    obtain ⟨_, o, ho, nd⟩ := ff.mem z
    rw [he] at ho; cases ho
    exact nd _ hd
  refine leave_ex (L := s.heap.objs.size) I.ok.frames ff rfl he hd (.inl hv) fun h' n => ?_
  obtain ⟨ok', t', st⟩ := n.out (g := s.heap) hf1 I.hok ha hg he na fun b o e => u1.there b o e (by simp)
  exact ⟨a, _, _, H1, rfl, I.os, I.bare, Un.fly u1 Un.refl st rfl (Heap.get?_none_of_le (Nat.le_refl _)), ok', t', q⟩
end

/-! ### our classes of exceptions -/
theorem OwnTail.has {h : Heap} {bmB bm : List Value} {v : Value} (t : OwnTail h bmB bm) (c : bmB.contains v = true) : bm.contains v = true := by
  induction t with
  | base => exact c
  | own _ _ _ _ ih =>
    rw [List.contains_cons, ih, Bool.or_true]
theorem OwnTail.kept {h h' : Heap} {bmB bm : List Value} (t : OwnTail h bmB bm) (k : ∀ b o, h.get? b = some o → h'.get? b = some o) : OwnTail h' bmB bm := by
  induction t with
  | base => exact .base
  | own a b c _ ih => exact .own (k _ _ a) (b.keeps k) c ih
/-- x is our exception class at C, without an __init__ of its own or of its bases -/
structure ExC (K : PySem.W.Frag) (mg : Str → Option Value) (x : Str) (C : Addr) : Prop where
  glob : mg x = some (.ref C)
  exc : PySem.W.excIn K C [Value.type "ValueError", Value.type "Exception", Value.type "BaseException", Value.type "object"] "ValueError.__new__" = true
/-- what X wants of an exception: E of its class, its dict and the tracked heap -/
structure Flies (X : Cx) (E : XK) : Prop where
  made : ∀ (pins : List (Addr × Obj)) (σ : St) (H1 : Hp) (s1 : Shared) (a : Addr) (oe : Obj) (vs : Array Value), Inv X pins σ H1 s1 → s1.heap.get? a = some oe → oe.data = Data.fields vs → vs[1]? = some Value.none → H1 a = none → X.s_0.heap.get? a = none →
    E oe.cls oe.dict H1 → X.xe (.ref a) s1
  pass : ∀ E' : XK, (∀ c a H, E' c a H → E c a H) → Passes (CXE X.prog X.w) X E'
  own : PassesOwn (model X.prog X.w) X.A X.env X.xe
theorem flies_cx {P : Program} {w : World} {K : PySem.W.Frag} {mg : Str → Option Value} {base : Heap} {N : List Str} {qual : Str} {scope : Scope} {f : Addr} {cd : Value} {A : Around} {outer : List Env} {s : Shared} {H : Hp} {E : XK} :
    Flies (cxOf (CXE P w) P w K mg base N qual scope f cd A outer s H E) E :=
  ⟨fun _ _ _ _ _ _ _ I he hd hv ha hg q => out_new I he hd hv ha hg q, fun _ h => pass_on h, PassesOwn.leaving⟩
section
variable {X : Cx}
end
end L2

set_option Elab.async false
set_option linter.all false
set_option maxRecDepth 100000
set_option maxHeartbeats 4000000
namespace L2
open PySem PySem.Spec PyProof.Rows

/-! ### defs and methods that raise -/
structure CalX (P : Program) (w : World) (K : PySem.W.Frag) (mg : Str → Option Value) (base : Heap) (k : Nat) (x : Str) (ps : List Str) (sp : Sp) : Prop where
  ex : ∃ (f : Addr) (fd : FuncData), FnOk P w K mg base (CXE P w) k f fd ps sp ∧ mg x = some (.ref f) ∧ PySem.W.keepIn K (.ref f) = true ∧ Binds K fd ps []
structure CalMX (P : Program) (w : World) (K : PySem.W.Frag) (mg : Str → Option Value) (base : Heap) (k : Nat) (C : Addr) (m : Str) (ps : List Str) (sp : Sp) : Prop where
  ex : ∃ (f : Addr) (fd : FuncData), FnOk P w K mg base (CXE P w) k f fd ps sp ∧ Meth K C m f ∧ Binds K fd ps []
section
variable {P : Program} {w : World} {K : PySem.W.Frag} {mg : Str → Option Value} {base : Heap}
theorem Fun.okX {x qual : Str} {st : Stmt} {f : Addr} {fd : FuncData} {N ps : List Str} {k : Nat} {sp : Sp} (F : Fun K x qual st f fd) (S : FnScope N ps (defScope st)) (len : ∀ vs H Q E, sp vs H Q E → vs.length = ps.length)
    (hbody : ∀ (cdv : Value) (A : Around) (outer : List Env) (s : Shared) (H : Hp) (vs : List V) (Q : VK) (E : XK), Room k (A.deeper (envOfC qual (defScope st) s.heap.objs.size f cdv)) → sp vs H Q E →
      ∃ t, PSs (cxOf (CXE P w) P w K mg base N qual (defScope st) f cdv A outer s H E) (defBody st) t ∧ t { nx := fun _ H' => Q .non H', rt := Q } (start N vs) H) : FnOk P w K mg base (CXE P w) (k + 1) f fd ps sp := by
  obtain ⟨oc, od, kV, doc, pm, an, cdv, ct, osl, rfl, lk, hcd⟩ := F.ex
  exact fn_of lk hcd S len fun A outer s H vs Q E hr hsp => hbody cdv A outer s H vs Q E hr hsp
theorem calX_of {x : Str} {st : Stmt} {N ps : List Str} {k : Nat} {sp : Sp} (F : FunN K mg x st ps) (S : FnScope N ps (defScope st)) (len : ∀ vs H Q E, sp vs H Q E → vs.length = ps.length)
    (hbody : ∀ (f : Addr) (cdv : Value) (A : Around) (outer : List Env) (s : Shared) (H : Hp) (vs : List V) (Q : VK) (E : XK), Room k (A.deeper (envOfC x (defScope st) s.heap.objs.size f cdv)) → sp vs H Q E →
      ∃ t, PSs (cxOf (CXE P w) P w K mg base N x (defScope st) f cdv A outer s H E) (defBody st) t ∧ t { nx := fun _ H' => Q .non H', rt := Q } (start N vs) H) : CalX P w K mg base (k + 1) x ps sp := by
  obtain ⟨f, fd, F1, m, b⟩ := F.ex
  exact ⟨f, fd, F1.okX S len (fun cdv A outer s H vs Q E hr h => hbody f cdv A outer s H vs Q E hr h), m, F1.kp, b⟩
theorem CalX.mono {x : Str} {ps : List Str} {j k : Nat} {sp : Sp} (c : CalX P w K mg base j x ps sp) (h : j ≤ k) : CalX P w K mg base k x ps sp := by
  obtain ⟨f, fd, F, m, kp, b⟩ := c.ex
  exact ⟨f, fd, F.mono h, m, kp, b⟩
theorem CalMX.mono {C : Addr} {x : Str} {ps : List Str} {j k : Nat} {sp : Sp} (c : CalMX P w K mg base j C x ps sp) (h : j ≤ k) : CalMX P w K mg base k C x ps sp := by
  obtain ⟨f, fd, F, m, b⟩ := c.ex
  exact ⟨f, fd, F.mono h, m, b⟩
end
section
variable {X : Cx}
/-- a call in a def through which the exception goes -/
theorem pe_calX {E : XK} {k : Nat} {x : Str} {ps : List Str} {sp : Sp} {e : Expr} {es : List Expr} {t : TA} {p pos : Pos} (Fl : Flies X E) (c : CalX X.prog X.w X.K X.mg X.base k x ps sp) (hr : Room k X.A) (hg : Gl X x) (ha : PA X (e :: es) t)
    (hdb : (x == ("__debug__" : Str)) = false := by decide) (he : starEach (e :: es) X.env = (false, eval e X.env) :: starEach es X.env := by rfl) (hpl : (backTo pos (starEach es X.env)).any (·.1) = false := by rfl) :
    PE X (.Call (.Name x p) (e :: es) [] pos) (tCall sp [] E t) := by
  obtain ⟨f, fd, F, m, kp, b⟩ := c.ex
  exact pe_call F hr hg m kp b .nil (Fl.pass E fun _ _ _ h => h) ha hdb he hpl

/-! ### try: what comes to the clause -/
abbrev XS := Value → Option Addr → Addr → St → Hp → Prop
def landX (X : Cx) (pins : List (Addr × Obj)) (E : XS) : Value → Shared → Prop := fun e s' =>
  ∃ (a : Addr) (cls : Value) (dd : Option Addr) (σ : St) (H1 H' : Hp) (s1 : Shared), e = .ref a ∧ Inv X pins σ H1 s1 ∧ s'.os = s1.os ∧ AllBare s'.gens ∧ Un (frs X.stack) [] H1 H' s1.heap s'.heap ∧ HOk X.prog X.w H' s'.heap ∧ Trc s1.heap s'.heap H' a cls dd ∧ E cls dd a σ H'
def tCallT (sp : Sp) (E : XS) (t : TA) : TE := fun σ H Q => t σ H fun vs H1 => sp vs H1 Q fun cls dd H' => ∀ a, H' a = none → E cls dd a σ H'
theorem run_fnT {pins : List (Addr × Obj)} {E : XS} {k : Nat} {f : Addr} {fd : FuncData} {ps : List Str} {sp : Sp} {σ : St} {H : Hp} {s : Shared} {Q : VK} {us : List Value} {vs : List V}
    (F : FnOk X.prog X.w X.K X.mg X.base (CXE X.prog X.w) k f fd ps sp) (hr : Room k X.A) (hb : Binds X.K fd ps [])
    (I : Inv (X.wish (landX X pins E)) pins σ H s) (r : Vals vs us) (h : sp vs H Q fun cls dd H' => ∀ a, H' a = none → E cls dd a σ H') : wpAny (model X.prog X.w) X.A (call (.ref f) us) (EP (X.wish (landX X pins E)) pins σ Q) (landX X pins E) s := by
  have hl : (us ++ []).length = ps.length := by rw [List.append_nil, ← r.length]; exact F.len _ _ _ _ h
  have hbb := hb s us I.kIn hl
  rw [List.append_nil] at hbb
  refine wpAny_call (codeAny_mono (F.run X.A X.stack s H ⟨us, []⟩ us vs Q _ hr I.env0 hbb r h) fun r s' hq => ?_)
  cases r with
  | error e =>
    obtain ⟨a, cls, dd, H', rfl, os, bare, un, hok, tr, q⟩ := hq
    have ha : H' a = none := by obtain ⟨_, _, _, _, _, _, _, _, _, _, _, _, _, _, z, _⟩ := tr; exact z
    exact ⟨a, cls, dd, σ, H, H', s, rfl, I.unwish, os, bare, un, hok, tr, q a ha⟩
  | ok fl =>
    cases fl with
    | ret u => exact I.after hq
    | next => exact False.elim hq
    | brk => exact False.elim hq
    | cont => exact False.elim hq
end
end L2

set_option Elab.async false
set_option linter.all false
set_option maxRecDepth 100000
set_option maxHeartbeats 4000000
namespace L2
open PySem PySem.Spec PyProof.Rows

/-- an exception is told by its class and its dict -/
def excO (a : Addr) (cls : Value) (dd : Option Addr) : HO := .ext fun h => ∃ o vs, h.get? a = some o ∧ o.cls = cls ∧ o.dict = dd ∧ o.data = Data.fields vs
theorem excO_ok {P : Program} {w : World} {H : Hp} {h : Heap} {a : Addr} {cls : Value} {dd : Option Addr} {o : Obj} {vs : Array Value} (e : h.get? a = some o) (c : o.cls = cls) (n : o.dict = dd) (d : o.data = Data.fields vs) : ObjOk P w H h a (excO a cls dd) :=
  ⟨⟨o, vs, e, c, n, d⟩, ⟨o, e⟩, fun h1 h2 ⟨o', vs', e', c', n', d'⟩ k => ⟨o', vs', k o' e', c', n', d'⟩⟩
theorem Un.stay {fs : List Addr} {H H' : Hp} {g h h' : Heap} (u : Un fs [] H H' g h) (st : Stays fs g h h') : Un fs [] H H' g h' := by
  have nx : ∀ b : Addr, b ∉ ([] : List Addr) := fun b z => nomatch z
  refine ⟨fun b o e n nb _ => st.keep b o o e (u.keep b o e n nb (nx b)) nb, fun b o e n hb _ => ?_, u.free, fun b o e _ => ?_, u.tups, u.frzs, u.tbls⟩
  · obtain ⟨sl, e1⟩ := u.slot b o e n hb (nx b)
    obtain ⟨sl2, e2⟩ := st.slot b _ hb e1
    exact ⟨sl2, e2⟩
  · obtain ⟨o1, e1⟩ := u.there b o e (nx b)
    by_cases hb : b ∈ fs
    · obtain ⟨sl, e3⟩ := st.slot b o1 hb e1
      exact ⟨_, e3⟩
    · exact ⟨o1, st.keep b o o1 e e1 hb⟩
theorem Un.track {fs : List Addr} {H H' : Hp} {g h : Heap} {a : Addr} {o : HO} (u : Un fs [] H H' g h) (hg : g.get? a = none) (ha : H' a = none) : Un fs [] H (upd H' a o) g h := by
  refine ⟨u.keep, u.slot, fun b x e n hx => ?_, u.there, fun b xs e => ?_, fun b x y e => ?_, fun b ps e => ?_⟩
  · rw [upd_ne (fun z => by subst z; rw [hg] at e; cases e)]; exact u.free b x e n hx
  · rw [upd_ne (ne_of_none (u.tups b xs e) ha)]; exact u.tups b xs e
  · rw [upd_ne (ne_of_none (u.frzs b x y e) ha)]; exact u.frzs b x y e
  · obtain ⟨m, q⟩ := u.tbls b ps e
    exact ⟨m, by rw [upd_ne (ne_of_none q ha)]; exact q⟩
theorem HOk.track {P : Program} {w : World} {H : Hp} {h : Heap} {a : Addr} {o : HO} (ok : HOk P w H h) (ha : H a = none) (new : ObjOk P w (upd H a o) h a o) : HOk P w (upd H a o) h := fun b u q => by
  by_cases hb : b = a
  · subst hb; rw [upd_same] at q; cases q; exact new
  · rw [upd_ne hb] at q
    exact (ok b u q).stay (fun _ _ _ r => r) (fun c r => by rw [upd_ne (ne_of_none r ha)]; exact r) fun c xs r => by rw [upd_ne (ne_of_none r ha)]; exact r

theorem fly_none {M : Model} {A : Around} {Q : Unit → Shared → Prop} {E : Value → Shared → Prop} {a : Addr} {cls : Value} {dd : Option Addr} {H : Hp} {g h0 : Heap} {gs : Array GenState} {d : Drawn} {tk : Nat} {os : OsState} (t : Trc g h0 H a cls dd) (q : Q () ⟨h0, gs, d, tk, os⟩) : wpAny M A (setFlight (.ref a) none) Q E ⟨h0, gs, d, tk, os⟩ := by
  obtain ⟨oe, vs, T, oT, ts, h1, h2, hdd, h3, h5, h6, h7, h8, h9, h10, h11, h12, h13⟩ := t
  refine wpAny_setFlight_none h1 h3 h5 h7 h8 ?_ ?_
  · have := (Array.getElem?_eq_some_iff.mp h9).1; omega
  · rw [show (Heap.update h0 T (Obj.mapFields fun x => x.setIfInBounds 3 Value.none)) = h0 from Heap.update_setField_same h0 T oT ts 3 Value.none h7 h8 h9]
    exact q

/-! ### try .. except X as n -/
section
variable {X : Cx} {pins : List (Addr × Obj)}
def PEp (X : Cx) (pins : List (Addr × Obj)) (e : Expr) (t : TE) : Prop :=
  ∀ (s : Shared) (σ : St) (H : Hp) (Q : VK), Inv X pins σ H s → t σ H Q → wpAny (model X.prog X.w) X.A (eval e X.env) (EP X pins σ Q) X.xe s
def PSp (X : Cx) (pins : List (Addr × Obj)) (st : Stmt) (t : TS) : Prop :=
  ∀ (s : Shared) (σ : St) (H : Hp) (D : Ends), Inv X pins σ H s → t D σ H → wpAny (model X.prog X.w) X.A (exec st X.env) (SP X pins D) X.xe s
def PSsp (X : Cx) (pins : List (Addr × Obj)) (st : List Stmt) (t : TS) : Prop :=
  ∀ (s : Shared) (σ : St) (H : Hp) (D : Ends), Inv X pins σ H s → t D σ H → wpAny (model X.prog X.w) X.A (execs st X.env) (SP X pins D) X.xe s
theorem psp_set {i : Nat} {x : Str} {e : Expr} {te : TE} {pos pos' : Pos} (hN : X.N.Nodup) (hi : X.N[i]? = some x) (hx : Loc X.env.scope x) (he : PEp X pins e te) (hs : swapsWith e (some (.Name x pos')) pos.line X.env = pure false := by rfl) (hf : X.fn x = true ∨ X.env.scope.names.lookup x = some .local := by first | exact .inl rfl | exact .inr rfl | assumption) :
    PSp X pins (.Assign [.Name x pos'] e pos) (tAsg te (gName i)) := by
  intro s σ H D I h
  refine wpAny_Assign_Name (thn (he s σ H _ I h) fun v s1 ⟨y, H1, I1, r1, q1⟩ => ?_) hs
  exact store_ok I1 hN hi hx r1 (fun s2 I2 => ⟨_, H1, I2, q1⟩) hf
theorem pssp_one {st : Stmt} {t : TS} (h1 : PSp X pins st t) : PSsp X pins [st] t := by
  intro s σ H D I h
  refine wpAny_execs_cons (thn (h1 s σ H D I h) fun f s1 q => ?_)
  cases f with
  | next => exact wpAny_execs_nil q
  | ret v => exact q
  | brk => exact q
  | cont => exact q
theorem pep_call {E : XS} {k : Nat} {x : Str} {ps : List Str} {sp : Sp} {e : Expr} {es : List Expr} {t : TA} {p pos : Pos} (c : CalX X.prog X.w X.K X.mg X.base k x ps sp) (hr : Room k X.A) (hg : Gl X x) (ha : PA (X.wish (landX X pins E)) (e :: es) t)
    (hdb : (x == ("__debug__" : Str)) = false := by decide) (he : starEach (e :: es) X.env = (false, eval e X.env) :: starEach es X.env := by rfl) (hpl : (backTo pos (starEach es X.env)).any (·.1) = false := by rfl) :
    PEp (X.wish (landX X pins E)) pins (.Call (.Name x p) (e :: es) [] pos) (tCallT sp E t) := by
  intro s σ H Q I h
  obtain ⟨f, fd, F, hm, hk, hb⟩ := c.ex
  refine wpAny_Call_Name_kw (ld_glob I hg hm ?_ hdb)
  refine PySem.W.callWith_K (h₀ := X.base) I.ok.mod.kin hk (thn (ha pos pins s σ H _ I h) fun us s1 ⟨vs, H1, I1, r, q⟩ => ⟨I1.kIn, ?_⟩) he hpl
  exact run_fnT (X := X) F hr hb I1 r q
end
end L2

set_option Elab.async false
set_option linter.all false
set_option maxRecDepth 100000
set_option maxHeartbeats 4000000
namespace L2
open PySem PySem.Spec PyProof.Rows
/-- within the clause's suite -/
abbrev Cx.held (X : Cx) (a : Addr) : Cx := { X with A := X.A.mark (some (.ref a)), calm := false, xe := fun _ _ => False }
theorem Cx.Ok.held {X : Cx} (ok : X.Ok) (a : Addr) : (X.held a).Ok :=
  ⟨ok.mod, ok.kind, ok.glob, ok.blt, ok.above, ok.inj, ok.has, ok.cab, (fun z => Bool.noConfusion z), ok.frames, ok.stk, ok.exf, ok.bs, ok.bsz, ok.noex, ok.exfs, ok.funs, ok.frf⟩
section
variable {X : Cx} {pins : List (Addr × Obj)} {σ : St} {H : Hp} {s : Shared} {a : Addr}
theorem Inv.held (I : Inv X pins σ H s) (a : Addr) : Inv (X.held a) pins σ H s := ⟨I.ok.held a, I.os, I.bare, I.base, I.loc, I.cell, I.free, I.freeC, I.pin, I.hok, I.len⟩
theorem Inv.unheld (ok : X.Ok) (I : Inv (X.held a) pins σ H s) : Inv X pins σ H s := ⟨ok, I.os, I.bare, I.base, I.loc, I.cell, I.free, I.freeC, I.pin, I.hok, I.len⟩
/-- a local name is forgotten -/
theorem unbind_ok {M : Model} {A : Around} {E : Value → Shared → Prop} {i : Nat} {x : Str} {v : V} {Q : Unit → Shared → Prop} (I : Inv X pins σ H s) (hN : X.N.Nodup) (hi : X.N[i]? = some x) (hk : X.env.scope.names.lookup x = some .local) (hv : σ[i]? = some (some v))
    (h : ∀ s', Inv X pins (σ.set i none) H s' → Q () s') : wpAny M A (unbindName X.env x) Q E s := by
  have hk' : X.env.kindOf x = some .local := hk
  obtain ⟨m, hn, hl⟩ := id I.loc
  obtain ⟨u, ru, lu⟩ := hl i x v hi hv (.inl hk)
  have hm : m x = some u := by
    rcases lu with ⟨_, e⟩ | ⟨e, _⟩
    · exact e
    · rcases e with e | e <;> · rw [hk'] at e; cases e
  have hiσ : i < σ.length := by rw [I.len]; exact (List.getElem?_eq_some_iff.mp hi).1
  have cne := I.cne
  refine wpAny_unbindName_local hk' hn hm (by rw [I.ok.kind]; rfl) fun h' u' hn' hs => ?_
  have tracked : HOk X.prog X.w H h' := fun b ob e => by
    refine (I.hok b ob e).stay (fun c w' hc q => (hs.2 c ?_).trans q) (fun _ q => q) fun _ _ q => q
    rintro rfl
    rcases hc with rfl | hc
    · rw [I.free] at e; cases e
    · rw [I.free] at hc; cases hc
  refine h _ ⟨I.ok, I.os, I.bare, ⟨fun b o e n hb hx => ?_, fun b o e n hb hx => ?_, I.base.free, fun b o e hx => ?_, I.base.tups, I.base.frzs, I.base.tbls⟩, ⟨_, hn', fun j y v' e1 e2 e3 => ?_⟩, fun y c e => ?_, I.free, I.freeC, fun p hp => ?_, tracked, by rw [List.length_set]; exact I.len⟩
  · exact (hs.2 b (Nat.ne_of_lt (Nat.lt_of_lt_of_le (Heap.lt_size e) I.ok.above))).trans (I.base.keep b o e n hb hx)
  · obtain ⟨sl, e1⟩ := I.base.slot b o e n hb hx
    exact ⟨sl, (hs.2 b (Nat.ne_of_lt (Nat.lt_of_lt_of_le (Heap.lt_size e) I.ok.above))).trans e1⟩
  · obtain ⟨o', e1⟩ := I.base.there b o e hx
    exact ⟨o', (hs.2 b (Nat.ne_of_lt (Nat.lt_of_lt_of_le (Heap.lt_size e) I.ok.above))).trans e1⟩
  · by_cases hj : j = i
    · subst hj
      rw [List.getElem?_set_self hiσ] at e2
      cases e2
    · rw [List.getElem?_set_ne (Ne.symm hj)] at e2
      obtain ⟨w', r', q⟩ := hl j y v' e1 e2 e3
      refine ⟨w', r', ?_⟩
      rcases q with ⟨k, e⟩ | ⟨k, c, e, z⟩
      · refine .inl ⟨k, ?_⟩
        have : y ≠ x := fun e => hj (nodup_ix hN e1 (e ▸ hi))
        simp [this, e]
      · exact .inr ⟨k, c, e, z.sameBut hs (cne y c e)⟩
  · obtain ⟨w', z⟩ := I.cell y c e
    exact ⟨w', z.sameBut hs (cne y c e)⟩
  · obtain ⟨e, n, ne, nf, d⟩ := I.pin p hp
    exact ⟨(hs.2 p.1 ne).trans e, n, ne, nf, d⟩

/-- try: body, except x as n: suite. i: the slot of n. tb: the body's reading, by what is wanted of an exception; ts: the suite's -/
def tTry (K : PySem.W.Frag) (C : Addr) (i : Nat) (tb : XS → TS) (ts : TS) : TS := fun D σ H =>
  tb (fun cls dd a σ' H' => PySem.W.exmOne K cls (.ref C) = some true ∧ ts { nx := fun σ'' H'' => (∃ v, σ''[i]? = some (some v)) ∧ D.nx (σ''.set i none) H'', rt := fun _ _ => False, bk := fun _ _ => False, ct := fun _ _ => False } (σ'.set i (some (.ref a))) (upd H' a (excO a cls dd))) D σ H
theorem ps_try {C : Addr} {i : Nat} {x n : Str} {np hpos pos : Pos} {body suite : List Stmt} {b0 : Stmt} {tb : XS → TS} {ts : TS} (hst : X.stack = X.env :: X.outer) (hfr : X.env.frame = some X.env.locals) (hN : X.N.Nodup) (hi : X.N[i]? = some n) (hk : X.env.scope.names.lookup n = some .local)
    (hg : Gl X x) (hm : X.mg x = some (.ref C)) (hb : ∀ pins E, PSsp (X.wish (landX X pins E)) pins body (tb E)) (hs : ∀ a, PSs (X.held a) (b0 :: suite) ts) (hdb : (x == ("__debug__" : Str)) = false := by decide) :
    PS X (.Try body [.ExceptHandler (some (.Name x np)) (some n) (b0 :: suite) hpos] [] [] pos) (tTry X.K C i tb ts) := by
  intro pins s σ H D I h
  refine wpAny_Try_except (wpAny_mono (hb pins _ s σ H D (I.wish _) h) (fun f s1 q => ?_) fun e s1 q => ?_)
  · have q := q.unwish
    cases f with
    | next => exact wpAny_execs_nil q
    | ret v => exact q
    | brk => exact q
    | cont => exact q
  · obtain ⟨a, cls, dd, σ', H1, H', s0, rfl, I0, os, bare, un, hok, tr, hm1, q⟩ := q
    have hg0 : ∀ b o, s0.heap.get? b = some o → ∃ o', s1.heap.get? b = some o' := fun b o e => un.there b o e (by simp)
    have ff : s0.heap.FunFrames X.base (X.env :: X.outer) := by rw [← hst]; exact I0.stack
    have hf1 : ∀ b ∈ frs (X.env :: X.outer), H1 b = none := by rw [← hst]; exact I0.stkFree
    rw [hst] at un
    have hf : ∀ b ∈ frs (X.env :: X.outer), H' b = none := fun b hb => by
      obtain ⟨_, o, ho, _⟩ := ff.mem hb
      exact un.free b o ho (hf1 b hb) (by simp)
    have ff2 : s1.heap.FunFrames X.base (X.env :: X.outer) := FunFrames.to ff (fun b hb => (ff.mem hb).1) fun b o hb e => un.slot b o e (hf1 b hb) hb (by simp)
    obtain ⟨oe, vs, T, oT, ts0, g1, g2, gdd, g3, g5, g6, g7, g8, g9, g10, g11, g12, g13⟩ := tr
    subst g2 gdd
    have na : a ∉ frs (X.env :: X.outer) := fun z => by
      obtain ⟨_, o, ho, nd⟩ := ff2.mem z
      rw [g1] at ho; cases ho
      exact nd _ g3
    refine note_on (L := X.env.locals) (by rw [I0.ok.frames, hst]) ff2 hfr g1 g3 (.inr ⟨T, oT, ts0, g5, g7, g8, g9⟩) fun h' n => ?_
    obtain ⟨ok', t', st⟩ := n.out (g := s0.heap) hf hok g10 g12 g1 na hg0
    have un' : Un (frs X.stack) [] H1 H' s0.heap h' := by rw [hst]; exact un.stay st
    have I2 : Inv X pins σ' H' { s1 with heap := h' } := I0.call' (s' := { s1 with heap := h' }) os un' ok' bare (fun b z => nomatch z)
    obtain ⟨oe', vs', T', oT', ts', h1, h2, hdd, h3, h5, h6, h7, h8, h9, h10, h11, h12, h13⟩ := id t'
    have I3 : Inv X pins σ' (upd H' a (excO a oe.cls oe.dict)) { s1 with heap := h' } := I0.call' (s' := { s1 with heap := h' }) os (un'.track h12 h10) (ok'.track h10 (excO_ok h1 h2 hdd h3)) bare (fun b z => nomatch z)
    have ty : ∀ M, PySem.W.Looks M h' (typeOf (.ref a)) oe.cls := fun M A Q E s hk q => by
      refine wpAny_typeOf_ref (hk _ _ h1) ?_
      rw [h2]; exact q
    refine wpAny_handleBy_cons (codeAny_handlers_test ?_) (by intro z; cases z)
    refine Calls.Name_function_global I2.ok.kind hg (Calls.loadGlobal_global (by rw [I2.ok.glob]; exact I2.mod.glob.keeps I2.bk) hm ?_) hdb
    refine PySem.W.exm_one I2.kIn (ty _) hm1 _ _ _ _ (fun _ _ e => e) ?_
    refine codeAny_handlers_suite_as (fly_none t' ?_)
    refine store_ok (v := .ref a) I3 hN hi (.inl hk) rfl (fun s3 I4 => ?_) (.inr hk)
    refine wpAny_mono (hs a pins s3 _ _ _ (I4.held a) q) (fun f s4 q4 => ?_) fun _ _ z => False.elim z
    cases f with
    | next =>
      obtain ⟨σ5, H5, I5, ⟨v, hv⟩, q5⟩ := q4
      have I5 := I5.unheld I4.ok
      refine wpAny_bind (wpAny_bindName (store_ok (v := .non) I5 hN hi (.inl hk) rfl (fun s6 I6 => ?_) (.inr hk)))
      refine wpAny_onRaise (unbind_ok I6 hN hi hk (List.getElem?_set_self (List.getElem?_eq_some_iff.mp hv).1) fun s7 I7 => ?_)
      rw [List.set_set] at I7
      exact ⟨_, H5, I7, q5⟩
    | ret v => obtain ⟨_, _, _, _, _, z⟩ := q4; exact False.elim z
    | brk => obtain ⟨_, _, _, z⟩ := q4; exact False.elim z
    | cont => obtain ⟨_, _, _, z⟩ := q4; exact False.elim z
end
end L2

set_option Elab.async false
set_option linter.all false
set_option maxRecDepth 100000
set_option maxHeartbeats 4000000
namespace L2
open PySem PySem.Spec PyProof.Rows PySem.W

/-! ### attributes of exceptions of our classes -/
theorem ga_kind : builtinKind "BaseException.__getattribute__" = some Manifest.AttrKind.slot := by kernel_rfl
theorem ga_split : splitId "BaseException.__getattribute__" = some ("BaseException", "__getattribute__") := by kernel_rfl
theorem ga_plain : plainId "BaseException.__getattribute__" = true := by kernel_rfl
section
variable {prog : Program} {w : World} {M : Model} {A : Around} {E : Value → Shared → Prop} {s : Shared} {K : Frag} {x C : Addr} {ox : Obj} {od : Option Obj} {name : Str} {tk : Tok}
theorem check_ga {nameV : Value} {Q : Unit → Shared → Prop} (hK : K.In s.heap) (i : InstAt s.heap x ox C od) (h3 : subIn K (.ref C) (.type "BaseException") = some true) (q : Q () s) :
    wpAny M A (checkBuiltinCall "BaseException.__getattribute__" ⟨[.ref x, nameV], []⟩) Q E s := by
  unfold checkBuiltinCall
  simp only [ga_kind, ga_split]
  unfold isInstance
  simp only [bind_assoc]
  refine wpAny_bind (i.type A _ _ s (fun _ _ e => e) ?_)
  refine wpAny_bind (looks_subIn hK h3 A _ _ s (fun _ _ e => e) ?_)
  simp only [Bool.not_true, Bool.false_eq_true, if_false]
  have := PySem.F.args_bexc_ga (.ref x) nameV
  unfold argsOk at this
  refine wpAny_of_eq this ?_
  exact q
/-- what is read of the instance by its class's __getattribute__ -/
structure ExA (K : Frag) (C : Addr) : Prop where
  ga : findIn K (.ref C) "__getattribute__" = some (some (.builtin "BaseException.__getattribute__"))
  no : findIn K (.ref C) "__getattr__" = some none
  sub : subIn K (.ref C) (.type "BaseException") = some true
theorem exc_call {v : Value} {g a : Value} {R : Result → Shared → Prop} (hK : K.In s.heap) (i : InstAt s.heap x ox C od) (e : ExA K C)
    (f : findObj K C od name = some (.value v) ∧ R (.ok (.ret v)) s ∨ findObj K C od name = some (.bind g a) ∧ wpAny (model prog w) A.in1 (call g [a, .ref x, .ref C]) (fun v s' => R (.ok (.ret v)) s') (fun e s' => R (.error e) s') s) :
    codeAny (model prog w) A (.call (.builtin "BaseException.__getattribute__") ⟨[.ref x, .str name tk], []⟩) R s := by
  refine codeAny_call_builtin ga_plain PySem.F.entry_bexc_ga (check_ga hK i e.sub ?_)
  unfold Builtin.«object.__getattribute__»
  refine wpAny_bind ?_
  unfold slotArgs
  simp only [List.isEmpty_nil, Bool.not_true, Bool.false_eq_true, if_false, List.length_cons, List.length_nil, bne_self_eq_false]
  refine wpAny_pure ?_
  dsimp only
  refine wpAny_bind ?_
  unfold Builtin.ObjectAttr.attrName
  dsimp only
  refine wpAny_pure ?_
  refine wpAny_bind (i.type _ _ _ s (fun _ _ e => e) ?_)
  rcases f with ⟨f, q⟩ | ⟨f, q⟩
  · refine wpAny_bind (looks_find hK i f _ _ _ s (fun _ _ e => e) ?_)
    exact wpAny_pure q
  · refine wpAny_bind (looks_find hK i f _ _ _ s (fun _ _ e => e) ?_)
    dsimp only
    unfold Builtin.ObjectAttr.bindTo
    dsimp only
    refine wpAny_bind (wpAny_holding (thn q fun v s' h => ?_))
    exact wpAny_pure h
theorem exc_by {v : Value} {g a : Value} {fill expr : Bool} {Q : Value → Shared → Prop} (hK : K.In s.heap) (i : InstAt s.heap x ox C od) (e : ExA K C)
    (f : findObj K C od name = some (.value v) ∧ handedIn v = true ∧ Q v s ∨ findObj K C od name = some (.bind g a) ∧ (∀ (A' : Around) (E' : Value → Shared → Prop) (Q' : Value → Shared → Prop), Q' v s → wpAny (model prog w) A' (call g [a, .ref x, .ref C]) Q' E' s) ∧ handedIn v = true ∧ Q v s) :
    wpAny (model prog w) A (getAttrBy (.ref x) (.str name tk) fill expr) Q E s := by
  unfold getAttrBy
  refine wpAny_holding (wpAny_bind (i.type _ _ _ s (fun _ _ e => e) ?_))
  refine wpAny_bind (looks_findIn hK e.ga _ _ _ s (fun _ _ e => e) ?_)
  dsimp only
  refine wpAny_ite_false (by rfl) ?_
  unfold getAttrByItsOwn
  refine wpAny_bind ?_
  unfold hookBefore
  refine wpAny_ite_true (by rfl) ?_
  refine looks_findIn hK e.no _ _ _ s (fun _ _ e => e) ?_
  refine wpAny_bind (wpAny_attempt (wpAny_holding ?_))
  unfold callGetattribute
  refine wpAny_ite_false (by cases expr <;> rfl) ?_
  unfold boundAndCalled
  refine wpAny_bind (wpAny_of_eq (PySem.F.excAttr_ValueError.ga.bind (.ref x)) ?_)
  dsimp only
  refine wpAny_call (exc_call (v := v) (g := g) (a := a) hK i e ?_)
  rcases f with ⟨f, hv, q⟩ | ⟨f, c, hv, q⟩
  · exact .inl ⟨f, handed_on hv q⟩
  · exact .inr ⟨f, c _ _ _ (handed_on hv q)⟩
end

/-! ### isinstance of exceptions -/
theorem notCls_of {o : Obj} {vs : Array Value} (d : o.data = Data.fields vs) : notCls o = true := by unfold notCls; rw [d]
/-- an exception of the class at C: without a dict, or with one -/
def IsExc (h : Heap) (a C : Addr) : Prop := ∃ o od, InstAt h a o C od
structure ExK (K : Frag) (C : Addr) : Prop extends ExA K C where
  cls : findIn K (.ref C) "__class__" = some (some (.builtin "object.__class__"))
  get : specialIn K (.builtin "object.__class__") "__get__" = some (some (.builtin "getset_descriptor.__get__"))
  tk : takesIn K (.builtin "object.__class__") = some true
  mro : mroIn K C (.type "object") = some true
  isc : (clsIn K C).isSome = true
  kit : kitCls K (.ref C) (.ref C) = some true
theorem findObj_class {K : Frag} {C : Addr} {od : Option Obj} {name : Str} {a g : Value} (h1 : (clsIn K C).isSome = true) (h2 : findIn K (.ref C) name = some (some a)) (h3 : specialIn K a "__get__" = some (some g)) (h4 : takesIn K a = some true) :
    findObj K C od name = some (.bind g a) := by
  unfold findObj
  cases q : clsIn K C with
  | none => rw [q] at h1; cases h1
  | some cd => simp only [Option.bind_some, h2, h3, h4]
theorem kitx_exc {K : Frag} {a C : Addr} (e : ExK K C) : KitX K (.ref a) (.ref C) fun h => IsExc h a C where
  ty := fun M h hK ⟨o, od, i⟩ => i.type
  it := fun M h hK _ => (kit_cls hK e.kit).2.1
  ne := fun h tp dd its n sl hK ht => by
    cases q : clsIn K C with
    | none => have := e.isc; rw [q] at this; cases this
    | some cd =>
      unfold clsIn at q
      split at q
      · rename_i c0 d0 cd0 s0 hl
        have := hK _ _ hl
        apply Bool.eq_false_iff.mpr
        intro z
        have z : (Value.ref C) = Value.ref tp := by simpa using z
        cases z
        rw [ht] at this
        cases this
      · cases q
  ca := fun {prog w A E Q s} hK ⟨o, od, i⟩ q => by
    unfold getAttr?
    refine wpAny_bind (wpAny_mkText ?_)
    unfold getAttrBy?
    refine wpAny_bind (wpAny_attempt ?_)
    refine exc_by (v := .ref C) (g := .builtin "getset_descriptor.__get__") (a := .builtin "object.__class__") hK i e.toExA (.inr ⟨findObj_class e.isc e.cls e.get e.tk, fun A' E' Q' q' => ?_, rfl, ?_⟩)
    · exact wpAny_call (class_get hK i e.mro q')
    · exact wpAny_pure q
/-- an exception of the class at C, without a dict, or with a tracked one -/
theorem excO_is {P : Program} {w : World} {H : Hp} {h : Heap} {a C : Addr} {dd : Option Addr} (ok : HOk P w H h) (e : H a = some (excO a (.ref C) dd)) (d : dd = none ∨ ∃ dx fs, dd = some dx ∧ H dx = some (.xd fs)) : IsExc h a C := by
  obtain ⟨⟨o, vs, e1, c1, n1, d1⟩, _, _⟩ := ok a _ e
  rcases d with rfl | ⟨dx, fs, rfl, hx⟩
  · exact ⟨o, none, e1, c1, notCls_of d1, by rw [n1]; trivial⟩
  · obtain ⟨od, ed⟩ := (ok dx _ hx).ex
    exact ⟨o, some od, e1, c1, notCls_of d1, by rw [n1]; exact ed⟩
/-- isinstance(x, c): x None or an exception of ours, c one class or a tuple of classes -/
inductive ExV (K : Frag) (H : Hp) : V → Value → Prop where
  | non : ExV K H .non (.type "NoneType")
  | exc {a C : Addr} {dd : Option Addr} (k : ExK K C) (e : H a = some (excO a (.ref C) dd)) (d : dd = none ∨ ∃ dx fs, dd = some dx ∧ H dx = some (.xd fs)) : ExV K H (.ref a) (.ref C)
section
variable {X : Cx}
def rIsx (K : Frag) : List V → Hp → VK → Prop := fun xs H Q => ∃ (x : V) (t : Value) (b : Bool), ExV K H x t ∧
    ((∃ C, xs = [x, .ref C] ∧ kitOne K t (.ref C) = some b) ∨ (∃ T, xs = [x, .ty T] ∧ kitOne K t (.type T) = some b) ∨
     (∃ (p : Addr) (cs : List Addr), xs = [x, .ref p] ∧ H p = some (.tup (cs.map V.ref)) ∧ kitAny K t (cs.map Value.ref) = some b)) ∧ Q (.bl b) H
theorem call_isiX : CallR X (.builtin "isinstance") (rIsx X.K) := by
  intro pins s σ H xs us Q I r h
  obtain ⟨x, t, b, ev, h, q⟩ := h
  have key : ∀ u, RelV x u → ∃ Hh : Heap → Prop, KitX X.K u t Hh ∧ Hh s.heap ∧ u ≠ Value.builtin "__main__.__loader__#opaque" := fun u ru => by
    cases ev with
    | non => cases ru; exact ⟨_, kitx_none, trivial, fun z => nomatch z⟩
    | exc k e d => cases ru; exact ⟨_, kitx_exc k, excO_is I.hok e d, fun z => nomatch z⟩
  rcases h with ⟨C, rfl, hk⟩ | ⟨T, rfl, hk⟩ | ⟨p, cs, rfl, hp, hk⟩
  · cases r with
    | cons r1 r =>
      cases r with
      | cons r2 r =>
        cases r
        cases r2
        obtain ⟨Hh, kx, hh, ne⟩ := key _ r1
        exact kia_one kx I.kIn hh hk ne fun tk => ⟨.bl b, H, I.tok tk, rfl, q⟩
  · cases r with
    | cons r1 r =>
      cases r with
      | cons r2 r =>
        cases r
        cases r2
        obtain ⟨Hh, kx, hh, ne⟩ := key _ r1
        exact kia_one kx I.kIn hh hk ne fun tk => ⟨.bl b, H, I.tok tk, rfl, q⟩
  · cases r with
    | cons r1 r =>
      cases r with
      | cons r2 r =>
        cases r
        cases r2
        obtain ⟨Hh, kx, hh, ne⟩ := key _ r1
        obtain ⟨_, its, rv, ob, e1, e2⟩ := (show ObjOk X.prog X.w H s.heap p (.tup (cs.map V.ref)) from I.hok p _ hp)
        have hits : ∀ (l : List Addr) (ws : List Value), Vals (l.map V.ref) ws → ws = l.map Value.ref := by
          intro l
          induction l with
          | nil => intro ws h; cases h; rfl
          | cons c l ih =>
            intro ws h
            cases h with
            | cons r1 rr => cases r1; rw [ih _ rr]; rfl
        have hits := hits cs its rv
        subst hits
        obtain ⟨e2, n, e3⟩ := e2
        obtain ⟨oc, od, odt, osl⟩ := ob
        dsimp only at e2 e3
        subst e2 e3
        exact kia_tup kx I.kIn hh e1 hk ne fun tk => ⟨.bl b, H, I.tok tk, rfl, q⟩
end
end L2

set_option Elab.async false
set_option linter.all false
set_option maxRecDepth 100000
set_option maxHeartbeats 4000000
namespace L2
open PySem PySem.Spec PyProof.Rows PySem.W
/-- where our classes of exceptions stand -/
structure Ads where
  PinError : Addr
  TooMany : Addr
  NoTurned : Addr
  NoRow : Addr
  GoesRound : Addr
  Missed : Addr
  NoText : Addr
structure ExG (mg : Str → Option Value) (d : Ads) : Prop where
  g_PinError : mg "PinError" = some (.ref d.PinError)
  g_TooMany : mg "TooMany" = some (.ref d.TooMany)
  g_NoTurned : mg "NoTurned" = some (.ref d.NoTurned)
  g_NoRow : mg "NoRow" = some (.ref d.NoRow)
  g_GoesRound : mg "GoesRound" = some (.ref d.GoesRound)
  g_Missed : mg "Missed" = some (.ref d.Missed)
  g_NoText : mg "NoText" = some (.ref d.NoText)
/-- the class at C, of which an exception is raised: P its base, os the others -/
structure ExR (K : Frag) (C P : Addr) (os : List Addr) : Prop where
  k : ExK K C
  m : exmOne K (.ref C) (.ref P) = some true
  no : kitAny K (.ref C) (os.map Value.ref) = some false
  yes : kitOne K (.ref C) (.ref C) = some true
  v : kitOne K (.ref C) (.type "ValueError") = some true
section
variable {X : Cx}
/-- a try whose body raises nothing -/
theorem ps_try0 {body : List Stmt} {tb : TS} {h0 : ExceptHandler} {hs : List ExceptHandler} {pos : Pos} (hb : PSs X.nox body tb) : PS X (.Try body (h0 :: hs) [] [] pos) tb := by
  intro pins s σ H D I h
  refine wpAny_Try_except (wpAny_mono (hb pins s σ H D (I.wish _) h) (fun f s1 q => ?_) fun _ _ z => False.elim z)
  have q := q.unwish
  cases f with
  | next => exact wpAny_execs_nil q
  | ret v => exact q
  | brk => exact q
  | cont => exact q
end
end L2

set_option Elab.async false
set_option linter.all false
set_option maxRecDepth 100000
set_option maxHeartbeats 4000000
namespace L2
open PySem PySem.Spec PyProof.Rows TL
end L2

set_option Elab.async false
set_option linter.all false
set_option maxRecDepth 100000
set_option maxHeartbeats 4000000
namespace L2
open PySem PySem.Spec PyProof.Rows TL HT
section
variable {prog : Program} {w : World} {A : Around} {E : Value → Shared → Prop} {s : Shared}
end
end L2

set_option Elab.async false
set_option linter.all false
set_option maxRecDepth 100000
set_option maxHeartbeats 4000000
namespace L2
open PySem PySem.Spec PyProof.Rows TL HT
end L2

set_option Elab.async false
set_option linter.all false
set_option maxRecDepth 100000
set_option maxHeartbeats 4000000
namespace L2
open PySem PySem.Spec PyProof.Rows TL
end L2

set_option Elab.async false
set_option linter.all false
set_option maxRecDepth 100000
set_option maxHeartbeats 4000000
namespace PySem
open Sem (wp)
section
variable {prog : Program} {w : World} {A : Around} {E : Value → Shared → Prop} {h : Heap} {g : Array GenState} {d : Drawn} {t : Nat} {os : OsState}
variable {nm q : Str} {C N : Addr} {bs bm bmB : List Value} {hdct : Bool} {sn : List Str} {sub : List Value} {ab : Bool} {col : Option Bool} {dd : Option Addr} {k0 k1 k2 k3 k5 : Option Value} {B Bn newId nid initId inN : String} {bmN : List Value}
/-- a class of ours under own bases, with an own __init__, is called -/
theorem own_type_call_init (Fn : ExcBaseFacts Bn newId inN bmN) (hBn : bmB.contains (.type Bn) = true) (F : ExcBaseFacts B nid initId bmB) (T : OwnTail h bmB bm) {mN : Str → Option Value} {rest : List Value} {fI : Addr} {oI : Obj} {Q : Fin → Shared → Prop}
    (hC : h.get? C = some (excClassObj nm q C N bs bm hdct sn sub ab col dd k0 k1 k2 k3 k5 newId)) (hn : h.Ns N mN) (hi : mN "__init__" = some (.ref fI))
    (hfI : h.get? fI = some oI) (hfc : oI.cls = .type "function")
    (hq : ∀ h' e, Heap.MadeExcOf h h' e (.ref C) rest →
      wpAny (model prog w) A (call (.ref fI) (.ref e :: rest)) (fun r s' => r = .none ∧ Q (.done (.ret (.ref e))) s') E ⟨h', g, d, t, os⟩) (hrest : rest.length ≤ sizeLine := by size_fits) :
    wpAny (model prog w) A (Builtin.«type.__call__» ⟨.ref C :: rest, []⟩) Q E ⟨h, g, d, t, os⟩ := by
  repeat (first | with_reducible refine wpAny_loadPart_at hC ?_ | with_reducible refine wpAny_madeBy_exc hC ?_ | wp_step)
  refine codeAny_call_builtin_code (Code.quiet_builtin _ Fn.quiet) (wpAny_check_new_subU Fn hBn T hC ?_)
  refine codeAny_exc_new_subU Fn hBn F T hC ?_ hrest
  show wpAny _ _ _ _ _ _
  have hC₁ := Heap.get?_push_of_some { cls := .ref C, data := .fields #[.ref h.objs.size, .none, .none, .none, .bool false, .none] }
    (Heap.get?_push_of_some { cls := .type "tuple", data := .seq rest.toArray } hC)
  have hfI₁ := Heap.get?_push_of_some { cls := .ref C, data := .fields #[.ref h.objs.size, .none, .none, .none, .bool false, .none] }
    (Heap.get?_push_of_some { cls := .type "tuple", data := .seq rest.toArray } hfI)
  have hn₁ : ((h.push { cls := .type "tuple", data := .seq rest.toArray }).push { cls := .ref C, data := .fields #[.ref h.objs.size, .none, .none, .none, .bool false, .none] }).Ns N mN :=
    let ⟨o, es, ep, e, r⟩ := hn; ⟨o, es, ep, Heap.get?_push_of_some _ (Heap.get?_push_of_some _ e), r⟩
  have hget : ((h.push { cls := .type "tuple", data := .seq rest.toArray }).push
      { cls := .ref C, data := .fields #[.ref h.objs.size, .none, .none, .none, .bool false, .none] }).get? (h.objs.size + 1) = some
      { cls := .ref C, data := .fields #[.ref h.objs.size, .none, .none, .none, .bool false, .none] } := by heap_get
  have hcC : (Value.ref C :: bm).contains (.ref C) = true := by simp
  have T₁ := T.keeps (h' := (h.push { cls := .type "tuple", data := .seq rest.toArray }).push { cls := .ref C, data := .fields #[.ref h.objs.size, .none, .none, .none, .bool false, .none] })
    fun b o e => Heap.get?_push_of_some _ (Heap.get?_push_of_some _ e)
  unfold isInstance
  repeat (first | with_reducible refine wpAny_loadPart_at hget ?_ | (with_reducible refine wpAny_isSubtype_exc hC₁ ?_; rw [hcC]) | wp_step)
  show wpAny _ _ (typeLookup (.ref C) _) _ _ _
  refine wpAny_typeLookup_tail hC₁ hn₁ T₁ F.mroIs F.init.lookup ?_
  rw [hi]
  refine wpAny_holding (wpAny_bind ?_)
  unfold bindSpecial
  refine wpAny_bind (wpAny_typeOf (T := "function") ⟨_, hfI₁, hfc⟩ ?_)
  rw [if_pos (by decide)]
  refine wpAny_pure (wpAny_bind (wpAny_mono (hq _ (h.objs.size + 1) ⟨fun b o hb => Heap.get?_push_of_some _ (Heap.get?_push_of_some _ hb), Heap.get?_none_of_le (Nat.le_succ _), h.objs.size, hget, Heap.get?_none_of_le (Nat.le_refl _), ?_⟩) (fun r s' hr => ?_) fun _ _ x => x))
  · exact Heap.get?_push_of_some _ (Heap.get?_push_at rfl rfl)
  · obtain ⟨rfl, hQ⟩ := hr
    wp_walk
    exact hQ
theorem own_call_init (Fn : ExcBaseFacts Bn newId inN bmN) (hBn : bmB.contains (.type Bn) = true) (F : ExcBaseFacts B nid initId bmB) (T : OwnTail h bmB bm) {mN : Str → Option Value} {rest : List Value} {fI : Addr} {oI : Obj} {Q : Value → Shared → Prop}
    (hC : h.get? C = some (excClassObj nm q C N bs bm hdct sn sub ab col dd k0 k1 k2 k3 k5 newId)) (hn : h.Ns N mN) (hi : mN "__init__" = some (.ref fI))
    (hfI : h.get? fI = some oI) (hfc : oI.cls = .type "function")
    (hq : ∀ h' e, Heap.MadeExcOf h h' e (.ref C) rest →
      wpAny (model prog w) (A.under (.builtin "type.__call__" ⟨.ref C :: rest, []⟩)) (call (.ref fI) (.ref e :: rest)) (fun r s' => r = .none ∧ Q (.ref e) s') E ⟨h', g, d, t, os⟩) (hrest : rest.length ≤ sizeLine := by size_fits) :
    wpAny (model prog w) A (call (.ref C) rest) Q E ⟨h, g, d, t, os⟩ := by
  have f1 := tc_lookup
  have f2 := tc_bind (.ref C)
  have hT : (⟨h, g, d, t, os⟩ : Shared).TypeIs (.ref C) "type" := ⟨_, hC, rfl⟩
  refine wpAny_call (codeAny_of_tree ?_)
  show wpAny _ _ (callAny (.ref C) _) _ _ _
  repeat (any_goals (first | assumption | with_reducible refine wpAny_loadPart_at hC ?_ | wp_step))
  refine ⟨rfl, ?_⟩
  refine codeAny_call_builtin_at (Code.quiet_builtin _ (by decide +kernel)) entry_typeCall (wpAny_check_type_call_sub hC (own_type_call_init (hrest := hrest) Fn hBn F T hC hn hi hfI hfc fun h' e hm => ?_))
  exact hq h' e hm
end
end PySem

set_option Elab.async false
set_option linter.all false
set_option maxRecDepth 100000
set_option maxHeartbeats 4000000
namespace PySem.W
open PySem.Builtin PySem.Builtin.ObjectAttr
def bmV : List Value := [Value.type "ValueError", Value.type "Exception", Value.type "BaseException", Value.type "object"]
def onlyExc : List Value → Bool
  | .ref _ :: r => onlyExc r
  | l => l == bmV
theorem refuse_bmV (self : Value) : refuseLoop self "__setattr__" bmV = pure () := by kernel_rfl
theorem refuse_exc (self : Value) : ∀ {l : List Value}, onlyExc l = true → refuseLoop self "__setattr__" l = pure ()
  | .ref c :: r, e => by rw [refuseLoop_ref]; exact refuse_exc self e
  | [], e => by cases e
  | .type n :: r, e => by rw [show (Value.type n :: r) = bmV from beq_iff_eq.mp e]; exact refuse_bmV self
theorem exc_has : ∀ {l : List Value}, onlyExc l = true → l.contains (.type "object") = true
  | .ref c :: r, e => by rw [List.contains_cons, exc_has (l := r) e, Bool.or_true]
  | [], e => by cases e
  | .type n :: r, e => by rw [show (Value.type n :: r) = bmV from beq_iff_eq.mp e]; decide +kernel
theorem putName_new {name : Str} {k : Int} {key v : Value} : (Obj.putName name k key v { cls := .type "dict", data := .dict #[] }).data = .dict [⟨k, key, v⟩].toArray 1 := rfl
section
variable {prog : Program} {w : World} {A : Around} {s : Shared} {K : Frag} {C x : Addr} {R : Result → Shared → Prop}
/-- a field is put on an exception of ours that has no dict yet -/
theorem osa_exc {cd : ClassData} {vs : Array Value} {sl : Array (Option Value)} {name : Str} {tk : Tok} {v : Value} (X : K.In s.heap) (hx : s.heap.get? x = some ⟨.ref C, none, .fields vs, sl⟩) (hc : clsIn K C = some cd) (ho : onlyExc cd.mro = true) (hd : cd.hasDict = true) (ht : takerIn K C name = some none)
    (h : ∀ h' dx, (∀ b o, b ≠ x → s.heap.get? b = some o → h'.get? b = some o) → dx = s.heap.objs.size → h'.get? x = some ⟨.ref C, some dx, .fields vs, sl⟩ → h'.get? dx = some (Obj.putName name (PyData.keyHash w.params name) (.str name s.toks) v { cls := .type "dict", data := .dict #[] }) →
      R (.ok (.ret .none)) { s with heap := h', toks := s.toks + 1 }) :
    codeAny (model prog w) A (.call (.builtin "object.__setattr__") ⟨[.ref x, .str name tk, v], []⟩) R s := by
  have SF := PySem.F.store_object
  have I : InstAt s.heap x ⟨.ref C, none, .fields vs, sl⟩ C none := ⟨hx, rfl, rfl, trivial⟩
  have ne : cd.mro.isEmpty = false := by cases q : cd.mro with | nil => rw [q] at ho; cases ho | cons _ _ => rfl
  have sub : Looks (model prog w) s.heap (isInstance (.ref x) (.type "object")) true := I.type.andThen (looks_mroIn X (by unfold mroIn; rw [hc, Option.bind_some, if_neg (by rw [ne]; decide), exc_has ho]))
  refine codeAny_call_builtin SF.slot.plain SF.entry (@check_slot (model prog w) _ _ s "object.__setattr__" "object" "__setattr__" (.ref x) [.str name tk, v] [] _ SF.kind SF.split sub (SF.args (.ref x) (.str name tk) v) ?_)
  obtain ⟨attr, ha, hr⟩ := Option.bind_eq_some_iff.mp ht
  have hm : Looks (model prog w) s.heap (mroOf (.ref C)) cd.mro := (looks_clsIn X hc).andThen .now
  have L3 : Looks (model prog w) s.heap (storeTaker? attr) none := by
    cases attr with
    | none => exact .now
    | some a =>
      obtain ⟨b, hb, hb'⟩ := Option.map_eq_some_iff.mp hr
      refine (looks_takesIn X hb).andThen ?_
      cases b
      · exact .now
      · cases hb'
  rw [osa_eq, refuse_eq]
  refine wpAny_bind (wpAny_bind (I.type.here (wpAny_bind (hm.here ?_))))
  rw [refuse_exc _ ho]
  refine wpAny_pure (wpAny_bind (I.type.here (wpAny_bind ((looks_findIn X ha).here (wpAny_bind (L3.here ?_))))))
  refine wpAny_bind (wpAny_pure (wpAny_bind (wpAny_bind (wpAny_loadPart hx (wpAny_bind ((looks_clsIn X hc).here ?_))))))
  rw [hd, if_neg (by decide)]
  obtain ⟨hh, g, d, t, os⟩ := s
  show wpAny _ _ (do
    let d ← alloc { cls := Value.type "dict", data := Data.dict #[] }
    update x fun o => { o with dict := some d }
    dictMade (.ref C) x d) _ _ _
  have hlt : x < hh.objs.size := Heap.lt_size hx
  have hx1 : (hh.push { cls := Value.type "dict", data := Data.dict #[] }).get? x = some ⟨.ref C, none, .fields vs, sl⟩ := Heap.get?_push_of_some _ hx
  have hnx : x ≠ hh.objs.size := Nat.ne_of_lt hlt
  have hD : ((hh.push { cls := Value.type "dict", data := Data.dict #[] }).update x fun o => { o with dict := some hh.objs.size }).get? hh.objs.size = some { cls := Value.type "dict", data := Data.dict #[] } := by
    rw [Heap.get?_update_other _ _ hnx]
    exact Heap.get?_push_at rfl rfl
  refine wpAny_bind (wpAny_alloc' (wpAny_bind (wpAny_update' hx1 (wpAny_pure ?_))))
  dsimp only
  refine wpAny_bind (wpAny_pure (wpAny_bind ?_))
  unfold nsSet
  refine wpAny_bind (wpAny_bind (wpAny_askSetting (wpAny_pure (wpAny_bind (wpAny_mkText (wpAny_bind (wpAny_loadPart hD ?_)))))))
  dsimp only
  rw [aRefKeyMayBeTheName_at, show ((!(#[] : Array DictEntry).any (·.key.isStr name)) && (#[] : Array DictEntry).any (·.refKey)) = false from by simp]
  refine wpAny_updatePart hD ?_
  have hP : (Obj.putName name (PyData.keyHash w.params name) (.str name t) v { cls := .type "dict", data := .dict #[] }).data = .dict [⟨PyData.keyHash w.params name, .str name t, v⟩].toArray 1 := putName_new
  have hf : (Obj.putName name (PyData.keyHash w.params name) (.str name t) v { cls := .type "dict", data := .dict #[] }).isFreed = false := by
    generalize Obj.putName name (PyData.keyHash w.params name) (.str name t) v { cls := .type "dict", data := .dict #[] } = o at hP
    obtain ⟨_, _, dd, _⟩ := o
    cases hP; rfl
  have D' : (((hh.push { cls := Value.type "dict", data := Data.dict #[] }).update x fun o => { o with dict := some hh.objs.size }).update hh.objs.size (Obj.putName name (PyData.keyHash w.params name) (.str name t) v)).get? hh.objs.size = some (Obj.putName name (PyData.keyHash w.params name) (.str name t) v { cls := .type "dict", data := .dict #[] }) := Heap.get?_update_self _ hD hf
  refine wpAny_bind (wpAny_lookBehind D' (by rw [hP]; exact pastItsLine_dict (by rw [List.size_toArray, sizeLine_eq]; show 1 ≤ 16777216 + 1; decide)) ?_)
  refine wpAny_pure (h _ hh.objs.size (fun b o nb e => ?_) rfl ?_ D')
  · have nb' : hh.objs.size ≠ b := fun z => by have q : b < hh.objs.size := Heap.lt_size e; exact absurd z (Nat.ne_of_gt q)
    show (((hh.push { cls := Value.type "dict", data := Data.dict #[] }).update x fun o => { o with dict := some hh.objs.size }).update hh.objs.size _).get? b = some o
    rw [Heap.get?_update_other _ _ nb', Heap.get?_update_other _ _ (Ne.symm nb)]
    exact Heap.get?_push_of_some _ e
  · show (((hh.push { cls := Value.type "dict", data := Data.dict #[] }).update x fun o => { o with dict := some hh.objs.size }).update hh.objs.size _).get? x = _
    rw [Heap.get?_update_other _ _ (Ne.symm hnx), Heap.get?_update_self _ hx1 rfl]
end
end PySem.W

set_option Elab.async false
set_option linter.all false
set_option maxRecDepth 100000
set_option maxHeartbeats 4000000
namespace PySem
open Sem (wp)
section
variable {prog : Program} {w : World} {A : Around} {E : Value → Shared → Prop} {h : Heap} {g : Array GenState} {d : Drawn} {t : Nat} {os : OsState}
variable {nm q : Str} {C N : Addr} {bs bm bmB : List Value} {hdct : Bool} {sn : List Str} {sub : List Value} {ab : Bool} {col : Option Bool} {dd : Option Addr} {k0 k1 k2 k3 k5 : Option Value} {B newId nid initId : String}
/-- the built-in __init__ by name: new args -/
theorem own_init_call (F : ExcBaseFacts B nid initId bmB) (T : OwnTail h bmB bm) {rest : List Value} {e t0 : Addr} {Q : Value → Shared → Prop}
    (hC : h.get? C = some (excClassObj nm q C N bs bm hdct sn sub ab col dd k0 k1 k2 k3 k5 newId))
    (he : h.get? e = some { cls := .ref C, data := .fields #[.ref t0, .none, .none, .none, .bool false, .none] }) (hrest : rest.length ≤ sizeLine)
    (hq : ∀ h' t1, (∀ b o, b ≠ e → h.get? b = some o → h'.get? b = some o) → h'.get? e = some { cls := .ref C, data := .fields #[.ref t1, .none, .none, .none, .bool false, .none] } → Q .none ⟨h', g, d, t, os⟩) :
    wpAny (model prog w) A (call (.builtin initId) (.ref e :: rest)) Q E ⟨h, g, d, t, os⟩ := by
  refine wpAny_call (codeAny_call_builtin F.init.plain F.initEntry (wpAny_check_init_subU F T hC he rfl ?_))
  have hlt := Heap.lt_size he
  wp_walk
  refine hq _ h.objs.size (fun b o nb hb => ?_) ?_
  · rw [Heap.get?_update_other _ _ (Ne.symm nb)]
    exact Heap.get?_push_of_some _ hb
  · rw [Heap.get?_update_self _ (Heap.get?_push_of_some _ he) rfl]
    rfl
end
end PySem

set_option Elab.async false
set_option linter.all false
set_option maxRecDepth 100000
set_option maxHeartbeats 4000000
namespace L2
open PySem PySem.Spec PyProof.Rows
section
variable {X : Cx} {pins : List (Addr × Obj)} {σ : St} {H : Hp} {s : Shared}
/-- an untracked object that X lets go is changed -/
theorem Inv.turn {h' : Heap} {t' : Nat} {e : Addr} {ob : Obj} (I : Inv X pins σ H s) (hx : e ∈ X.ex) (hp : ∀ p ∈ X.pn ++ pins, p.1 ≠ e) (hH : H e = none) (k : ∀ b o, b ≠ e → s.heap.get? b = some o → h'.get? b = some o) (he : h'.get? e = some ob) :
    Inv X pins σ H { s with heap := h', toks := t' } := by
  have ne : ∀ b : Addr, b ∉ [e] → b ≠ e := fun b n z => n (by rw [z]; exact List.mem_cons_self)
  refine I.call (ch := [e]) (g' := s.gens) (d' := s.drawn) ⟨fun b o q n nb nx => k b o (ne b nx) q, fun b o q n nb nx => ⟨o.slots, k b o (ne b nx) q⟩, fun b o q n nx => n, fun b o q nx => ⟨o, k b o (ne b nx) q⟩, fun b xs q => q, fun b o u q => q, fun b ps q => ⟨#[], by rw [Array.append_empty]; exact q⟩⟩
    (I.hok.off [e] (fun b hb => by rw [List.mem_singleton.mp hb]; exact hH) fun b o q nb => k b o (ne b nb) q) I.bare fun b hb => ?_
  rw [List.mem_singleton.mp hb]
  exact ⟨.inl hx, (I.ok.exf e hx).1, (I.ok.exf e hx).2, hp⟩
/-- b, a class of ours over ValueError without an __init__ -/
structure ExB (K : PySem.W.Frag) (mg : Str → Option Value) (b : Str) (B : Addr) : Prop where
  glob : mg b = some (.ref B)
  sp : PySem.W.specialIn K (.ref B) "__getattribute__" = some (some (.builtin "type.__getattribute__"))
  rd : PySem.W.readsIn K B (.type "type") = true
  fc : PySem.W.findCls K (.ref B) (.type "type") "__init__" = some (.val (.builtin "ValueError.__init__"))
def bmVE : List Value := [Value.type "ValueError", Value.type "Exception", Value.type "BaseException", Value.type "object"]
/-- the class at C, as it lies in the heap -/
def ExAt (h : Heap) (C : Addr) : Prop := ∃ bm N nm q bs hdct sn sub ab col dd k0 k1 k2 k3 k5, h.get? C = some (excClassObj nm q C N bs bm hdct sn sub ab col dd k0 k1 k2 k3 k5 "ValueError.__new__") ∧ OwnTail h bmVE bm
def eObj (C : Addr) (dx : Option Addr) (t : Addr) : Obj := { cls := .ref C, dict := dx, data := .fields #[.ref t, .none, .none, .none, .bool false, .none] }
theorem st_init {b : Str} {B C e t0 : Addr} {np ap cp pos : Pos} {a0 : Expr} {as : List Expr} {t : TA} {pl : Sem Bool} (I : Inv X pins σ H s) (hb : ExB X.K X.mg b B) (hg : Gl X b) (hC : ExAt X.base C) (hx : e ∈ X.ex) (hp : ∀ p ∈ X.pn ++ pins, p.1 ≠ e) (hH : H e = none)
    (he : s.heap.get? e = some (eObj C none t0)) (ha : PA X (a0 :: as) t) {x : Str} (hq : t σ H fun vs H1 => H1 = H ∧ vs = [.ref e, .str x])
    (hdb : (b == ("__debug__" : Str)) = false) (hst : starEach (a0 :: as) X.env = (false, eval a0 X.env) :: starEach as X.env) (hpl : (backTo cp (starEach as X.env)).any (·.1) = false)
    (ht : eval (.Call (.Attribute (.Name b np) "__init__" ap) (a0 :: as) [] cp) X.env = (do
      let v ← eval (.Name b np) X.env
      standAt ap.atName
      let (g, first) ← holding [v] (getMethod v "__init__" pl)
      callWith cp g first (backTo cp (starEach (a0 :: as) X.env)) (backToKw cp (keywordEach [] X.env))))
    (hs : swapsWith (.Call (.Attribute (.Name b np) "__init__" ap) (a0 :: as) [] cp) none pos.line X.env = pure false) :
    wpAny (model X.prog X.w) X.A (exec (.Expr (.Call (.Attribute (.Name b np) "__init__" ap) (a0 :: as) [] cp) pos) X.env) (fun fl s' => fl = .next ∧ Inv X pins σ H s' ∧ ∃ t1, s'.heap.get? e = some (eObj C none t1)) X.xe s := by
  refine wpAny_Expr_any ?_ I.quiet hs
  refine PySem.W.methodCall_KW (pl := pl) (ld_glob I hg hb.glob ?_ hdb) ht
  refine PySem.W.method_cls I.kIn hb.sp ?_
  refine PySem.W.cls_value I.kIn hb.rd hb.fc rfl ?_
  have I1 : Inv X ((e, eObj C none t0) :: pins) σ H { s with toks := s.toks + 1 } := by
    have I0 : Inv X pins σ H { s with toks := s.toks + 1 } := I.kept (t' := s.toks + 1) fun _ _ e => e
    exact I0.pins_of fun p hp' => by
      rcases List.mem_cons.mp hp' with rfl | hp'
      · exact ⟨he, hH, (I.ok.exf e hx).1 , I.ok.exfs e hx, fun v z => by cases z⟩
      · exact I0.pin p (List.mem_append_right _ hp')
  refine PyProof.Rows.callWith_builtin1 (thn (ha cp _ _ σ H _ I1 hq) fun us s1 ⟨vs, H1, I2, r, e1, e2⟩ => ?_) hst hpl
  subst e1 e2
  obtain ⟨u1, u2, rfl, r1, r2⟩ := vals2 r
  cases r1
  obtain ⟨bm, N, nm, q, bs, hdct, sn, sub, ab, col, dd, k0, k1, k2, k3, k5, o1, o2⟩ := hC
  have he2 := (I2.pin (e, eObj C none t0) (List.mem_append_right _ List.mem_cons_self)).1
  have I3 : Inv X pins σ H1 s1 := I2.pins_of fun p hp' => I2.pin p (List.mem_append_right _ (List.mem_cons_of_mem _ hp'))
  have o1' := I3.bk _ _ o1
  have o2' := OwnTail.kept o2 I3.bk
  obtain ⟨hh, g, d, tk, os⟩ := s1
  refine own_init_call PySem.F.excBase_ValueError o2' o1' he2 (by show 1 ≤ sizeLine; decide) fun h' t1 k e' => ?_
  exact ⟨rfl, I3.turn (s := ⟨hh, g, d, tk, os⟩) (t' := tk) hx hp hH k e', t1, e'⟩
theorem nsFind_one (fld n : Str) (k : Int) (t : Tok) (u : Value) : nsFind [(⟨k, .str fld t, u⟩ : DictEntry)].toArray n = if n = fld then some u else none := by
  by_cases q : n = fld
  · subst q
    rw [if_pos rfl]
    simp [nsFind, findBy, Value.isStr]
  · rw [if_neg q]
    simp [nsFind, findBy, Value.isStr]
    exact fun z => q z.symm
/-- a field of our exceptions -/
structure ExF (K : PySem.W.Frag) (C : Addr) (fld : Str) : Prop where
  sa : PySem.W.findIn K (.ref C) "__setattr__" = some (some (.builtin "object.__setattr__"))
  cl : ∃ cd, PySem.W.clsIn K C = some cd ∧ PySem.W.onlyExc cd.mro = true ∧ cd.hasDict = true
  tk : PySem.W.takerIn K C fld = some none
theorem st_fld {C e t0 : Addr} {fld : Str} {v : V} {o value : Expr} {pos' pos : Pos} {tv ta : TE} (I : Inv X pins σ H s) (hf : ExF X.K C fld) (hx : e ∈ X.ex) (hp : ∀ p ∈ X.pn ++ pins, p.1 ≠ e) (hH : H e = none)
    (he : s.heap.get? e = some (eObj C none t0)) (hv : PE X value tv) (ha : PE X o ta) (hq : tv σ H fun y H1 => H1 = H ∧ y = v) (hq2 : ta σ H fun y H1 => H1 = H ∧ y = .ref e) (hpn : X.pn = [] ∧ pins = []) (hce : X.env.cells = [])
    (hs : swapsWith value (some (.Attribute o fld pos')) pos.line X.env = pure false) :
    wpAny (model X.prog X.w) X.A (exec (.Assign [.Attribute o fld pos'] value pos) X.env) (fun fl s' => fl = .next ∧ ∃ dx, X.s_0.heap.objs.size ≤ dx ∧ H dx = none ∧ Inv X pins σ (upd H dx (.xd [(fld, v)])) s' ∧ s'.heap.get? e = some (eObj C (some dx) t0)) X.xe s := by
  obtain ⟨hpn1, rfl⟩ := hpn
  have pin1 : ∀ {s : Shared}, Inv X [] σ H s → s.heap.get? e = some (eObj C none t0) → Inv X [(e, eObj C none t0)] σ H s := fun I he => I.pins_of fun p hp' => by
    rw [List.mem_singleton.mp hp']
    exact ⟨he, hH, (I.ok.exf e hx).1, I.ok.exfs e hx, fun v z => by cases z⟩
  have pin0 : ∀ {s : Shared}, Inv X [(e, eObj C none t0)] σ H s → Inv X [] σ H s ∧ s.heap.get? e = some (eObj C none t0) := fun I => ⟨I.pins_of (fun p hp' => nomatch hp'), (I.pin (e, eObj C none t0) (List.mem_append_right _ List.mem_cons_self)).1⟩
  refine plainObj_wpAny_Assign_Attribute (thn (hv _ s σ H _ (pin1 I he) hq) fun u s1 ⟨y, H1, I1, ry, e1, e2⟩ => ?_) hs
  subst e1 e2
  refine thn (ha _ s1 σ H1 _ I1 hq2) fun ov s2 ⟨y2, H2, I2, rx, e1, e2⟩ => ?_
  subst e1 e2
  obtain rfl : ov = Value.ref e := rx
  obtain ⟨I3, he3⟩ := pin0 I2
  obtain ⟨cd, hc, ho, hd⟩ := hf.cl
  have J : PySem.W.InstAt s2.heap e (eObj C none t0) C none := ⟨he3, rfl, rfl, trivial⟩
  refine PySem.W.set_plain I3.kIn J hf.sa (PySem.W.osa_exc (s := { s2 with toks := s2.toks + 1 }) (cd := cd) I3.kIn he3 hc ho hd hf.tk fun h' dx k edx hE hD => ?_)
  have I4 : Inv X [] σ H2 { s2 with heap := h', toks := s2.toks + 1 + 1 } := I3.turn (t' := s2.toks + 1 + 1) hx (by rw [hpn1]; exact fun p hp => nomatch hp) hH k hE
  have hge : s2.heap.objs.size ≤ dx := by rw [edx]; exact Nat.le_refl _
  have hdn : H2 dx = none := I3.hok.fresh hge
  refine ⟨rfl, dx, Nat.le_trans I3.sz hge, hdn, I4.track (Nat.le_trans I3.sz hge) ?_ ?_ ?_ hdn ?_, hE⟩
  · exact fun z => absurd I3.lt (by rw [← z]; exact Nat.not_lt.mpr hge)
  · intro x c z
    rw [hce] at z; cases z
  · rw [hpn1]; exact fun p hp => nomatch hp
  · refine ⟨fun n => if n = fld then some u else none, ⟨_, _, _, hD, PySem.W.putName_new, ?_, ?_, fun n => ?_⟩, fun f => ?_⟩
    · intro b hb
      rw [List.mem_toArray, List.mem_singleton] at hb
      rw [hb]
      exact ⟨fld, _, rfl⟩
    · unfold UniqKeys
      exact List.pairwise_singleton _ _
    · exact nsFind_one fld n _ _ _
    · by_cases q : f = fld
      · subst q
        show RelO (List.lookup f [(f, y)]) (if f = f then some u else none)
        rw [if_pos rfl, List.lookup_cons_self]
        exact ry
      · show RelO (List.lookup f [(fld, y)]) (if f = fld then some u else none)
        rw [if_neg q, List.lookup_cons, show (f == fld) = false from beq_eq_false_iff_ne.mpr q]
        exact True.intro
end
end L2

set_option Elab.async false
set_option linter.all false
set_option maxRecDepth 100000
set_option maxHeartbeats 4000000
namespace L2
open PySem PySem.Spec PyProof.Rows
/-- X, which lets e go, and from which nothing flies -/
def cxEx (X : Cx) (e : Addr) : Cx := { X with ex := [e], xe := fun _ _ => False }
theorem inv_ex {X : Cx} {pins : List (Addr × Obj)} {σ : St} {H : Hp} {s : Shared} {e : Addr} (I : Inv X pins σ H s) (hX : X.ex = []) (h1 : e ≠ X.env.locals) (h2 : X.env.cells = []) (h3 : X.base.get? e = none) (h4 : e ∉ X.fs) : Inv (cxEx X e) pins σ H s := by
  have nx : ∀ b : Addr, b ∉ X.ex := fun b z => by rw [hX] at z; cases z
  refine ⟨⟨I.ok.mod, I.ok.kind, I.ok.glob, I.ok.blt, I.ok.above, I.ok.inj, I.ok.has, I.ok.cab, I.ok.hd, I.ok.frames, I.ok.stk, fun b hb => ?_, I.ok.bs, I.ok.bsz, fun b o q hb => ?_, fun b hb => ?_, I.ok.funs, I.ok.frf⟩, I.os, I.bare, ?_, I.loc, I.cell, I.free, I.freeC, I.pin, I.hok, I.len⟩
  · rw [List.mem_singleton.mp hb]
    refine ⟨h1, fun x c z => ?_⟩
    have z : X.env.cells.lookup x = some c := z
    rw [h2] at z; cases z
  · rw [List.mem_singleton.mp hb] at q
    have q : X.base.get? e = some o := q
    rw [h3] at q; cases q
  · rw [List.mem_singleton.mp hb]; exact h4
  · exact ⟨fun b o q n nb _ => I.base.keep b o q n nb (nx b), fun b o q n nb _ => I.base.slot b o q n nb (nx b), fun b o q n _ => I.base.free b o q n (nx b), fun b o q _ => I.base.there b o q (nx b), I.base.tups, I.base.frzs, I.base.tbls⟩
section
variable {P : Program} {w : World} {K : PySem.W.Frag} {mg : Str → Option Value} {base : Heap}
abbrev cxI (P : Program) (w : World) (K : PySem.W.Frag) (mg : Str → Option Value) (base : Heap) (N : List Str) (qual : Str) (scope : Scope) (f : Addr) (cd : Value) (A : Around) (outer : List Env) (s : Shared) (H : Hp) (e : Addr) : Cx :=
  cxEx (cxOf CX0 P w K mg base N qual scope f cd A outer s H E0) e
/-- the __init__ of an exception of ours: what its rows do -/
def InitB (P : Program) (w : World) (K : PySem.W.Frag) (mg : Str → Option Value) (base : Heap) (k : Nat) (C f : Addr) (qual : Str) (st : Stmt) (N : List Str) (fld : Str) : Prop :=
  ∀ (cdv : Value) (A : Around) (outer : List Env) (s s1 : Shared) (H : Hp) (e t0 : Addr) (v : V), Room k (A.deeper (envOfC qual (defScope st) s.heap.objs.size f cdv)) → H e = none →
    Inv (cxI P w K mg base N qual (defScope st) f cdv A outer s H e) [] (start N [.ref e, v]) H s1 → s1.heap.get? e = some (eObj C none t0) →
    wpAny (model P w) (A.deeper (envOfC qual (defScope st) s.heap.objs.size f cdv)) (execs (defBody st) (envOfC qual (defScope st) s.heap.objs.size f cdv)) (fun fl s' => fl = .next ∧ ∃ dx t1 σ', s.heap.objs.size ≤ dx ∧ H dx = none ∧
      Inv (cxI P w K mg base N qual (defScope st) f cdv A outer s H e) [] σ' (upd H dx (.xd [(fld, v)])) s' ∧ s'.heap.get? e = some (eObj C (some dx) t1)) (fun _ _ => False) s1
theorem init_run {qual : Str} {st : Stmt} {f C : Addr} {fd : FuncData} {N ps : List Str} {k : Nat} {fld : Str} (F : Fun K "__init__" qual st f fd) (S : FnScope N ps (defScope st)) (hl : ps.length = 2) (hc : ∀ n, cellsFrom n (defScope st).names [] = []) (hB : InitB P w K mg base k C f qual st N fld)
    {A : Around} {outer : List Env} {s : Shared} {H : Hp} {args : Args} {u : Value} {v : V} {e t0 : Addr} {R : Result → Shared → Prop} (hr : Room (k + 1) A) (e0 : Env0 P w K mg base A outer s H) (hb : BindsTo s fd args (ps.zip [.ref e, u])) (rv : RelV v u) (hH : H e = none)
    (he : s.heap.get? e = some (eObj C none t0)) (hbe : base.get? e = none) (hfe : e ∉ frs outer)
    (hR : ∀ s' dx t1, s'.os = s.os → AllBare s'.gens → Un (frs outer) [e] H (upd H dx (.xd [(fld, v)])) s.heap s'.heap → HOk P w (upd H dx (.xd [(fld, v)])) s'.heap → s'.heap.get? e = some (eObj C (some dx) t1) → s.heap.objs.size ≤ dx → H dx = none → R (.ok (.ret .none)) s') :
    codeAny (model P w) A (.call (.ref f) args) R s := by
  obtain ⟨oc, od, kV, doc, pm, an, cdv, ct, osl, rfl, lk, hcd⟩ := F.ex
  have KX : K.In s.heap := e0.mod.kin.keeps fun b o e => (e0.bs b o e).1
  have lim : s.heap.NoLimit := e0.mod.nolimit.keeps fun b o e => (e0.bs b o e).1
  have hkind : ∀ y ∈ ps.zip [Value.ref e, u], (defScope st).names.lookup y.1 = some .local ∨ ((defScope st).names.lookup y.1 = some .cell ∧ ((cellsFrom (s.heap.objs.size + 1) (defScope st).names []).lookup y.1).isSome = true) := fun ⟨n, v⟩ hy => by
    rcases S.par n (List.of_mem_zip hy).1 with q | q
    · exact .inl q
    · exact .inr ⟨q, PySem.W.cellsFrom_some _ _ _ (.inl q)⟩
  refine codeAny_call_function hr.depth (KX _ _ lk) rfl S.co S.gen rfl (PySem.W.codeRec_of KX hcd) (hb _ _ _ _ ?_)
  refine wpAny_newFunctionEnv_cells S.kind hkind fun env he' s1 x => ?_
  subst he'
  refine ⟨lim.keeps x.toInCall.keep, codeAny_func ?_⟩
  have I : Inv (cxOf CX0 P w K mg base N qual (defScope st) f cdv A outer s H E0) [] (start N [.ref e, v]) H s1 := inv_start S hr.hd e0 (by rw [hl]; rfl) (.cons rfl (.cons rv .nil)) x
  have hlt := Heap.lt_size he
  have I2 : Inv (cxI P w K mg base N qual (defScope st) f cdv A outer s H e) [] (start N [.ref e, v]) H s1 := inv_ex I rfl (Nat.ne_of_lt hlt) (hc _) hbe hfe
  refine wpAny_mono (hB cdv A outer s s1 H e t0 v (hr.deeper _) hH I2 (x.toInCall.keep _ _ he)) (fun fl s' hs => ?_) fun _ _ z => z.elim
  obtain ⟨rfl, dx, t1, σ', h1, h2, J, h4⟩ := hs
  exact hR s' dx t1 J.os J.bare J.base J.hok h4 h1 h2
end
end L2

set_option Elab.async false
set_option linter.all false
set_option maxRecDepth 100000
set_option maxHeartbeats 4000000
namespace L2
open PySem PySem.Spec PyProof.Rows
/-- an exception class of ours whose own __init__ is at f -/
def excInI (K : PySem.W.Frag) (C : Addr) (bmB : List Value) (newId : String) (f : Addr) : Bool := match K.lookup C with
  | some ⟨.type "type", _, .cls cd, sl⟩ => (match cd.mro, sl.toList with
    | .ref C' :: bm, [_, _, _, _, some (.builtin n), _] => C' == C && n == newId && !cd.hasDel && PySem.W.tailIn K bmB bm && PySem.W.nsOkIn K cd.ns && PySem.W.nsIn K cd.ns "__init__" == some (some (.ref f))
    | _, _ => false)
  | _ => false
theorem ns_some_of {K : PySem.W.Frag} {h : Heap} {N : Addr} {mg : Str → Option Value} {n : Str} {v : Value} (X : K.In h) (G : h.Ns N mg) (e : PySem.W.nsIn K N n = some (some v)) : mg n = some v := by
  obtain ⟨o, es, ep, ho, hd, _, hf⟩ := G
  unfold PySem.W.nsIn at e
  split at e
  · rename_i c d es' n' sl q
    have := X _ _ q
    rw [ho] at this
    cases this
    cases hd
    split at e
    · rename_i en he
      rw [← hf]
      unfold nsFind findBy
      rw [← Array.find?_toList, he]
      cases e
      rfl
    · split at e <;> cases e
  · cases e
theorem exc_objI {K : PySem.W.Frag} {h : Heap} {C f : Addr} {bmB : List Value} {newId : String} (hK : K.In h) (e : excInI K C bmB newId f = true) : ∃ bm N nm q bs hdct sn sub ab col dd k0 k1 k2 k3 k5 mN,
    h.get? C = some (excClassObj nm q C N bs bm hdct sn sub ab col dd k0 k1 k2 k3 k5 newId) ∧ h.Ns N mN ∧ mN (Str.ofString "__init__") = some (.ref f) ∧ OwnTail h bmB bm := by
  unfold excInI at e
  split at e
  · rename_i dct cdt sl hl
    split at e
    · rename_i C' bm hd0 hd1 hd2 hd3 n hd4 hm hs
      simp only [Bool.and_eq_true, beq_iff_eq, Bool.not_eq_true'] at e
      obtain ⟨⟨⟨⟨⟨rfl, rfl⟩, hdel⟩, htl⟩, hns⟩, hin⟩ := e
      obtain ⟨nm, bs, mro, N, q, hdct, sn, sub, ab, col, del⟩ := cdt
      simp only at hm hdel hns hin
      subst hm hdel
      have hsl : sl = #[hd0, hd1, hd2, hd3, some (Value.builtin n), hd4] := by
        apply Array.ext'
        rw [hs]
      subst hsl
      have hN : h.isNs N = true := PySem.W.isNs_of_in hK hns
      have this : ∃ m, h.Ns N m := ⟨_, PySem.Heap.Ns.of_isNs hN⟩
      obtain ⟨mN, hm⟩ := this
      exact ⟨bm, N, nm, q, bs, hdct, sn, sub, ab, col, dct, hd0, hd1, hd2, hd3, hd4, mN, hK _ _ hl, hm, ns_some_of hK hm hin, PySem.W.tail_of_in hK htl⟩
    · cases e
  · cases e
structure ExI (K : PySem.W.Frag) (mg : Str → Option Value) (x : Str) (C f : Addr) : Prop where
  glob : mg x = some (.ref C)
  exc : excInI K C bmVE "ValueError.__new__" f = true
  fnc : (K.lookup f).map (·.cls) = some (.type "function")
theorem ExI.at {K : PySem.W.Frag} {mg : Str → Option Value} {x : Str} {C f : Addr} {h : Heap} (c : ExI K mg x C f) (hK : K.In h) : ExAt h C := by
  obtain ⟨bm, N, nm, q, bs, hdct, sn, sub, ab, col, dd, k0, k1, k2, k3, k5, mN, o1, _, _, o4⟩ := exc_objI hK c.exc
  exact ⟨bm, N, nm, q, bs, hdct, sn, sub, ab, col, dd, k0, k1, k2, k3, k5, o1, o4⟩
section
variable {X : Cx} {pins : List (Addr × Obj)} {σ : St} {H : Hp} {s : Shared}
/-- an exception of ours, new, with its field -/
def Made (X : Cx) (pins : List (Addr × Obj)) (σ : St) (H : Hp) (s : Shared) (C : Addr) (fld : Str) (v : V) (r : Value) (s' : Shared) : Prop :=
  ∃ e dx t1, r = .ref e ∧ Inv X pins σ (upd H dx (.xd [(fld, v)])) s' ∧ s'.heap.get? e = some (eObj C (some dx) t1) ∧ H e = none ∧ H dx = none ∧ e ≠ dx ∧ s.heap.get? e = none ∧ s.heap.get? dx = none
theorem run_exc {x qual fld : Str} {st : Stmt} {C f : Addr} {fd : FuncData} {N ps : List Str} {k : Nat} {u : Value} {v : V} {E : Value → Shared → Prop} (c : ExI X.K X.mg x C f) (F : Fun X.K "__init__" qual st f fd) (S : FnScope N ps (defScope st)) (hl : ps.length = 2) (hc : ∀ n, cellsFrom n (defScope st).names [] = [])
    (hB : InitB X.prog X.w X.K X.mg X.base k C f qual st N fld) (hb : Binds X.K fd ps []) (hr : Room (k + 2) X.A) (I : Inv X pins σ H s) (rv : RelV v u) : wpAny (model X.prog X.w) X.A (call (.ref C) [u]) (Made X pins σ H s C fld v) E s := by
  obtain ⟨bm, N', nm, q, bs, hdct, sn, sub, ab, col, dd, k0, k1, k2, k3, k5, mN, o1, o2, o3, o4⟩ := exc_objI I.kIn c.exc
  obtain ⟨oI, lkf, hfc⟩ := Option.map_eq_some_iff.mp c.fnc
  have hfI := I.kIn _ _ lkf
  obtain ⟨hh, g, d, t, os⟩ := s
  refine own_call_init PySem.F.excBase_ValueError (by decide) PySem.F.excBase_ValueError o4 o1 o2 o3 hfI hfc (fun h' e m => ?_) (by show 1 ≤ sizeLine; decide)
  obtain ⟨t0, e0, _, _⟩ := m.there
  have I2 : Inv X pins σ H ⟨h', g, d, t, os⟩ := I.kept (s := ⟨hh, g, d, t, os⟩) (t' := t) m.keeps
  have hH : H e = none := by
    cases z : H e with
    | none => rfl
    | some o => obtain ⟨ob, q⟩ := (I.hok e o z).ex; rw [m.new] at q; cases q
  have hbe : X.base.get? e = none := by
    cases z : X.base.get? e with
    | none => rfl
    | some o => have := I.bk e o z; rw [show (Shared.heap ⟨hh, g, d, t, os⟩) = hh from rfl, m.new] at this; cases this
  have hfe : e ∉ frs X.stack := fun z => by
    obtain ⟨_, o, ho, _⟩ := I.stack.mem z
    rw [show (Shared.heap ⟨hh, g, d, t, os⟩) = hh from rfl, m.new] at ho; cases ho
  refine wpAny_call (init_run F S hl hc hB (hr.make C [u] []) (I2.env0.make C [u] []) (hb _ [.ref e, u] I2.kIn (by rw [hl]; rfl)) rv hH e0 hbe hfe fun s' dx t1 hos hg un hok hE hdx hHd => ?_)
  have un2 : Un (frs X.stack) [] H (upd H dx (.xd [(fld, v)])) hh s'.heap := by
    have ne : ∀ b o, hh.get? b = some o → b ∉ [e] := fun b o q z => by rw [List.mem_singleton.mp z, m.new] at q; cases q
    exact ⟨fun b o q n nb _ => un.keep b o (m.keeps b o q) n nb (ne b o q), fun b o q n nb _ => un.slot b o (m.keeps b o q) n nb (ne b o q), fun b o q n _ => un.free b o (m.keeps b o q) n (ne b o q), fun b o q _ => un.there b o (m.keeps b o q) (ne b o q), un.tups, un.frzs, un.tbls⟩
  obtain ⟨h3, g3, d3, t3, os3⟩ := s'
  obtain rfl : os3 = os := hos
  refine ⟨rfl, e, dx, t1, rfl, I.call (h' := h3) (g' := g3) (d' := d3) (t' := t3) (ch := []) un2 hok hg (fun b z => absurd z (by simp)), hE, hH, hHd, ?_, m.new, ?_⟩
  · intro z
    have : e < h'.objs.size := Heap.lt_size e0
    exact absurd this (by rw [z]; exact Nat.not_lt.mpr hdx)
  · show hh.get? dx = none
    cases z : hh.get? dx with
    | none => rfl
    | some o => exact absurd (Heap.lt_size (m.keeps _ _ z)) (Nat.not_lt.mpr hdx)
end
end L2

set_option Elab.async false
set_option linter.all false
set_option maxRecDepth 100000
set_option maxHeartbeats 4000000
namespace PySem
section
variable {M : Model} {A : Around} {E : Value → Shared → Prop} {env : Env}
variable {nm q : Str} {C N : Addr} {bs bm : List Value} {hdct : Bool} {sn : List Str} {sub : List Value} {ab : Bool} {col : Option Bool} {dd : Option Addr} {k0 k1 k2 k3 k5 : Option Value} {newId : String}
theorem raise_dict {s : Shared} {x : Sem Value} {Q : Flow → Shared → Prop} (hbase : bm.contains (.type "BaseException") = true) (hh : A.handled = none)
    (h : wpAny M A x (fun v s₁ => ∃ e t dx, v = .ref e ∧ s₁.heap.get? C = some (excClassObj nm q C N bs bm hdct sn sub ab col dd k0 k1 k2 k3 k5 newId) ∧
      s₁.heap.get? e = some { cls := .ref C, dict := some dx, data := .fields #[.ref t, .none, .none, .none, .bool false, .none] } ∧ E (.ref e) s₁) E s) :
    wpAny M A (raiseStmt env (some x) none) Q E s := by
  have hcB : (Value.ref C :: bm).contains (.type "BaseException") = true := by rw [List.contains_cons, hbase, Bool.or_true]
  unfold raiseStmt
  refine wpAny_bind (wpAny_mono h (fun v s₁ h₁ => ?_) fun _ _ x => x)
  obtain ⟨e, t, dx, rfl, hC, he, hE⟩ := h₁
  obtain ⟨hp, g, d, tk, os⟩ := s₁
  repeat (first | with_reducible refine wpAny_loadPart_at he ?_ | with_reducible refine wpAny_loadPart_at hC ?_ | (with_reducible refine wpAny_isSubtype_exc hC ?_; rw [hcB]) | wp_step)
  exact wpAny_raiseNew_none hh hE
end
end PySem
namespace L2
open PySem PySem.Spec PyProof.Rows
section
variable {X : Cx}
def tRaiseI (C : Addr) (fld : Str) (E : XK) (t : TA) : TS := fun _ σ H => t σ H fun vs H1 => ∃ v, vs = [v] ∧ ∀ dx, H1 dx = none → E (.ref C) (some dx) (upd H1 dx (.xd [(fld, v)]))
theorem ps_raiseI {E : XK} {x qual fld : Str} {st : Stmt} {C f : Addr} {fd : FuncData} {N ps : List Str} {k : Nat} {np cpos pos : Pos} {e : Expr} {es : List Expr} {t : TA} (F : Flies X E) (hx : X.ex = []) (hc : X.calm = true) (c : ExI X.K X.mg x C f) (Fu : Fun X.K "__init__" qual st f fd) (S : FnScope N ps (defScope st)) (hl : ps.length = 2)
    (hce : ∀ n, cellsFrom n (defScope st).names [] = []) (hB : InitB X.prog X.w X.K X.mg X.base k C f qual st N fld) (hb : Binds X.K fd ps []) (hr : Room (k + 2) X.A) (hg : Gl X x) (ha : PA X (e :: es) t)
    (hdb : (x == ("__debug__" : Str)) = false := by decide) (he : starEach (e :: es) X.env = (false, eval e X.env) :: starEach es X.env := by rfl) (hpl : (backTo cpos (starEach (e :: es) X.env)).any (·.1) = false := by rfl) :
    PS X (.Raise (some (.Call (.Name x np) (e :: es) [] cpos)) none pos) (tRaiseI C fld E t) := by
  intro pins s σ H D I h
  obtain ⟨bm, N', nm, q, bs, hdct, sn, sub, ab, col, dd, k0, k1, k2, k3, k5, mN, o1, o2, o3, o4⟩ := exc_objI I.mod.kin c.exc
  rw [arm_exec_Raise]
  have key : wpAny (model X.prog X.w) X.A (eval (.Name x np) X.env) (fun fv s₁ => fv = .ref C ∧ wpAny (model X.prog X.w) X.A (evalArgs (.ref C) true (backTo cpos (starEach (e :: es) X.env)) [])
      (fun a s₂ => a.kw = [] ∧ ∃ u v H1, a.pos = [u] ∧ RelV v u ∧ Inv X pins σ H1 s₂ ∧ ∀ dx, H1 dx = none → E (.ref C) (some dx) (upd H1 dx (.xd [(fld, v)]))) X.xe s₁) X.xe s := by
    refine ld_glob I hg c.glob ⟨rfl, ?_⟩ hdb
    have sp := ha cpos pins s σ H _ I h
    have he2 : backTo cpos (starEach (e :: es) X.env) = (false, eval e X.env) :: backTo cpos (starEach es X.env) := by rw [he]; rfl
    rw [he2] at sp ⊢
    refine Calls.evalArgs_plain (thn sp fun us s1 ⟨vs, H1, I1, r, v, ev, q⟩ => ⟨rfl, ?_⟩)
    subst ev
    obtain ⟨u, rfl, ru⟩ := vals1 r
    exact ⟨u, v, H1, rfl, ru, I1, q⟩
  refine wpAny_bind (wpAny_standAt (raise_dict (C := C) (nm := nm) (q := q) (N := N') (bs := bs) (bm := bm) (hdct := hdct) (sn := sn) (sub := sub) (ab := ab) (col := col) (dd := dd) (k0 := k0) (k1 := k1) (k2 := k2) (k3 := k3) (k5 := k5) (newId := "ValueError.__new__") (OwnTail.has o4 (by decide)) (I.ok.hd hc) (wpAny_bind (wpAny_mono (wpAny_Call_ofName (wpAny_mono key (fun fv s₁ h₁ => ?_) fun _ _ x => x)) (fun v s₃ h₃ => wpAny_bind (wpAny_standAt (wpAny_pure h₃))) fun _ _ x => x))))
  obtain ⟨rfl, h₁⟩ := h₁
  unfold callWith
  refine wpAny_bind (wpAny_holding (wpAny_mono h₁ (fun a s₂ h₂ => wpAny_bind (wpAny_standAt ?_)) fun _ _ x => x))
  obtain ⟨apos, akw⟩ := a
  obtain ⟨hkw, u, v, H1, hap, rv, I1, hE⟩ := h₂
  obtain rfl : akw = [] := hkw
  obtain rfl : apos = [u] := hap
  simp only [hpl]
  obtain ⟨hp, g, d, tk, os⟩ := s₂
  refine wpAny_bind (wpAny_keeperOf_exc (I1.bk _ _ o1) ?_)
  refine wpAny_bind (wpAny_mono (run_exc c Fu S hl hce hB hb hr I1 rv) (fun r s' hm => wpAny_bind (wpAny_holding (wpAny_point (wpAny_pure ?_)))) fun _ _ z => z)
  obtain ⟨ee, dx, t1, rfl, I2, h1, h2, h3, h4, h5, h6⟩ := hm
  refine ⟨ee, t1, dx, rfl, I2.bk _ _ o1, h1, F.made pins σ _ s' ee _ _ I2 h1 rfl rfl (by rw [upd_ne h4]; exact h2) ?_ (hE dx h3)⟩
  cases z : X.s_0.heap.get? ee with
  | none => rfl
  | some o =>
    obtain ⟨ob, q⟩ := I1.base.there ee o z (by rw [hx]; simp)
    have q : hp.get? ee = some ob := q
    have h5 : hp.get? ee = none := h5
    rw [h5] at q; cases q
end
end L2

set_option Elab.async false
set_option linter.all false
set_option maxRecDepth 100000
set_option maxHeartbeats 4000000
namespace L2
open PySem PySem.Spec PyProof.Rows
/-- the class x at C, its own __init__ written as st, one field -/
structure FunX (K : PySem.W.Frag) (mg : Str → Option Value) (x : Str) (C : Addr) (fld qual : Str) (st : Stmt) (ps : List Str) : Prop where
  ex : ∃ (f : Addr) (fd : FuncData), ExI K mg x C f ∧ Fun K "__init__" qual st f fd ∧ Binds K fd ps [] ∧ ExF K C fld
/-- an exception of ours that takes its field -/
structure ExcI (P : Program) (w : World) (K : PySem.W.Frag) (mg : Str → Option Value) (base : Heap) (k : Nat) (x : Str) (C : Addr) (fld : Str) : Prop where
  ex : ∃ (f : Addr) (fd : FuncData) (qual : Str) (st : Stmt) (N ps : List Str), ExI K mg x C f ∧ Fun K "__init__" qual st f fd ∧ FnScope N ps (defScope st) ∧ ps.length = 2 ∧ (∀ n, cellsFrom n (defScope st).names [] = []) ∧ InitB P w K mg base k C f qual st N fld ∧ Binds K fd ps []
theorem excI_of {P : Program} {w : World} {K : PySem.W.Frag} {mg : Str → Option Value} {base : Heap} {k : Nat} {x fld qual : Str} {C : Addr} {st : Stmt} {N ps : List Str} (F : FunX K mg x C fld qual st ps) (S : FnScope N ps (defScope st)) (hl : ps.length = 2) (hc : ∀ n, cellsFrom n (defScope st).names [] = [])
    (hB : ∀ f, ExI K mg x C f → ExF K C fld → InitB P w K mg base k C f qual st N fld) : ExcI P w K mg base k x C fld := by
  obtain ⟨f, fd, a, b, c, d⟩ := F.ex
  exact ⟨f, fd, qual, st, N, ps, a, b, S, hl, hc, hB f a d, c⟩
section
variable {X : Cx}
theorem ps_raiseX {E : XK} {x fld : Str} {C : Addr} {k : Nat} {np cpos pos : Pos} {e : Expr} {es : List Expr} {t : TA} (F : Flies X E) (hx : X.ex = []) (hc : X.calm = true) (c : ExcI X.prog X.w X.K X.mg X.base k x C fld) (hr : Room (k + 2) X.A) (hg : Gl X x) (ha : PA X (e :: es) t)
    (hdb : (x == ("__debug__" : Str)) = false := by decide) (he : starEach (e :: es) X.env = (false, eval e X.env) :: starEach es X.env := by rfl) (hpl : (backTo cpos (starEach (e :: es) X.env)).any (·.1) = false := by rfl) :
    PS X (.Raise (some (.Call (.Name x np) (e :: es) [] cpos)) none pos) (tRaiseI C fld E t) := by
  obtain ⟨f, fd, qual, st, N, ps, a1, a2, a3, a4, a5, a6, a7⟩ := c.ex
  exact ps_raiseI F hx hc a1 a2 a3 a4 a5 a6 a7 hr hg ha hdb he hpl
/-- what is wanted to read a field of our exceptions -/
structure ExR1 (K : PySem.W.Frag) (C : Addr) (fld : Str) : Prop where
  ea : ExA K C
  cl : ∃ cd, PySem.W.clsIn K C = some cd ∧ cd.hasDict = true
  no : PySem.W.findIn K (.ref C) fld = some none
def tXF (K : PySem.W.Frag) (ta : TE) (f : Str) : TE := fun σ H Q => ta σ H fun x H1 => ∃ (a C dx : Addr) (fs : List (Str × V)) (v : V), x = .ref a ∧ H1 a = some (excO a (.ref C) (some dx)) ∧ H1 dx = some (.xd fs) ∧ ExR1 K C f ∧ fs.lookup f = some v ∧ Q v H1
/-- e.f of a caught exception -/
theorem pe_excF {o : Expr} {f : Str} {pos : Pos} {ta : TE} (he : PE X o ta) (hb : attributeBase o f X.env (eval o X.env) = eval o X.env := by rfl) : PE X (.Attribute o f pos) (tXF X.K ta f) := by
  intro pins s σ H Q I h
  refine attr_of hb (thn (he pins s σ H _ I h) fun u s1 ⟨x, H1, I1, rx, a, C, dx, fs, v, ex, e1, e2, k, l, q⟩ => ?_)
  subst ex
  obtain rfl : u = Value.ref a := rx
  obtain ⟨⟨o1, vs, g1, c1, n1, d1⟩, _, _⟩ := I1.hok a _ e1
  obtain ⟨mA, ns, rel⟩ := I1.hok dx _ e2
  obtain ⟨od, hod, hlk⟩ := lookIn_ns ns
  obtain ⟨u, hu, ru⟩ := RelO.some_of (v := v) (o := mA f) (by rw [← l]; exact rel f)
  have J : PySem.W.InstAt s1.heap a o1 C (some od) := ⟨g1, c1, notCls_of d1, by rw [n1]; exact hod⟩
  obtain ⟨cd, hc, hd⟩ := k.cl
  have hfo : PySem.W.findObj X.K C (some od) f = some (.value u) := by
    unfold PySem.W.findObj
    rw [hc, Option.bind_some, k.no]
    simp only [Option.bind_some]
    unfold PySem.W.ownOf
    rw [if_pos hd]
    dsimp only
    rw [hlk, hu]
    rfl
  refine wpAny_bind (wpAny_mkText ?_)
  exact exc_by (s := { s1 with toks := s1.toks + 1 }) (v := u) (g := u) (a := u) I1.kIn J k.ea (.inl ⟨hfo, handed_of ru, v, H1, I1.tok _, ru, q⟩)
end
end L2

set_option Elab.async false
set_option linter.all false
set_option maxRecDepth 100000
set_option maxHeartbeats 4000000
namespace L2
open PySem PySem.Spec PyProof.Rows
section
variable {X : Cx} {pins : List (Addr × Obj)} {σ : St} {H : Hp} {s : Shared}
end
end L2

set_option Elab.async false
set_option linter.all false
set_option maxRecDepth 100000
set_option maxHeartbeats 1000000
namespace L2
open PySem PySem.Spec PyProof.Rows
/-! ### the ends of runs of the sorted turns hold -/
/-- the starts of the sorted turns, by rows -/
structure Rws2 (x : Str) (ys : List Int) (st : Nat → Nat) : Prop where
  at_ : ∀ r, r ≤ x.length → ys[r]? = some ((st r : Nat) : Int)
  le : ∀ r, r ≤ x.length → st r ≤ x.length
  on : ∀ s, s ≤ x.length → ∃ r, r ≤ x.length ∧ st r = s
  up : ∀ r t, r ≤ t → t ≤ x.length → ¬ rotL (wh x) (st t) < rotL (wh x) (st r)
end L2

set_option Elab.async false
set_option linter.all false
set_option maxRecDepth 100000
set_option maxHeartbeats 4000000
namespace PySem
open Sem (wp)
section
variable {prog : Program} {w : World} {A : Around} {E : Value → Shared → Prop} {h : Heap} {g : Array GenState} {d : Drawn} {t : Nat} {os : OsState}
variable {nm q : Str} {C N : Addr} {bs bm bmB : List Value} {hdct : Bool} {sn : List Str} {sub : List Value} {ab : Bool} {col : Option Bool} {dd : Option Addr} {k0 k1 k2 k3 k5 : Option Value} {B Bn newId nid initId inN : String} {bmN : List Value}
end
end PySem

set_option Elab.async false
set_option linter.all false
set_option maxRecDepth 100000
set_option maxHeartbeats 4000000
namespace L2
open PySem PySem.Spec PyProof.Rows
/-- the second parameter by its name -/
def BindK (fd : FuncData) (ps : List Str) (fld : Str) : Prop := ∀ (s : Shared) (a u : Value), BindsTo s fd ⟨[a], [(fld, u)]⟩ (ps.zip [a, u])
structure FunXK (K : PySem.W.Frag) (mg : Str → Option Value) (x : Str) (C : Addr) (fld qual : Str) (st : Stmt) (ps : List Str) : Prop where
  ex : ∃ (f : Addr) (fd : FuncData), ExI K mg x C f ∧ Fun K "__init__" qual st f fd ∧ Binds K fd ps [] ∧ ExF K C fld ∧ BindK fd ps fld
structure ExcIK (P : Program) (w : World) (K : PySem.W.Frag) (mg : Str → Option Value) (base : Heap) (k : Nat) (x : Str) (C : Addr) (fld : Str) : Prop where
  ex : ∃ (f : Addr) (fd : FuncData) (qual : Str) (st : Stmt) (N ps : List Str), ExI K mg x C f ∧ Fun K "__init__" qual st f fd ∧ FnScope N ps (defScope st) ∧ ps.length = 2 ∧ (∀ n, cellsFrom n (defScope st).names [] = []) ∧ InitB P w K mg base k C f qual st N fld ∧ Binds K fd ps [] ∧ BindK fd ps fld
theorem ExcIK.pos {P : Program} {w : World} {K : PySem.W.Frag} {mg : Str → Option Value} {base : Heap} {k : Nat} {x : Str} {C : Addr} {fld : Str} (c : ExcIK P w K mg base k x C fld) : ExcI P w K mg base k x C fld := by
  obtain ⟨f, fd, qual, st, N, ps, a1, a2, a3, a4, a5, a6, a7, _⟩ := c.ex
  exact ⟨f, fd, qual, st, N, ps, a1, a2, a3, a4, a5, a6, a7⟩
section
variable {X : Cx} {pins : List (Addr × Obj)} {σ : St} {H : Hp} {s : Shared}
/-! ### without an __init__ -/
end
end L2

set_option Elab.async false
set_option linter.all false
set_option maxRecDepth 100000
set_option maxHeartbeats 4000000
namespace L2
open PySem PySem.Spec PyProof.Rows
/-! ### xs.count(b) of a list of truths -/
section
variable {X : Cx}
end
end L2

set_option Elab.async false
set_option linter.all false
set_option maxRecDepth 100000
set_option maxHeartbeats 4000000
namespace L2
open PySem PySem.Spec PyProof.Rows
/-! ### tuples of a text and a number compared by the sort -/
section
variable {prog : Program} {w : World} {A : Around} {E : Value → Shared → Prop} {s : Shared}
end
end L2

set_option Elab.async false
set_option linter.all false
set_option maxRecDepth 100000
set_option maxHeartbeats 4000000
namespace L2
open PySem PySem.Spec PyProof.Rows
/-! ### sorted of tuples of a text and a number, the texts unlike -/
structure TupAt (h : Heap) (c : Addr) (z : Str) (n : Int) : Prop where
  ex : ∃ (o : Obj) (t t2 : Tok) (e : Nat), h.get? c = some o ∧ o.cls = .type "tuple" ∧ o.data = .seq #[.str z t, .int n t2] e
section
variable {prog : Program} {w : World} {A : Around} {E : Value → Shared → Prop} {s : Shared}
end
end L2

set_option Elab.async false
set_option linter.all false
set_option maxRecDepth 100000
set_option maxHeartbeats 4000000
namespace L2
open PySem PySem.Spec PyProof.Rows
theorem TupAt.uniq {h : Heap} {c : Addr} {z z' : Str} {n n' : Int} (a : TupAt h c z n) (b : TupAt h c z' n') : z = z' := by
  obtain ⟨o, t, t2, e, g, _, d⟩ := a.ex
  obtain ⟨o', t', t2', e', g', _, d'⟩ := b.ex
  rw [g] at g'
  cases g'
  rw [d] at d'
  injection d' with d1 d2
  have := congrArg (fun x : Array Value => x[0]?) d1
  have := Option.some.inj this
  injection this
section
variable {prog : Program} {w : World} {A : Around} {E : Value → Shared → Prop} {s : Shared}
end
end L2

set_option Elab.async false
set_option linter.all false
set_option maxRecDepth 100000
set_option maxHeartbeats 4000000
namespace L2
open PySem PySem.Spec PyProof.Rows
section
variable {X : Cx}
end
end L2

set_option Elab.async false
set_option linter.all false
set_option maxRecDepth 100000
set_option maxHeartbeats 1000000
namespace L2
open PySem PySem.Spec PyProof.Rows
/-! ### unlike starts, unlike turns -/
end L2

set_option Elab.async false
set_option linter.all false
set_option maxRecDepth 100000
set_option maxHeartbeats 1000000
namespace L2
open PySem PySem.Spec PyProof.Rows PySem.W TL
/-! ### min(xs, key=lambda y: ..): texts by whole numbers -/
/-- the first of the least ones -/
def Fst1 (g : Str → Int) (xs : List Str) (x : Str) : Prop := ∃ i : Nat, xs[i]? = some x ∧ ∀ (j : Nat) y, xs[j]? = some y → g x ≤ g y ∧ (j < i → g x < g y)
theorem Fst1.mem {g : Str → Int} {xs : List Str} {x : Str} (h : Fst1 g xs x) : x ∈ xs := by
  obtain ⟨i, h, _⟩ := h
  exact List.mem_of_getElem? h
section
variable {X : Cx} {pins : List (Addr × Obj)} {σ : St} {H : Hp} {E : Value → Shared → Prop}
end
section
variable {X : Cx}
end
end L2

set_option Elab.async false
set_option linter.all false
set_option maxRecDepth 100000
set_option maxHeartbeats 1000000
namespace L2
open PySem PySem.Spec PyProof.Rows TL
/-! ### comprehensions of two clauses, whatever they gather -/
structure Cmp2 (e t0 i0 : Expr) (ifs0 : List Expr) (t1 i1 : Expr) (ifs1 : List Expr) (emit : Value → Env → Sem Unit) : Prop where
  out : ∀ (it acc : Value) (env : Env), compTurn e 0 it acc env = (do
      standAt i0.pos
      match ← pyNext it with
      | none => pure (.done .next)
      | some v =>
        letOwnedTupleGo t0 it v; assign t0 env v
        let mut ok := true
        for c in ifs0 do
          if ok then ok ← isTrue c env (eval c env)
        if ok then
          let x ← eval i1 env
          standAt i1.pos
          let x ← foldedSetIterable i1 env x
          let _ ← runOwn (.compStart e 1 (← holding [x] (pyIter x)) acc env) env
        again (.compLoop e 0 it acc env))
  inn : ∀ (it acc : Value) (env : Env), compTurn e 1 it acc env = (do
      standAt i1.pos
      match ← pyNext it with
      | none => pure (.done .next)
      | some v =>
        letOwnedTupleGo t1 it v; assign t1 env v
        let mut ok := true
        for c in ifs1 do
          if ok then ok ← isTrue c env (eval c env)
        if ok then emit acc env
        again (.compLoop e 1 it acc env))
  cls : clausesOf e = [⟨t0, i0, ifs0, 0⟩, ⟨t1, i1, ifs1, 0⟩]
  un : ∀ (A : Around) (d : Nat) (it acc : Value) (env : Env), A.under (.compLoop e d it acc env) = A
  unS : ∀ (A : Around) (d : Nat) (it acc : Value) (env : Env), A.under (.compStart e d it acc env) = A
  den : ∀ (prog : Program) (w : World) (d : Nat) (it acc : Value) (env : Env), (model prog w).den (.compLoop e d it acc env) = (compTurn e d it acc env).onRaise (fun x => do noteFrame x env; theTreesLotGoes x)
  denS : ∀ (prog : Program) (w : World) (d : Nat) (it acc : Value) (env : Env), (model prog w).den (.compStart e d it acc env) = (compStart e d it acc env).onRaise (fun x => do noteFrame x env; standAt theWindowsPlace)
section
variable {prog : Program} {w : World} {A : Around} {R : Result → Shared → Prop} {s : Shared} {e t0 i0 t1 i1 : Expr} {ifs0 ifs1 : List Expr} {emit : Value → Env → Sem Unit} {it acc : Value} {env : Env}
end
section
variable {X : Cx}
/-! ### sets and dicts of two clauses -/
end
/-! ### walks, whatever a turn does -/
end L2

set_option Elab.async false
set_option linter.all false
set_option maxRecDepth 100000
set_option maxHeartbeats 1000000
namespace L2
open PySem PySem.Spec PyProof.Rows TL
/-! ### the places under a piece, pins that hit, trees -/
def Sts (x y : Str) (i : Nat) : Prop := i + y.length ≤ x.length ∧ sub (cs x) i y.length = cs y
def isP (x y : Str) : Prop := 1 ≤ y.length ∧ ∃ i, Sts x y i
def tou (x y : Str) (p : Int) : Prop := ∃ i t : Nat, Sts x y i ∧ t < y.length ∧ p = ((i + t : Nat) : Int)
open Classical in
noncomputable def tl (x y : Str) : List Int := (upInts 0 x.length).filter fun p => decide (tou x y p)
/-- pins that touch each of some pieces -/
def Hits (x : Str) (ms : List Str) (qs : List Int) : Prop := ∀ y ∈ ms, ∃ q ∈ qs, q ∈ tl x y
def NoHit (x : Str) (ms : List Str) (n : Nat) : Prop := ∀ qs : List Int, qs.length ≤ n → ¬ Hits x ms qs
noncomputable def stl (x : Str) (ms : List Str) (p : Int) : List Str := ms.filter fun z => decide (p ∉ tl x z)
theorem stl_mem {x : Str} {ms : List Str} {p : Int} {z : Str} : z ∈ stl x ms p ↔ z ∈ ms ∧ p ∉ tl x z := by
  unfold stl
  rw [List.mem_filter, decide_eq_true_iff]
theorem NoHit.ne {x : Str} {ms : List Str} {n : Nat} (h : NoHit x ms n) : ms ≠ [] := by
  rintro rfl
  exact h [] (Nat.zero_le _) fun y hy => by cases hy
theorem NoHit.next {x : Str} {ms : List Str} {n : Nat} (h : NoHit x ms (n + 1)) (p : Int) : NoHit x (stl x ms p) n := by
  intro qs hq hh
  refine h (p :: qs) (by rw [List.length_cons]; omega) fun y hy => ?_
  by_cases hp : p ∈ tl x y
  · exact ⟨p, List.mem_cons_self .., hp⟩
  · obtain ⟨q, h1, h2⟩ := hh y (stl_mem.mpr ⟨hy, hp⟩)
    exact ⟨q, List.mem_cons_of_mem _ h1, h2⟩
theorem NoHit.zero {x : Str} {ms : List Str} (h : ms ≠ []) : NoHit x ms 0 := by
  intro qs hq hh
  obtain ⟨y, hy⟩ := List.exists_mem_of_ne_nil ms h
  obtain ⟨q, h1, _⟩ := hh y hy
  have e : qs = [] := List.eq_nil_of_length_eq_zero (by omega)
  rw [e] at h1
  cases h1
theorem NoHit.of {x : Str} {ms : List Str} {n : Nat} {y : Str} (hy : y ∈ ms) (h : ∀ p ∈ tl x y, NoHit x (stl x ms p) n) : NoHit x ms (n + 1) := by
  intro qs hq hh
  obtain ⟨q, h1, h2⟩ := hh y hy
  refine h q h2 (qs.erase q) (by rw [List.length_erase_of_mem h1]; omega) fun z hz => ?_
  obtain ⟨hz1, hz2⟩ := stl_mem.mp hz
  obtain ⟨q', h3, h4⟩ := hh z hz1
  have : q' ≠ q := fun e => hz2 (e ▸ h4)
  exact ⟨q', (List.mem_erase_of_ne this).mpr h3, h4⟩
theorem NoHit.less {x : Str} {ms : List Str} {n m : Nat} (h : NoHit x ms n) (hm : m ≤ n) : NoHit x ms m := fun qs hq => h qs (Nat.le_trans hq hm)
/-- pins found for some pieces -/
structure Fnd (x : Str) (ms : List Str) (n : Nat) (ps : List Int) : Prop where
  hit : Hits x ms ps
  len : ps.length ≤ n
  nd : ps.Nodup
  own : ∀ p ∈ ps, ∃ y ∈ ms, p ∈ tl x y
theorem Fnd.nil {x : Str} {n : Nat} : Fnd x [] n [] := ⟨(fun y hy => by cases hy), Nat.zero_le _, List.nodup_nil, (fun p hp => by cases hp)⟩
theorem Fnd.cons {x : Str} {ms : List Str} {n : Nat} {ps : List Int} {p : Int} {y : Str} (hy : y ∈ ms) (hp : p ∈ tl x y) (h : Fnd x (stl x ms p) n ps) : Fnd x ms (n + 1) (p :: ps) := by
  refine ⟨fun z hz => ?_, by rw [List.length_cons]; have := h.len; omega, List.nodup_cons.mpr ⟨fun hm => ?_, h.nd⟩, fun q hq => ?_⟩
  · by_cases hq : p ∈ tl x z
    · exact ⟨p, List.mem_cons_self .., hq⟩
    · obtain ⟨q, h1, h2⟩ := h.hit z (stl_mem.mpr ⟨hz, hq⟩)
      exact ⟨q, List.mem_cons_of_mem _ h1, h2⟩
  · obtain ⟨z, h1, h2⟩ := h.own p hm
    exact (stl_mem.mp h1).2 h2
  · rcases List.mem_cons.mp hq with rfl | hq
    · exact ⟨y, hy, hp⟩
    · obtain ⟨z, h1, h2⟩ := h.own q hq
      exact ⟨z, (stl_mem.mp h1).1, h2⟩
/-! ### trees in the heap -/
def TreeOk (x : Str) (H : Hp) : Nat → List Int → V → Prop
  | 0, pins, v => ∃ (t l : Addr) (y : Str), v = .ref t ∧ H t = some (.tup [.str y, .ref l]) ∧ H l = some (.lst []) ∧ isP x y ∧ ∀ p ∈ pins, p ∉ tl x y
  | n + 1, pins, v => ∃ (t l : Addr) (y : Str) (bs : List V), v = .ref t ∧ H t = some (.tup [.str y, .ref l]) ∧ H l = some (.lst bs) ∧ isP x y ∧ (∀ p ∈ pins, p ∉ tl x y) ∧ bs.length = (tl x y).length ∧
      ∀ (i : Nat) b q, bs[i]? = some b → (tl x y)[i]? = some q → ∃ (a : Addr) (u : V), b = .ref a ∧ H a = some (.tup [.int q, u]) ∧ TreeOk x H n (pins ++ [q]) u
def KpS (H H' : Hp) : Prop := ∀ a o, H a = some o → (∃ us, o = .tup us ∨ o = .lst us) → H' a = some o
theorem TreeOk.keep {x : Str} {H H' : Hp} (k : KpS H H') : ∀ {n : Nat} {pins : List Int} {v : V}, TreeOk x H n pins v → TreeOk x H' n pins v
  | 0, pins, v, h => by
    obtain ⟨t, l, y, e, h1, h2, h3⟩ := h
    exact ⟨t, l, y, e, k _ _ h1 ⟨_, .inl rfl⟩, k _ _ h2 ⟨_, .inr rfl⟩, h3⟩
  | n + 1, pins, v, h => by
    obtain ⟨t, l, y, bs, e, h1, h2, h3, h4, h5, h6⟩ := h
    refine ⟨t, l, y, bs, e, k _ _ h1 ⟨_, .inl rfl⟩, k _ _ h2 ⟨_, .inr rfl⟩, h3, h4, h5, fun i b q hb hq => ?_⟩
    obtain ⟨a, u, e2, h7, h8⟩ := h6 i b q hb hq
    exact ⟨a, u, e2, k _ _ h7 ⟨_, .inl rfl⟩, h8.keep k⟩
/-- the dict of the places under each piece -/
structure Tch (x : Str) (H : Hp) (d : Addr) : Prop where
  ex : ∃ kvs : List (Key × V), H d = some (.dK kvs) ∧ kvs.length ≤ 1000 ∧ (∀ k, k ∈ kvs.map (·.1) → ∃ y, k = Sum.inr y ∧ isP x y) ∧ ∀ y : Str, isP x y → ∃ l : Addr, valV kvs (Sum.inr y) = some (.ref l) ∧ H l = some (.lst ((tl x y).map V.int))
theorem Tch.keep {x : Str} {H H' : Hp} {d : Addr} (h : Tch x H d) (k : ∀ a o, H a = some o → ((∃ kvs, o = .dK kvs) ∨ ∃ us, o = .tup us ∨ o = .lst us) → H' a = some o) : Tch x H' d := by
  obtain ⟨kvs, h1, h2, h3, h4⟩ := h.ex
  refine ⟨kvs, k _ _ h1 (.inl ⟨_, rfl⟩), h2, h3, fun y hy => ?_⟩
  obtain ⟨l, h5, h6⟩ := h4 y hy
  exact ⟨l, h5, k _ _ h6 (.inr ⟨_, .inr rfl⟩)⟩
theorem Tch.same {x : Str} {H H' : Hp} {d : Addr} (h : Tch x H d) (k : Same H H') : Tch x H' d := h.keep fun a o e _ => k a o e
theorem Tch.off {x : Str} {H H' : Hp} {d P : Addr} {o : Obj} (h : Tch x H d) (k : Off P H H') (hP : H P = some (objX P o)) : Tch x H' d := h.keep fun a o' e hs => k a o' e fun z => by
  rw [z, hP] at e
  cases e
  rcases hs with ⟨_, hs⟩ | ⟨us, hs | hs⟩ <;> cases hs
theorem Tch.at' {x : Str} {H : Hp} {d : Addr} {y : Str} (h : Tch x H d) (hy : isP x y) : ∃ l : Addr, DGet H d (.str y) (some (.ref l)) ∧ H l = some (.lst ((tl x y).map V.int)) := by
  obtain ⟨kvs, h1, h2, h3, h4⟩ := h.ex
  obtain ⟨l, h5, h6⟩ := h4 y hy
  refine ⟨l, ?_, h6⟩
  rw [← h5]
  exact DGet.k (k := Sum.inr y) h1
end L2

set_option Elab.async false
set_option linter.all false
set_option maxRecDepth 100000
set_option maxHeartbeats 1000000
namespace L2
open PySem PySem.Spec PyProof.Rows TL
/-- a tree in the heap, with the addresses of its lists of branches -/
def TreeL (x : Str) (H : Hp) : Nat → List Int → V → List Addr → Prop
  | 0, pins, v, ls => ∃ (t l : Addr) (y : Str), v = .ref t ∧ H t = some (.tup [.str y, .ref l]) ∧ H l = some (.lst []) ∧ isP x y ∧ (∀ p ∈ pins, p ∉ tl x y) ∧ ls = [l]
  | n + 1, pins, v, ls => ∃ (t l : Addr) (y : Str) (bs : List V) (lss : List (List Addr)), v = .ref t ∧ H t = some (.tup [.str y, .ref l]) ∧ H l = some (.lst bs) ∧ isP x y ∧ (∀ p ∈ pins, p ∉ tl x y) ∧ (tl x y).length + pins.length + (n + 1) ≤ x.length ∧
      bs.length = (tl x y).length ∧ lss.length = (tl x y).length ∧ ls = l :: lss.flatten ∧
      ∀ (i : Nat) b q m, bs[i]? = some b → (tl x y)[i]? = some q → lss[i]? = some m → ∃ (a : Addr) (u : V), b = .ref a ∧ H a = some (.tup [.int q, u]) ∧ TreeL x H n (pins ++ [q]) u m
theorem TreeL.ok {x : Str} {H : Hp} : ∀ {n : Nat} {pins : List Int} {v : V} {ls : List Addr}, TreeL x H n pins v ls → TreeOk x H n pins v
  | 0, _, _, _, h => by
    obtain ⟨t, l, y, e, h1, h2, h3, h4, _⟩ := h
    exact ⟨t, l, y, e, h1, h2, h3, h4⟩
  | n + 1, _, _, _, h => by
    obtain ⟨t, l, y, bs, lss, e, h1, h2, h3, h4, _, h5, h6, _, h8⟩ := h
    refine ⟨t, l, y, bs, e, h1, h2, h3, h4, h5, fun i b q hb hq => ?_⟩
    have hi := (List.getElem?_eq_some_iff.mp hq).1
    obtain ⟨a, u, e2, h9, h10⟩ := h8 i b q (lss[i]'(by omega)) hb hq (List.getElem?_eq_getElem (by omega))
    exact ⟨a, u, e2, h9, h10.ok⟩
theorem TreeL.keep2 {x : Str} {H H' : Hp} (k : ∀ a us, H a = some (.tup us) → H' a = some (.tup us)) : ∀ {n : Nat} {pins : List Int} {v : V} {ls : List Addr}, (∀ a ∈ ls, ∀ us, H a = some (.lst us) → H' a = some (.lst us)) → TreeL x H n pins v ls → TreeL x H' n pins v ls
  | 0, _, _, _, k2, h => by
    obtain ⟨t, l, y, e, h1, h2, h3, h4, h5⟩ := h
    exact ⟨t, l, y, e, k _ _ h1, k2 l (by rw [h5]; exact List.mem_singleton.mpr rfl) _ h2, h3, h4, h5⟩
  | n + 1, _, _, _, k2, h => by
    obtain ⟨t, l, y, bs, lss, e, h1, h2, h3, h4, hw, h5, h6, h7, h8⟩ := h
    refine ⟨t, l, y, bs, lss, e, k _ _ h1, k2 l (by rw [h7]; exact List.mem_cons_self ..) _ h2, h3, h4, hw, h5, h6, h7, fun i b q m hb hq hm => ?_⟩
    obtain ⟨a, u, e2, h9, h10⟩ := h8 i b q m hb hq hm
    exact ⟨a, u, e2, k _ _ h9, h10.keep2 k fun c hc => k2 c (by rw [h7]; exact List.mem_cons_of_mem _ (List.mem_flatten.mpr ⟨m, List.mem_of_getElem? hm, hc⟩))⟩
theorem TreeL.keep {x : Str} {H H' : Hp} (k : KpS H H') {n : Nat} {pins : List Int} {v : V} {ls : List Addr} (h : TreeL x H n pins v ls) : TreeL x H' n pins v ls :=
  h.keep2 (fun a us e => k a _ e ⟨_, .inl rfl⟩) fun a _ us e => k a _ e ⟨_, .inr rfl⟩
theorem TreeL.trk {x : Str} {H : Hp} : ∀ {n : Nat} {pins : List Int} {v : V} {ls : List Addr}, TreeL x H n pins v ls → ∀ a ∈ ls, ∃ us, H a = some (.lst us)
  | 0, _, _, _, h, a, ha => by
    obtain ⟨t, l, y, e, h1, h2, h3, h4, h5⟩ := h
    rw [h5, List.mem_singleton] at ha
    exact ⟨_, ha ▸ h2⟩
  | n + 1, _, _, _, h, a, ha => by
    obtain ⟨t, l, y, bs, lss, e, h1, h2, h3, h4, hw, h5, h6, h7, h8⟩ := h
    rw [h7] at ha
    rcases List.mem_cons.mp ha with rfl | ha
    · exact ⟨_, h2⟩
    · obtain ⟨m, hm, hc⟩ := List.mem_flatten.mp ha
      obtain ⟨i, hi⟩ := List.getElem?_of_mem hm
      have il := (List.getElem?_eq_some_iff.mp hi).1
      obtain ⟨_, _, _, _, h10⟩ := h8 i _ _ m (List.getElem?_eq_getElem (by omega)) (List.getElem?_eq_getElem (by omega)) hi
      exact h10.trk a hc
end L2

set_option Elab.async false
set_option linter.all false
set_option maxRecDepth 100000
set_option maxHeartbeats 1000000
namespace L2
open PySem PySem.Spec PyProof.Rows TL
end L2

set_option Elab.async false
set_option linter.all false
set_option maxRecDepth 100000
set_option maxHeartbeats 1000000
namespace L2
open PySem PySem.Spec PyProof.Rows PySem.W
/-- all but two addresses stay -/
def OffB (p P : Addr) (H H' : Hp) : Prop := ∀ b o, H b = some o → b ≠ p → b ≠ P → H' b = some o
theorem OffB.refl {p P : Addr} {H : Hp} : OffB p P H H := fun _ _ e _ _ => e
theorem OffB.trans {p P : Addr} {H H1 H2 : Hp} (a : OffB p P H H1) (b : OffB p P H1 H2) : OffB p P H H2 := fun c o e n m => b _ _ (a _ _ e n m) n m
theorem OffB.s {p P : Addr} {H H1 H2 : Hp} (a : OffB p P H H1) (b : Same H1 H2) : OffB p P H H2 := fun c o e n m => b _ _ (a _ _ e n m)
theorem OffB.l {p P : Addr} {H H1 H2 : Hp} (a : OffB p P H H1) (b : Off p H1 H2) : OffB p P H H2 := fun c o e n m => b _ _ (a _ _ e n m) n
theorem OffB.r {p P : Addr} {H H1 H2 : Hp} (a : OffB p P H H1) (b : Off P H1 H2) : OffB p P H H2 := fun c o e n m => b _ _ (a _ _ e n m) m
theorem OffB.new {p P r : Addr} {H H1 H2 : Hp} (o1 : OffB p P H H1) (hr : H r = none) (o2 : Off r H1 H2) : OffB p P H H2 := fun b ob e n m => o2 _ _ (o1 _ _ e n m) (ne_of_none e hr)
end L2

set_option Elab.async false
set_option linter.all false
set_option maxRecDepth 100000
set_option maxHeartbeats 1000000
namespace L2
open PySem PySem.Spec PyProof.Rows
end L2

set_option Elab.async false
set_option linter.all false
set_option maxRecDepth 100000
set_option maxHeartbeats 1000000
namespace L2
open PySem PySem.Spec PyProof.Rows
/-! ### turned back: of the stable order of the last signs -/
/-- the place ahead, turned round -/
def prv (n p : Nat) : Nat := if p = 0 then n - 1 else p - 1
theorem prv_lt {n p : Nat} (h : p < n) : prv n p < n := by unfold prv; split <;> omega
theorem rotL_prv {w : List Nat} {p : Nat} (h : p < w.length) : rotL w (prv w.length p) = lstN w p :: (rotL w p).dropLast := by
  unfold prv
  by_cases h0 : p = 0
  · subst h0
    rw [if_pos rfl]
    unfold rotL lstN
    rw [if_pos rfl, List.drop_zero, List.take_zero, List.append_nil, List.dropLast_eq_take, List.drop_eq_getElem_cons (by omega), List.drop_of_length_le (by omega), List.getLastD_eq_getLast?, List.getLast?_eq_getElem?, List.getElem?_eq_getElem (by omega)]
    rfl
  · rw [if_neg h0]
    obtain ⟨q, rfl⟩ : ∃ q, p = q + 1 := ⟨p - 1, by omega⟩
    unfold rotL lstN
    rw [if_neg h0, Nat.add_sub_cancel, List.take_succ, List.getElem?_eq_getElem (show q < w.length by omega)]
    rw [List.drop_eq_getElem_cons (show q < w.length by omega), List.getD_eq_getElem?_getD, List.getElem?_eq_getElem (show q < w.length by omega)]
    show _ = w[q] :: (List.drop (q + 1) w ++ (List.take q w ++ [w[q]])).dropLast
    rw [← List.append_assoc, List.dropLast_concat]
    rfl
theorem lt_appL : ∀ {u v s t : List Nat}, u < v → u.length = v.length → u ++ s < v ++ t
  | [], [], _, _, h, _ => absurd h (List.lt_irrefl _)
  | [], _ :: _, _, _, _, e => by simp at e
  | _ :: _, [], _, _, _, e => by simp at e
  | a :: u, b :: v, s, t, h, e => by
    rw [List.cons_append, List.cons_append]
    rcases List.cons_lt_cons_iff.mp h with h1 | ⟨h1, h2⟩
    · exact List.Lex.rel h1
    · rw [h1]
      exact List.Lex.cons (lt_appL h2 (by simpa using e))
theorem le_dropLast {a b : List Nat} (h : ¬ b < a) (e : a.length = b.length) : ¬ b.dropLast < a.dropLast := by
  intro z
  by_cases h0 : a = []
  · subst h0
    have q : b = [] := List.eq_nil_of_length_eq_zero (by simpa using e.symm)
    rw [q] at z
    exact List.lt_irrefl _ z
  have h1 : b ≠ [] := fun q => h0 (List.eq_nil_of_length_eq_zero (by rw [e, q]; rfl))
  refine h ?_
  rw [← List.dropLast_concat_getLast h1, ← List.dropLast_concat_getLast h0]
  exact lt_appL z (by rw [List.length_dropLast, List.length_dropLast, e])
theorem range_prv : ∀ n, ((List.range n).map (prv n)).Perm (List.range n)
  | 0 => .nil
  | k + 1 => by
    rw [show (List.range (k + 1)).map (prv (k + 1)) = k :: List.range k by
      rw [List.range_succ_eq_map, List.map_cons, List.map_map]
      show k :: _ = _
      refine congrArg (List.cons k) ?_
      refine (List.map_congr_left fun i _ => ?_).trans (List.map_id _)
      rfl]
    rw [List.range_succ]
    exact (List.perm_append_comm (l₁ := [k]) (l₂ := List.range k))
theorem rotL_inj {x : Str} (h : 46 ∉ cs x) {a b : Nat} (ha : a < x.length + 1) (hb : b < x.length + 1) (e : rotL (wh x) a = rotL (wh x) b) : a = b := by
  have key : ∀ c, c < x.length + 1 → (rotL (wh x) c).idxOf 46 = x.length - c := fun c hc => by
    unfold rotL wh
    rw [List.drop_append_of_le_length (by rw [cs_len]; omega), List.append_assoc, List.idxOf_append, if_neg (fun z => h (List.mem_of_mem_drop z)), List.length_drop, cs_len]
    show List.idxOf 46 (46 :: _) + _ = _
    rw [List.idxOf_cons_self, Nat.zero_add]
  have h1 := key a ha
  have h2 := key b hb
  rw [e, h2] at h1
  omega
/-- the row that stands at a place's turn -/
def Yat (ys : List Int) (r : Nat) : Nat := (ys.getD r 0).toNat
theorem map_toNat_up {n : Nat} : (upInts 0 n).map Int.toNat = List.range n := by
  unfold upInts
  rw [List.map_map]
  refine (List.map_congr_left fun i _ => ?_).trans (List.map_id _)
  show ((0 : Int) + (i : Int)).toNat = i
  omega
theorem upInts_Yat {ys : List Int} : (upInts 0 ys.length).map (fun m => Yat ys m.toNat) = ys.map Int.toNat := by
  unfold upInts
  rw [List.map_map]
  refine List.ext_getElem? fun i => ?_
  rw [List.getElem?_map, List.getElem?_map]
  rcases Nat.lt_or_ge i ys.length with h | h
  · rw [List.getElem?_range h, List.getElem?_eq_getElem h]
    show some (Yat ys ((0 : Int) + (i : Int)).toNat) = _
    rw [show ((0 : Int) + (i : Int)).toNat = i by omega]
    unfold Yat
    rw [List.getD_eq_getElem?_getD, List.getElem?_eq_getElem h]
    rfl
  · rw [List.getElem?_eq_none (by rw [List.length_range]; exact h), List.getElem?_eq_none h]
    rfl
/-- of the stable order of the last signs, the row of a turn's follower is found -/
theorem Tnd.later {x y : Str} {ys later : List Int} {g : Int → Str} (t : Tnd x ys y) (hx : 46 ∉ cs x) (hl : ByKey g (upInts 0 (x.length + 1)) later) (hg : ∀ n : Int, 0 ≤ n → n < x.length + 1 → cs (g n) = [(cs y).getD n.toNat 0]) : ∀ r, r < x.length + 1 → Yat ys r = prv (x.length + 1) (Yat ys (Yat later r)) := by
  have hyl := t.by_.len
  have hll := hl.len
  have hyn : ∀ k, k < x.length + 1 → Yat ys k < x.length + 1 := fun k hk => by
    have := t.by_.in_ (n := ys.getD k 0) (by rw [List.getD_eq_getElem?_getD, List.getElem?_eq_getElem (by omega)]; exact List.getElem_mem _)
    unfold Yat
    omega
  have hy : ∀ k, k < x.length + 1 → (cs y).getD k 0 = lstN (wh x) (Yat ys k) := fun k hk => by
    rw [t.cs_, List.getD_eq_getElem?_getD, List.getElem?_map, List.getElem?_eq_getElem (by omega)]
    unfold Yat
    rw [List.getD_eq_getElem?_getD, List.getElem?_eq_getElem (by omega)]
    rfl
  have p1 : (later.map fun m => prv (x.length + 1) (Yat ys m.toNat)).Perm (ys.map Int.toNat) := by
    have q1 := hl.perm.map fun m => prv (x.length + 1) (Yat ys m.toNat)
    have q2 : (upInts 0 (x.length + 1)).map (fun m => prv (x.length + 1) (Yat ys m.toNat)) = (ys.map Int.toNat).map (prv (x.length + 1)) := by
      rw [← upInts_Yat, hyl, List.map_map]
      rfl
    have q3 : (ys.map Int.toNat).Perm (List.range (x.length + 1)) := by
      rw [← map_toNat_up]
      exact t.by_.perm.map _
    rw [q2] at q1
    exact q1.trans ((q3.map _).trans ((range_prv _).trans q3.symm))
  have p2 : (later.map fun m => rotL (wh x) (prv (x.length + 1) (Yat ys m.toNat))).Perm (ys.map fun n => rotL (wh x) n.toNat) := by
    have := p1.map (rotL (wh x))
    rwa [List.map_map, List.map_map] at this
  have s2 : (later.map fun m => rotL (wh x) (prv (x.length + 1) (Yat ys m.toNat))).Pairwise fun a b => ¬ b < a := by
    rw [List.pairwise_map]
    refine (hl.sor.and (hl.stb _ rfl)).imp_of_mem fun {m n} hm hn q => ?_
    obtain ⟨q1, q2⟩ := q
    have bm := hl.in_ hm
    have bn := hl.in_ hn
    unfold sLe at q1
    rw [hg m bm.1 bm.2, hg n bn.1 bn.2] at q1 q2
    rw [hy m.toNat (by omega), hy n.toNat (by omega)] at q1 q2
    have e1 := rotL_prv (w := wh x) (p := Yat ys m.toNat) (by rw [wh_len]; exact hyn _ (by omega))
    have e2 := rotL_prv (w := wh x) (p := Yat ys n.toNat) (by rw [wh_len]; exact hyn _ (by omega))
    rw [wh_len] at e1 e2
    rw [e1, e2]
    intro z
    rcases List.cons_lt_cons_iff.mp z with z | ⟨z1, z2⟩
    · exact q1 (List.Lex.rel z)
    · have hmn := q2 (by rw [z1])
      rcases Int.lt_or_eq_of_le hmn with h | h
      · have hs : ¬ rotL (wh x) (Yat ys n.toNat) < rotL (wh x) (Yat ys m.toNat) := by
          have := List.pairwise_iff_getElem.mp t.by_.sor m.toNat n.toNat (by omega) (by omega) (by omega)
          unfold sLe at this
          rw [cs_rotS, cs_rotS] at this
          unfold Yat
          rw [List.getD_eq_getElem?_getD, List.getD_eq_getElem?_getD, List.getElem?_eq_getElem (by omega), List.getElem?_eq_getElem (by omega)]
          exact this
        exact le_dropLast hs (by rw [rotL_len, rotL_len]) z2
      · rw [h] at z2
        exact List.lt_irrefl _ z2
  have eq := sorted_uniq p2 s2 t.by_.turns.1
  intro r hr
  have er := congrArg (fun l : List (List Nat) => l[r]?) eq
  rw [List.getElem?_map, List.getElem?_map, List.getElem?_eq_getElem (by omega), List.getElem?_eq_getElem (by omega)] at er
  have er := Option.some.inj er
  have hb := hl.in_ (n := later[r]) (List.getElem_mem _)
  have e3 := rotL_inj hx (prv_lt (hyn _ (by omega))) (by have := t.by_.in_ (n := ys[r]) (List.getElem_mem _); omega) er
  unfold Yat at e3 ⊢
  rw [List.getD_eq_getElem?_getD (l := ys) (i := r), List.getD_eq_getElem?_getD (l := later) (i := r), List.getElem?_eq_getElem (by omega), List.getElem?_eq_getElem (by omega)]
  exact e3.symm
theorem Tnd.yat_lt {x y : Str} {ys : List Int} (t : Tnd x ys y) {k : Nat} (hk : k < x.length + 1) : Yat ys k < x.length + 1 := by
  have hyl := t.by_.len
  have := t.by_.in_ (n := ys.getD k 0) (by rw [List.getD_eq_getElem?_getD, List.getElem?_eq_getElem (by omega)]; exact List.getElem_mem _)
  unfold Yat
  omega
theorem ByKey.yat_lt {g : Int → Str} {N : Nat} {later : List Int} (h : ByKey g (upInts 0 N) later) {k : Nat} (hk : k < N) : Yat later k < N := by
  have hll := h.len
  have := h.in_ (n := later.getD k 0) (by rw [List.getD_eq_getElem?_getD, List.getElem?_eq_getElem (by omega)]; exact List.getElem_mem _)
  unfold Yat
  omega
theorem Tnd.sign {x y : Str} {ys : List Int} (t : Tnd x ys y) {k : Nat} (hk : k < x.length + 1) : (cs y)[k]? = some (lstN (wh x) (Yat ys k)) := by
  have hyl := t.by_.len
  rw [t.cs_, List.getElem?_map, List.getElem?_eq_getElem (by omega)]
  unfold Yat
  rw [List.getD_eq_getElem?_getD, List.getElem?_eq_getElem (by omega)]
  rfl
theorem lstN_zero {x : Str} : lstN (wh x) 0 = 46 := by
  unfold lstN wh
  rw [if_pos rfl, List.getLastD_eq_getLast?, List.getLast?_concat]
  rfl
theorem lstN_succ {x : Str} {k : Nat} (h : k < x.length) : (cs x)[k]? = some (lstN (wh x) (k + 1)) := by
  unfold lstN wh
  rw [if_neg (by omega), Nat.add_sub_cancel, List.getD_eq_getElem?_getD, List.getElem?_append_left (by rw [cs_len]; exact h), List.getElem?_eq_getElem (by rw [cs_len]; exact h)]
  rfl
theorem lstN_pt {x : Str} (hx : 46 ∉ cs x) {k : Nat} (hk : k < x.length + 1) (e : lstN (wh x) k = 46) : k = 0 := by
  rcases Nat.eq_zero_or_pos k with h | h
  · exact h
  · obtain ⟨j, rfl⟩ : ∃ j, k = j + 1 := ⟨k - 1, by omega⟩
    have := lstN_succ (x := x) (k := j) (by omega)
    rw [e] at this
    exact absurd (List.mem_of_getElem? this) hx
/-- a step of the walk: the turn that begins a sign later -/
theorem Tnd.step {x y : Str} {ys later : List Int} {g : Int → Str} (t : Tnd x ys y) (hx : 46 ∉ cs x) (hl : ByKey g (upInts 0 (x.length + 1)) later) (hg : ∀ n : Int, 0 ≤ n → n < x.length + 1 → cs (g n) = [(cs y).getD n.toNat 0]) {r : Nat} (hr : r < x.length + 1) : Yat ys (Yat later r) = if Yat ys r = x.length then 0 else Yat ys r + 1 := by
  have h1 := t.later hx hl hg r hr
  have h2 := t.yat_lt (hl.yat_lt hr)
  rw [h1]
  unfold prv
  generalize Yat ys (Yat later r) = q at h2
  by_cases h0 : q = 0
  · rw [if_pos h0, if_pos (by omega), h0]
  · rw [if_neg h0, if_neg (by omega)]
    omega
/-- where the walk stands: k signs are out -/
structure Wlk (x : Str) (ys : List Int) (row k : Nat) : Prop where
  lt : row < x.length + 1
  le : k ≤ x.length
  at_ : Yat ys row = if k = x.length then 0 else k + 1
theorem Wlk.start {x y : Str} {ys later : List Int} {g : Int → Str} (t : Tnd x ys y) (hx : 46 ∉ cs x) (hl : ByKey g (upInts 0 (x.length + 1)) later) (hg : ∀ n : Int, 0 ≤ n → n < x.length + 1 → cs (g n) = [(cs y).getD n.toNat 0]) {r : Nat} (hr : r < x.length + 1) (hp : (cs y)[r]? = some 46) : Wlk x ys (Yat later r) 0 := by
  rw [t.sign hr] at hp
  have e := lstN_pt hx (t.yat_lt hr) (Option.some.inj hp)
  refine ⟨hl.yat_lt hr, Nat.zero_le _, ?_⟩
  rw [t.step hx hl hg hr, e]
theorem Wlk.go {x y : Str} {ys later : List Int} {g : Int → Str} {r k : Nat} (t : Tnd x ys y) (hx : 46 ∉ cs x) (hl : ByKey g (upInts 0 (x.length + 1)) later) (hg : ∀ n : Int, 0 ≤ n → n < x.length + 1 → cs (g n) = [(cs y).getD n.toNat 0]) (h : Wlk x ys r k) (hp : (cs y)[r]? ≠ some 46) : k < x.length ∧ (cs y)[r]? = (cs x)[k]? ∧ Wlk x ys (Yat later r) (k + 1) := by
  have ha := h.at_
  have hk : k ≠ x.length := fun e => by
    rw [if_pos e] at ha
    rw [t.sign h.lt, ha, lstN_zero] at hp
    exact hp rfl
  rw [if_neg hk] at ha
  have hkl : k < x.length := by have := h.le; omega
  refine ⟨hkl, ?_, hl.yat_lt h.lt, hkl, ?_⟩
  · rw [t.sign h.lt, ha, lstN_succ hkl]
  · rw [t.step hx hl hg h.lt, ha]
theorem Wlk.stop {x y : Str} {ys : List Int} {r k : Nat} (t : Tnd x ys y) (hx : 46 ∉ cs x) (h : Wlk x ys r k) (hp : (cs y)[r]? = some 46) : k = x.length := by
  rw [t.sign h.lt] at hp
  have e := lstN_pt hx (t.yat_lt h.lt) (Option.some.inj hp)
  have ha := h.at_
  rw [e] at ha
  by_cases hk : k = x.length
  · exact hk
  · rw [if_neg hk] at ha
    omega
end L2

set_option Elab.async false
set_option linter.all false
set_option maxRecDepth 100000
set_option maxHeartbeats 1000000
namespace L2
open PySem PySem.Spec PyProof.Rows TL
/-- a turned text has the signs of the text and a point -/
theorem Tnd.perm {x y : Str} {ys : List Int} (t : Tnd x ys y) : (cs y).Perm (wh x) := by
  have e : (List.range (x.length + 1)).map (lstN (wh x)) = 46 :: cs x := by
    rw [List.range_succ_eq_map, List.map_cons, List.map_map, lstN_zero]
    refine congrArg (List.cons 46) ?_
    refine List.ext_getElem? fun i => ?_
    rw [List.getElem?_map]
    rcases Nat.lt_or_ge i x.length with h | h
    · rw [List.getElem?_range h, lstN_succ h]
      rfl
    · rw [List.getElem?_eq_none (by rw [List.length_range]; exact h), List.getElem?_eq_none (by rw [cs_len]; exact h)]
      rfl
  have p := (t.by_.perm.map Int.toNat).map (lstN (wh x))
  rw [map_toNat_up, e, List.map_map] at p
  rw [t.cs_]
  refine List.Perm.trans p ?_
  unfold wh
  exact (List.perm_append_comm (l₁ := [46]) (l₂ := cs x))
theorem Tnd.count {x y : Str} {ys : List Int} (t : Tnd x ys y) (hx : 46 ∉ cs x) : (cs y).count 46 = 1 := by
  rw [t.perm.count_eq]
  unfold wh
  rw [List.count_append, List.count_eq_zero_of_not_mem hx]
  rfl
end L2

set_option Elab.async false
set_option linter.all false
set_option maxRecDepth 100000
set_option maxHeartbeats 1000000
namespace L2
open PySem PySem.Spec PyProof.Rows
/-! ### turned texts of a text with a letter more ahead -/
/-- texts up to the first point tell their order -/
theorem lt_pt : ∀ {a b s t s' t' : List Nat}, 46 ∉ a → 46 ∉ b → a ≠ b → a ++ 46 :: s < b ++ 46 :: t → a ++ 46 :: s' < b ++ 46 :: t'
  | [], [], _, _, _, _, _, _, h, _ => absurd rfl h
  | [], d :: b, s, t, s', t', _, hb, _, h => by
    rcases List.cons_lt_cons_iff.mp (show 46 :: s < d :: (b ++ 46 :: t) from h) with h1 | ⟨h1, _⟩
    · exact List.Lex.rel h1
    · exact absurd (h1 ▸ List.mem_cons_self) hb
  | d :: a, [], s, t, s', t', ha, _, _, h => by
    rcases List.cons_lt_cons_iff.mp (show d :: (a ++ 46 :: s) < 46 :: t from h) with h1 | ⟨h1, _⟩
    · exact List.Lex.rel h1
    · exact absurd (h1 ▸ List.mem_cons_self) ha
  | d :: a, e :: b, s, t, s', t', ha, hb, hn, h => by
    rcases List.cons_lt_cons_iff.mp (show d :: (a ++ 46 :: s) < e :: (b ++ 46 :: t) from h) with h1 | ⟨h1, h2⟩
    · exact List.Lex.rel h1
    · subst h1
      exact List.Lex.cons (lt_pt (fun z => ha (List.mem_cons_of_mem _ z)) (fun z => hb (List.mem_cons_of_mem _ z)) (fun z => hn (by rw [z])) h2)
theorem rotL_wh {x : Str} {p : Nat} (h : p ≤ x.length) : rotL (wh x) p = (cs x).drop p ++ 46 :: (cs x).take p := by
  unfold rotL wh
  rw [List.drop_append_of_le_length (by rw [cs_len]; exact h), List.take_append_of_le_length (by rw [cs_len]; exact h), List.append_assoc]
  rfl
/-- a letter more ahead: the turns of the others keep their order -/
theorem rot_ahead {x x' : Str} {c : Nat} (h : cs x' = c :: cs x) (hx : 46 ∉ cs x) {p q : Nat} (hp : p ≤ x.length) (hq : q ≤ x.length) (e : rotL (wh x) p < rotL (wh x) q) : rotL (wh x') (p + 1) < rotL (wh x') (q + 1) := by
  have hl : x'.length = x.length + 1 := by rw [← cs_len, h, List.length_cons, cs_len]
  rw [rotL_wh hp, rotL_wh hq] at e
  rw [rotL_wh (by omega), rotL_wh (by omega), h]
  show (cs x).drop p ++ 46 :: (c :: (cs x).take p) < (cs x).drop q ++ 46 :: (c :: (cs x).take q)
  by_cases hn : (cs x).drop p = (cs x).drop q
  · have hl := congrArg List.length hn
    rw [List.length_drop, List.length_drop, cs_len] at hl
    have : p = q := by omega
    subst this
    exact absurd e (List.lt_irrefl _)
  · exact lt_pt (fun z => hx (List.mem_of_mem_drop z)) (fun z => hx (List.mem_of_mem_drop z)) hn e
theorem lstN_ahead {x x' : Str} {c : Nat} (h : cs x' = c :: cs x) (hx : 46 ∉ cs x) {p : Nat} (hp : p ≤ x.length) : lstN (wh x') (p + 1) = if lstN (wh x) p = 46 then c else lstN (wh x) p := by
  have hl : x'.length = x.length + 1 := by rw [← cs_len, h, List.length_cons, cs_len]
  have h1 := lstN_succ (x := x') (k := p) (by omega)
  rw [h] at h1
  cases p with
  | zero =>
    rw [lstN_zero, if_pos rfl]
    exact (Option.some.inj h1).symm
  | succ p =>
    have h2 := lstN_succ (x := x) (k := p) (by omega)
    rw [List.getElem?_cons_succ, h2] at h1
    have h3 := Option.some.inj h1
    rw [if_neg (fun z => ?_), h3]
    have := lstN_pt hx (k := p + 1) (by omega) z
    omega
theorem up_ahead {N : Nat} : ((upInts 0 (N + 1)).filter fun z => decide (z ≠ 0)).map (fun z => z.toNat - 1) = List.range N := by
  unfold upInts
  rw [List.range_succ_eq_map, List.map_cons, List.filter_cons_of_neg (by simp), List.map_map, List.filter_eq_self.mpr (fun z hz => ?_), List.map_map]
  · refine (List.map_congr_left fun i _ => ?_).trans (List.map_id _)
    show ((0 : Int) + ((i + 1 : Nat) : Int)).toNat - 1 = i
    omega
  · obtain ⟨i, _, rfl⟩ := List.mem_map.mp hz
    show decide ((0 : Int) + ((i + 1 : Nat) : Int) ≠ 0) = true
    exact decide_eq_true (by omega)
/-- a letter more ahead: the letter stands where the point stood, and a point is put in -/
theorem Tnd.ahead {x x' y y' : Str} {ys zs : List Int} {c : Nat} (h : cs x' = c :: cs x) (hx : 46 ∉ cs x) (hc : c ≠ 46) (t : Tnd x ys y) (t' : Tnd x' zs y') : ((cs y').filter fun d => decide (d ≠ 46)) = (cs y).map fun d => if d = 46 then c else d := by
  have hl : x'.length = x.length + 1 := by rw [← cs_len, h, List.length_cons, cs_len]
  have hx' : 46 ∉ cs x' := by
    rw [h]
    intro z
    rcases List.mem_cons.mp z with z | z
    · exact hc z.symm
    · exact hx z
  have bz : ∀ z ∈ zs, 0 ≤ z ∧ z < (x.length : Int) + 2 := fun z hz => by
    have := t'.by_.in_ hz
    rw [hl] at this
    omega
  have p1 : ((zs.filter fun z => decide (z ≠ 0)).map fun z => z.toNat - 1).Perm (List.range (x.length + 1)) := by
    have := (t'.by_.perm.filter fun z => decide (z ≠ 0)).map fun z : Int => z.toNat - 1
    rwa [hl, up_ahead] at this
  have p2 : ((zs.filter fun z => decide (z ≠ 0)).map fun z => rotL (wh x) (z.toNat - 1)).Perm (ys.map fun n => rotL (wh x) n.toNat) := by
    have := p1.map (rotL (wh x))
    rw [List.map_map] at this
    exact this.trans t.by_.turns.2.symm
  have s2 : ((zs.filter fun z => decide (z ≠ 0)).map fun z => rotL (wh x) (z.toNat - 1)).Pairwise fun a b => ¬ b < a := by
    rw [List.pairwise_map]
    refine (t'.by_.sor.filter _).imp_of_mem fun {m n} hm hn q z => q ?_
    obtain ⟨m1, m2⟩ := List.mem_filter.mp hm
    obtain ⟨n1, n2⟩ := List.mem_filter.mp hn
    have m2 := of_decide_eq_true m2
    have n2 := of_decide_eq_true n2
    have bm := bz m m1
    have bn := bz n n1
    have := rot_ahead h hx (by omega) (by omega) z
    rw [show n.toNat - 1 + 1 = n.toNat by omega, show m.toNat - 1 + 1 = m.toNat by omega] at this
    rw [cs_rotS, cs_rotS]
    exact this
  have eq := congrArg (List.map fun l : List Nat => if l.getLastD 0 = 46 then c else l.getLastD 0) (sorted_uniq p2 s2 t.by_.turns.1)
  rw [List.map_map, List.map_map] at eq
  have e1 : ((cs y').filter fun d => decide (d ≠ 46)) = (zs.filter fun z => decide (z ≠ 0)).map fun z => lstN (wh x') z.toNat := by
    rw [t'.cs_, List.filter_map]
    refine congrArg _ (List.filter_congr fun z hz => ?_)
    have b := t'.by_.in_ hz
    show decide (lstN (wh x') z.toNat ≠ 46) = decide (z ≠ 0)
    rw [decide_eq_decide]
    constructor
    · intro q r
      rw [r] at q
      exact q lstN_zero
    · intro q r
      have := lstN_pt hx' (by omega) r
      omega
  have e2 : ∀ p, p ≤ x.length → (rotL (wh x) p).getLastD 0 = lstN (wh x) p := fun p hp => by
    rw [List.getLastD_eq_getLast?, rot_last (by rw [wh_len]; omega)]
    rfl
  rw [e1, t.cs_, List.map_map]
  refine Eq.trans ?_ (eq.trans ?_)
  · refine List.map_congr_left fun z hz => ?_
    obtain ⟨m1, m2⟩ := List.mem_filter.mp hz
    have m2 := of_decide_eq_true m2
    have b := bz z m1
    have := lstN_ahead h hx (p := z.toNat - 1) (by omega)
    rw [show z.toNat - 1 + 1 = z.toNat by omega] at this
    show lstN (wh x') z.toNat = if (rotL (wh x) (z.toNat - 1)).getLastD 0 = 46 then c else (rotL (wh x) (z.toNat - 1)).getLastD 0
    rw [e2 _ (by omega), this]
  · refine List.map_congr_left fun n hn => ?_
    have b := t.by_.in_ hn
    show (if (rotL (wh x) n.toNat).getLastD 0 = 46 then c else (rotL (wh x) n.toNat).getLastD 0) = if lstN (wh x) n.toNat = 46 then c else lstN (wh x) n.toNat
    rw [e2 _ (by omega)]
end L2

set_option Elab.async false
set_option linter.all false
set_option maxRecDepth 100000
set_option maxHeartbeats 1000000
namespace L2
open PySem PySem.Spec PyProof.Rows
/-! ### turned texts by other letters in the same order -/
end L2

set_option Elab.async false
set_option linter.all false
set_option maxRecDepth 100000
set_option maxHeartbeats 4000000
namespace L2
open PySem PySem.Spec PyProof.Rows TL HT
/-! ### the frame's own names are kept: for text.replace, which asks for the numbers of texts -/
def Kp (X : Cx) (s s' : Shared) : Prop := ∀ m, s.heap.Ns X.env.locals m → s'.heap.Ns X.env.locals m
theorem Kp.refl {X : Cx} {s : Shared} : Kp X s s := fun _ h => h
theorem Kp.trans {X : Cx} {s1 s2 s3 : Shared} (a : Kp X s1 s2) (b : Kp X s2 s3) : Kp X s1 s3 := fun m h => b m (a m h)
section
variable {X : Cx}
end
end L2

set_option Elab.async false
set_option linter.all false
set_option maxRecDepth 100000
set_option maxHeartbeats 4000000
namespace L2
open PySem PySem.Spec PyProof.Rows TL HT
/-! ### words: texts split and joined at one sign -/
/-- the pieces between signs c -/
def splL (c : Nat) : List Nat → List (List Nat)
  | [] => [[]]
  | a :: l => if a = c then [] :: splL c l else match splL c l with
    | [] => [[a]]
    | w :: ws => (a :: w) :: ws
theorem splL_ne (c : Nat) : ∀ l, splL c l ≠ []
  | [] => by simp [splL]
  | a :: l => by
    unfold splL
    split
    · simp
    · cases splL c l <;> simp
/-- the pieces put together -/
def jnL (c : Nat) (ws : List (List Nat)) : List Nat := joinL [c] ws
theorem jnL_cons {c : Nat} {w : List Nat} {ws : List (List Nat)} (h : ws ≠ []) : jnL c (w :: ws) = w ++ c :: jnL c ws := by
  cases ws with
  | nil => exact absurd rfl h
  | cons v r => rfl
theorem jnL_one {c : Nat} {w : List Nat} : jnL c [w] = w := rfl
theorem splL_app {c : Nat} : ∀ {w : List Nat}, c ∉ w → ∀ l, splL c (w ++ c :: l) = w :: splL c l
  | [], _, l => by simp [splL]
  | a :: w, h, l => by
    have ha : a ≠ c := fun e => h (by simp [e])
    have ih := splL_app (c := c) (w := w) (fun q => h (List.mem_cons_of_mem _ q)) l
    show (if a = c then [] :: splL c (w ++ c :: l) else match splL c (w ++ c :: l) with | [] => [[a]] | w :: ws => (a :: w) :: ws) = _
    rw [if_neg ha, ih]
theorem splL_free {c : Nat} : ∀ {w : List Nat}, c ∉ w → splL c w = [w]
  | [], _ => rfl
  | a :: w, h => by
    have ha : a ≠ c := fun e => h (by simp [e])
    have ih := splL_free (c := c) (w := w) (fun q => h (List.mem_cons_of_mem _ q))
    show (if a = c then [] :: splL c w else match splL c w with | [] => [[a]] | w :: ws => (a :: w) :: ws) = _
    rw [if_neg ha, ih]
/-- what is put together comes apart again -/
theorem splL_jnL {c : Nat} : ∀ {ws : List (List Nat)}, ws ≠ [] → (∀ w ∈ ws, c ∉ w) → splL c (jnL c ws) = ws
  | [], h, _ => absurd rfl h
  | [w], _, h => splL_free (h w (by simp))
  | w :: v :: r, _, h => by
    rw [jnL_cons (by simp), splL_app (h w (by simp)), splL_jnL (by simp) fun x hx => h x (List.mem_cons_of_mem _ hx)]
theorem cs_joinC (c : Nat) (ys : List Str) : cs (Txt.join ⟨#[c]⟩ ys) = jnL c (ys.map cs) := by
  have h : TL.tl (Txt.join ⟨#[c]⟩ ys) = TL.joinL (TL.tl ⟨#[c]⟩) (ys.map TL.tl) := by rw [join_eq, TL.tl_join]
  exact h
theorem join_split (x y : Str) : Txt.join y (Txt.split x y) = x := by
  rw [join_eq]
  exact PySem.StrLaws.join_split x y
theorem split_ne (x y : Str) : Txt.split x y ≠ [] := by
  unfold Txt.split
  split
  · simp
  · split
    · simp
    · intro e
      have := congrArg List.length e
      rw [length_partsBetween] at this
      simp at this
/-- split of a text, sign by sign -/
theorem split_cs (x : Str) (c : Nat) : (Txt.split x ⟨#[c]⟩).map cs = splL c (cs x) := by
  have h1 := cs_joinC c (Txt.split x ⟨#[c]⟩)
  rw [join_split] at h1
  rw [h1]
  refine (splL_jnL (by simpa using split_ne x _) fun w hw => ?_).symm
  obtain ⟨p, hp, rfl⟩ := List.mem_map.mp hw
  exact PySem.StrLaws.split_free x c p hp
theorem map_cs_inj : ∀ {xs ys : List Str}, xs.map cs = ys.map cs → xs = ys
  | [], [], _ => rfl
  | [], _ :: _, h => by simp at h
  | _ :: _, [], h => by simp at h
  | x :: xs, y :: ys, h => by
    simp only [List.map_cons, List.cons.injEq] at h
    rw [cs_inj h.1, map_cs_inj h.2]
/-- a text put together of words without the sign is split into them -/
theorem split_join {c : Nat} {ys : List Str} (hy : ys ≠ []) (h : ∀ y ∈ ys, c ∉ cs y) : Txt.split (Txt.join ⟨#[c]⟩ ys) ⟨#[c]⟩ = ys := by
  refine map_cs_inj ?_
  rw [split_cs, cs_joinC, splL_jnL (by simpa using hy)]
  intro w hw
  obtain ⟨p, hp, rfl⟩ := List.mem_map.mp hw
  exact h p hp
/-- lengths: the words and the signs between them -/
theorem jnL_len {c : Nat} : ∀ {ws : List (List Nat)}, (jnL c ws).length + 1 = (ws.map List.length).sum + max ws.length 1
  | [] => rfl
  | [w] => by simp [jnL_one]
  | w :: v :: r => by
    rw [jnL_cons (by simp), List.length_append, List.length_cons]
    have ih := jnL_len (c := c) (ws := v :: r)
    simp only [List.map_cons, List.sum_cons, List.length_cons] at ih ⊢
    omega
theorem join_len (c : Nat) (ys : List Str) : (Txt.join ⟨#[c]⟩ ys).length + 1 = (ys.map (·.length)).sum + max ys.length 1 := by
  have h := jnL_len (c := c) (ws := ys.map cs)
  rw [← cs_joinC, cs_len] at h
  rw [h, List.length_map, List.map_map]
  rfl
theorem split_len (x : Str) (c : Nat) : ((Txt.split x ⟨#[c]⟩).map (·.length)).sum + (Txt.split x ⟨#[c]⟩).length = x.length + 1 := by
  have h := join_len c (Txt.split x ⟨#[c]⟩)
  rw [join_split] at h
  have : 1 ≤ (Txt.split x ⟨#[c]⟩).length := by
    rcases Nat.eq_zero_or_pos (Txt.split x ⟨#[c]⟩).length with e | e
    · exact absurd (List.length_eq_zero_iff.mp e) (split_ne _ _)
    · exact e
  omega
/-! ### numbers written by one to three figures -/
def digV (w : List Nat) : Nat := NumText.digitsVal w
def isDg (c : Nat) : Bool := decide (48 ≤ c ∧ c ≤ 57)
/-- the number that a word writes, if it writes one -/
def numW (w : List Nat) : Option Nat := if w.length = 0 ∨ 3 < w.length ∨ w.all isDg = false ∨ (w.head? = some 48 ∧ w ≠ [48]) then none else some (digV w)
theorem int_dig {x : Str} (h1 : 1 ≤ x.length) (h3 : x.length ≤ 3) (h : (cs x).all isDg = true) : PySem.intText? x = some ((digV (cs x) : Nat) : Int) := by
  refine PySem.intText_digits (fun c hc => ?_) ?_ (by omega)
  · have := List.all_eq_true.mp h c hc
    exact of_decide_eq_true this
  · intro e
    have : (cs x).length = 0 := by show (x.cps.toList).length = 0; rw [e]; rfl
    rw [cs_len] at this
    omega
theorem dig1 : ∀ a : Fin 10, decide (Str.ofString (toString ((a.val : Nat) : Int)) = ⟨#[48 + a.val]⟩) = true := by decide +kernel
theorem dig2 : ∀ a b : Fin 10, decide (Str.ofString (toString ((a.val * 10 + b.val : Nat) : Int)) = ⟨#[48 + a.val, 48 + b.val]⟩) = decide (a.val ≠ 0) := by decide +kernel
theorem dig3 : ∀ a b c : Fin 10, decide (Str.ofString (toString (((a.val * 10 + b.val) * 10 + c.val : Nat) : Int)) = ⟨#[48 + a.val, 48 + b.val, 48 + c.val]⟩) = decide (a.val ≠ 0) := by decide +kernel
/-- a word of figures is the number's own text just where it has no nought ahead -/
theorem str_dig {x : Str} (h1 : 1 ≤ x.length) (h3 : x.length ≤ 3) (h : (cs x).all isDg = true) : (Str.ofString (toString ((digV (cs x) : Nat) : Int)) = x) ↔ ¬ ((cs x).head? = some 48 ∧ cs x ≠ [48]) := by
  have hl := cs_len x
  have fin : ∀ a, isDg a = true → ∃ n : Fin 10, a = 48 + n.val := fun a ha => by
    have : 48 ≤ a ∧ a ≤ 57 := of_decide_eq_true ha
    exact ⟨⟨a - 48, by omega⟩, (by omega : a = 48 + (a - 48))⟩
  have ex : ∀ l : List Nat, cs x = l → x = ⟨l.toArray⟩ := fun l e => cs_inj (by rw [e])
  match e : cs x, hl, h with
  | [], hl, _ => simp at hl; omega
  | [a], hl, h =>
    simp only [List.all_cons, List.all_nil, Bool.and_true] at h
    obtain ⟨n, rfl⟩ := fin a h
    rw [ex _ e]
    have h1 := of_decide_eq_true (dig1 n)
    have ev : digV [48 + n.val] = n.val := by
      show 0 * 10 + (48 + n.val - 48) = _
      omega
    rw [ev]
    constructor
    · rintro _ ⟨q1, q2⟩
      simp at q1
      exact q2 (by rw [q1]; rfl)
    · intro _
      exact h1
  | [a, b], hl, h =>
    simp only [List.all_cons, List.all_nil, Bool.and_true, Bool.and_eq_true] at h
    obtain ⟨n, rfl⟩ := fin a h.1
    obtain ⟨m, rfl⟩ := fin b h.2
    rw [ex _ e]
    have h1 := dig2 n m
    have ev : digV [48 + n.val, 48 + m.val] = n.val * 10 + m.val := by
      show (0 * 10 + (48 + n.val - 48)) * 10 + (48 + m.val - 48) = _
      omega
    rw [ev]
    have h1 := decide_eq_decide.mp h1
    rw [show (⟨[48 + n.val, 48 + m.val].toArray⟩ : Str) = ⟨#[48 + n.val, 48 + m.val]⟩ from rfl, h1]
    simp
  | [a, b, c], hl, h =>
    simp only [List.all_cons, List.all_nil, Bool.and_true, Bool.and_eq_true] at h
    obtain ⟨n, rfl⟩ := fin a h.1
    obtain ⟨m, rfl⟩ := fin b h.2.1
    obtain ⟨k, rfl⟩ := fin c h.2.2
    rw [ex _ e]
    have h1 := dig3 n m k
    have ev : digV [48 + n.val, 48 + m.val, 48 + k.val] = (n.val * 10 + m.val) * 10 + k.val := by
      show ((0 * 10 + (48 + n.val - 48)) * 10 + (48 + m.val - 48)) * 10 + (48 + k.val - 48) = _
      omega
    rw [ev]
    have h1 := decide_eq_decide.mp h1
    rw [show (⟨[48 + n.val, 48 + m.val, 48 + k.val].toArray⟩ : Str) = ⟨#[48 + n.val, 48 + m.val, 48 + k.val]⟩ from rfl, h1]
    simp
  | _ :: _ :: _ :: _ :: _, hl, _ => simp at hl; omega
theorem digV_lt {w : List Nat} (h3 : w.length ≤ 3) (h : w.all isDg = true) : digV w < 1000 := by
  have dg : ∀ a, isDg a = true → a - 48 ≤ 9 := fun a ha => by
    have : 48 ≤ a ∧ a ≤ 57 := of_decide_eq_true ha
    omega
  match w, h3, h with
  | [], _, _ => decide
  | [a], _, h =>
    simp only [List.all_cons, List.all_nil, Bool.and_true] at h
    have := dg a h
    show 0 * 10 + (a - 48) < 1000
    omega
  | [a, b], _, h =>
    simp only [List.all_cons, List.all_nil, Bool.and_true, Bool.and_eq_true] at h
    have := dg a h.1
    have := dg b h.2
    show (0 * 10 + (a - 48)) * 10 + (b - 48) < 1000
    omega
  | [a, b, c], _, h =>
    simp only [List.all_cons, List.all_nil, Bool.and_true, Bool.and_eq_true] at h
    have := dg a h.1
    have := dg b h.2.1
    have := dg c h.2.2
    show ((0 * 10 + (a - 48)) * 10 + (b - 48)) * 10 + (c - 48) < 1000
    omega
/-! ### str(x) of a whole number or a text -/
theorem call_strA {X : Cx} : CallR X (.type "str") (fun xs H Q => (∃ i, xs = [.int i] ∧ i.natAbs.log2 < 1920 ∧ Q (.str (Str.ofString (toString i))) H) ∨ ∃ z, xs = [.str z] ∧ Q (.str z) H) := by
  intro pins s σ H xs us Q I r h
  rcases h with ⟨i, rfl, hz, q⟩ | ⟨z, rfl, q⟩
  · obtain ⟨u, rfl, t, rfl⟩ := vals1 r
    exact PySem.P.str_of_int hz ⟨.str _, H, I.tok _, ⟨_, rfl⟩, q⟩
  · obtain ⟨u, rfl, t, rfl⟩ := vals1 r
    exact PySem.P.str_of_str ⟨.str z, H, I, ⟨_, rfl⟩, q⟩
end L2

set_option Elab.async false
set_option linter.all false
set_option maxRecDepth 100000
set_option maxHeartbeats 1000000
namespace L2
open PySem PySem.Spec PyProof.Rows TL
end L2

set_option Elab.async false
set_option linter.all false
set_option maxRecDepth 100000
set_option maxHeartbeats 1000000
namespace L2
open PySem PySem.Spec PyProof.Rows TL
/-- f"{a}{text}{b}" of two ints -/
def tFII (c : Str) (t1 t2 : TE) : TE := fun σ H Q => t1 σ H fun x H1 => ∃ i, x = .int i ∧ i.natAbs.log2 < 1920 ∧ (Str.ofString (toString i)).length + c.length ≤ 16777216 ∧ t2 σ H1 fun y H2 => ∃ j, y = .int j ∧ j.natAbs.log2 < 1920 ∧
  (Str.ofString (toString i)).length + c.length + (Str.ofString (toString j)).length ≤ 16777216 ∧ Q (.str (Str.ofString (toString i) ++ c ++ Str.ofString (toString j))) H2
theorem pe_fII {X : Cx} {e1 e2 : Expr} {t1 t2 : TE} {c : Str} {k : Nat} {p1 p2 p3 p : Pos} (h1 : PE X e1 t1) (h2 : PE X e2 t2) :
    PE X (.JoinedStr [.FormattedValue e1 (-1) none p1, .Constant (.str c) k p2, .FormattedValue e2 (-1) none p3] p) (tFII c t1 t2) := by
  intro pins s σ H Q I h
  have hS : (sizeLine : Nat) = 16777216 := szl
  have he : ∀ z : Str, Str.empty ++ z = z := fun z => by
    cases z with
    | mk a => show Str.mk (#[] ++ a) = Str.mk a; simp
  refine wpAny_JoinedStr ?_
  show wpAny _ _ (eval (.FormattedValue e1 (-1) none p1) X.env) _ _ s
  refine wpAny_FormattedValue_plain (thn (h1 pins s σ H _ I h) fun v s1 ⟨x, H1, I1, r1, i, ei, hi, hz1, q1⟩ => ?_)
  subst ei
  obtain ⟨t, rfl⟩ := r1
  refine wpAny_formatField_int hi ⟨_, _, rfl, ?_, ?_⟩
  · show (Str.empty ++ Str.ofString (toString i)).length ≤ sizeLine
    rw [he]
    omega
  show wpAny _ _ (eval (.Constant (.str c) k p2) X.env) _ _ _
  rw [show (Str.empty ++ (toString i : Str)) = Str.ofString (toString i) from he _]
  refine Calls.Constant_str ⟨_, _, rfl, ?_, ?_⟩
  · rw [len_app]
    omega
  show wpAny _ _ (eval (.FormattedValue e2 (-1) none p3) X.env) _ _ _
  refine wpAny_FormattedValue_plain (thn (h2 pins _ σ H1 _ (I1.tok _) q1) fun v2 s2 ⟨y, H2, I2, r2, j, ej, hj, hz2, q2⟩ => ?_)
  subst ej
  obtain ⟨u, rfl⟩ := r2
  have hl : (Str.ofString (toString i) ++ c ++ Str.ofString (toString j)).length ≤ sizeLine := by
    rw [len_app, len_app]
    omega
  refine wpAny_formatField_int hj ⟨_, _, rfl, hl, hl, ?_⟩
  exact ⟨.str _, H2, I2.tok _, ⟨_, rfl⟩, q2⟩
end L2

set_option Elab.async false
set_option linter.all false
set_option maxRecDepth 100000
set_option maxHeartbeats 1000000
namespace K55
open PySem L2
def top (i : Nat) : Stmt := PySem.Challenge.pw_touchpin_k55_forms_written_and_read.main.body.getD i (.Pass ⟨0, 0, 0, 0⟩)
abbrev s_is_letter : Stmt := top 10
abbrev N_is_letter : List Str := ["sign"]
abbrev P_is_letter : List Str := ["sign"]
theorem sc_is_letter : FnScope N_is_letter P_is_letter (defScope s_is_letter) := ⟨rfl, rfl, rfl, by decide +kernel, rfl, by decide +kernel, by decide +kernel⟩
abbrev s_is_one_letter : Stmt := top 11
abbrev N_is_one_letter : List Str := ["thing"]
abbrev P_is_one_letter : List Str := ["thing"]
theorem sc_is_one_letter : FnScope N_is_one_letter P_is_one_letter (defScope s_is_one_letter) := ⟨rfl, rfl, rfl, by decide +kernel, rfl, by decide +kernel, by decide +kernel⟩
abbrev s_length_of : Stmt := top 13
abbrev N_length_of : List Str := ["part"]
abbrev P_length_of : List Str := ["part"]
theorem sc_length_of : FnScope N_length_of P_length_of (defScope s_length_of) := ⟨rfl, rfl, rfl, by decide +kernel, rfl, by decide +kernel, by decide +kernel⟩
abbrev s_reach_of : Stmt := top 14
abbrev N_reach_of : List Str := ["part"]
abbrev P_reach_of : List Str := ["part"]
theorem sc_reach_of : FnScope N_reach_of P_reach_of (defScope s_reach_of) := ⟨rfl, rfl, rfl, by decide +kernel, rfl, by decide +kernel, by decide +kernel⟩
abbrev s_form_text : Stmt := top 18
abbrev N_form_text : List Str := ["form", "part"]
abbrev P_form_text : List Str := ["form"]
theorem sc_form_text : FnScope N_form_text P_form_text (defScope s_form_text) := ⟨rfl, rfl, rfl, by decide +kernel, rfl, by decide +kernel, by decide +kernel⟩
abbrev s_part_word : Stmt := top 19
abbrev N_part_word : List Str := ["part"]
abbrev P_part_word : List Str := ["part"]
theorem sc_part_word : FnScope N_part_word P_part_word (defScope s_part_word) := ⟨rfl, rfl, rfl, by decide +kernel, rfl, by decide +kernel, by decide +kernel⟩
abbrev s_read_number : Stmt := top 20
abbrev N_read_number : List Str := ["word", "sign"]
abbrev P_read_number : List Str := ["word"]
theorem sc_read_number : FnScope N_read_number P_read_number (defScope s_read_number) := ⟨rfl, rfl, rfl, by decide +kernel, rfl, by decide +kernel, by decide +kernel⟩
abbrev s_read_form : Stmt := top 21
abbrev N_read_form : List Str := ["text", "parts", "signs", "part", "number"]
abbrev P_read_form : List Str := ["text"]
theorem sc_read_form : FnScope N_read_form P_read_form (defScope s_read_form) := ⟨rfl, rfl, rfl, by decide +kernel, rfl, by decide +kernel, by decide +kernel⟩
abbrev s_read_parts : Stmt := top 22
abbrev N_read_parts : List Str := ["text", "parts", "signs", "words", "number", "word", "part"]
abbrev P_read_parts : List Str := ["text"]
theorem sc_read_parts : FnScope N_read_parts P_read_parts (defScope s_read_parts) := ⟨rfl, rfl, rfl, by decide +kernel, rfl, by decide +kernel, by decide +kernel⟩
abbrev s_read_part : Stmt := top 23
abbrev N_read_part : List Str := ["word", "place", "colon", "many", "origin", "signs"]
abbrev P_read_part : List Str := ["word"]
theorem sc_read_part : FnScope N_read_part P_read_part (defScope s_read_part) := ⟨rfl, rfl, rfl, by decide +kernel, rfl, by decide +kernel, by decide +kernel⟩
abbrev s_law_pen : Stmt := top 25
abbrev N_law_pen : List Str := ["script"]
abbrev P_law_pen : List Str := ["script"]
theorem sc_law_pen : FnScope N_law_pen P_law_pen (defScope s_law_pen) := ⟨rfl, rfl, rfl, by decide +kernel, rfl, by decide +kernel, by decide +kernel⟩
abbrev s_law_take : Stmt := top 26
abbrev N_law_take : List Str := ["pen", "many", "at", "cell", "one", "two", "three", "found"]
abbrev P_law_take : List Str := ["pen", "many"]
theorem sc_law_take : FnScope N_law_take P_law_take (defScope s_law_take) := ⟨rfl, rfl, rfl, by decide +kernel, rfl, by decide +kernel, by decide +kernel⟩
abbrev s_law_letter : Stmt := top 27
abbrev N_law_letter : List Str := ["pen", "size"]
abbrev P_law_letter : List Str := ["pen", "size"]
theorem sc_law_letter : FnScope N_law_letter P_law_letter (defScope s_law_letter) := ⟨rfl, rfl, rfl, by decide +kernel, rfl, by decide +kernel, by decide +kernel⟩
abbrev s_law_same : Stmt := top 28
abbrev N_law_same : List Str := ["found", "due", "one", "other"]
abbrev P_law_same : List Str := ["found", "due"]
theorem sc_law_same : FnScope N_law_same P_law_same (defScope s_law_same) := ⟨rfl, rfl, rfl, by decide +kernel, rfl, by decide +kernel, by decide +kernel⟩
abbrev s_law_any_form : Stmt := top 29
abbrev N_law_any_form : List Str := ["pen", "parts", "total", "k", "many", "found", "part"]
abbrev P_law_any_form : List Str := ["pen"]
theorem sc_law_any_form : FnScope N_law_any_form P_law_any_form (defScope s_law_any_form) := ⟨rfl, rfl, rfl, by decide +kernel, rfl, by decide +kernel, by decide +kernel⟩
abbrev s_law_form_text : Stmt := top 30
abbrev N_law_form_text : List Str := ["form", "found", "part"]
abbrev P_law_form_text : List Str := ["form"]
theorem sc_law_form_text : FnScope N_law_form_text P_law_form_text (defScope s_law_form_text) := ⟨rfl, rfl, rfl, by decide +kernel, rfl, by decide +kernel, by decide +kernel⟩
abbrev s_law_number : Stmt := top 31
abbrev N_law_number : List Str := ["word", "sign"]
abbrev P_law_number : List Str := ["word"]
theorem sc_law_number : FnScope N_law_number P_law_number (defScope s_law_number) := ⟨rfl, rfl, rfl, by decide +kernel, rfl, by decide +kernel, by decide +kernel⟩
abbrev s_law_bent_words : Stmt := top 32
abbrev N_law_bent_words : List Str := ["pen", "words", "at", "odd", "word", "way"]
abbrev P_law_bent_words : List Str := ["pen", "words"]
theorem sc_law_bent_words : FnScope N_law_bent_words P_law_bent_words (defScope s_law_bent_words) := ⟨rfl, rfl, rfl, by decide +kernel, rfl, by decide +kernel, by decide +kernel⟩
abbrev s_law_part : Stmt := top 33
abbrev N_law_part : List Str := ["word", "numbers", "one"]
abbrev P_law_part : List Str := ["word"]
theorem sc_law_part : FnScope N_law_part P_law_part (defScope s_law_part) := ⟨rfl, rfl, rfl, by decide +kernel, rfl, by decide +kernel, by decide +kernel⟩
abbrev s_law_due : Stmt := top 34
abbrev N_law_due : List Str := ["text", "parts", "total", "number", "word", "part"]
abbrev P_law_due : List Str := ["text"]
theorem sc_law_due : FnScope N_law_due P_law_due (defScope s_law_due) := ⟨rfl, rfl, rfl, by decide +kernel, rfl, by decide +kernel, by decide +kernel⟩
abbrev s_law_told : Stmt := top 35
abbrev N_law_told : List Str := ["text", "caught", "found", "e"]
abbrev P_law_told : List Str := ["text"]
theorem sc_law_told : FnScope N_law_told P_law_told (defScope s_law_told) := ⟨rfl, rfl, rfl, by decide +kernel, rfl, by decide +kernel, by decide +kernel⟩
abbrev s_law_sign_spoilt : Stmt := top 36
abbrev N_law_sign_spoilt : List Str := ["pen", "text", "at", "signs", "sign"]
abbrev P_law_sign_spoilt : List Str := ["pen", "text"]
theorem sc_law_sign_spoilt : FnScope N_law_sign_spoilt P_law_sign_spoilt (defScope s_law_sign_spoilt) := ⟨rfl, rfl, rfl, by decide +kernel, rfl, by decide +kernel, by decide +kernel⟩
abbrev s_law : Stmt := top 37
abbrev N_law : List Str := ["script", "pen", "turn", "form", "text", "words", "k", "spoilt"]
abbrev P_law : List Str := ["script"]
theorem sc_law : FnScope N_law P_law (defScope s_law) := ⟨rfl, rfl, rfl, by decide +kernel, rfl, by decide +kernel, by decide +kernel⟩
abbrev s_NoText___init__ : Stmt := inClass (top 7) 0
abbrev N_NoText___init__ : List Str := ["self", "number"]
abbrev P_NoText___init__ : List Str := ["self", "number"]
theorem sc_NoText___init__ : FnScope N_NoText___init__ P_NoText___init__ (defScope s_NoText___init__) := ⟨rfl, rfl, rfl, by decide +kernel, rfl, by decide +kernel, by decide +kernel⟩

structure Bu (mg : Str → Option Value) : Prop where
  n_isinstance : mg "isinstance" = none
  n_str : mg "str" = none
  n_int : mg "int" = none
  n_bool : mg "bool" = none
  n_tuple : mg "tuple" = none
  n_list : mg "list" = none
  n_len : mg "len" = none
  n_range : mg "range" = none
  n_min : mg "min" = none
  n_sum : mg "sum" = none
  n_all : mg "all" = none
  n_enumerate : mg "enumerate" = none
  n_zip : mg "zip" = none
  n_ValueError : mg "ValueError" = none
  c_MOST_SIGNS : ∃ t, mg "MOST_SIGNS" = some (.int 300 t)
  c_MOST_FIGURES : ∃ t, mg "MOST_FIGURES" = some (.int 3 t)
  c_FIGURES : ∃ t, mg "FIGURES" = some (.str "0123456789" t)
end K55

set_option Elab.async false
set_option linter.all false
set_option maxRecDepth 100000
set_option maxHeartbeats 1000000
namespace K55
open PySem L2
structure Pen (H : Hp) (p q : Addr) : Prop where
  ex : ∃ (ns : List Int) (z n : Int), H p = some (.lst [.ref q, .int z, .int n]) ∧ H q = some (.lst (ns.map V.int)) ∧ 0 ≤ z
def spTake : Sp := fun vs H Q _ => ∃ (p q : Addr) (m : Int), vs = [.ref p, .int m] ∧ 0 < m ∧ m ≤ 1000000 ∧ Pen H p q ∧ ∀ (r : Int) (H' : Hp), 0 ≤ r → r < m → Pen H' p q → Off p H H' → Q (.int r) H'
section
variable {P : Program} {w : World} {K : PySem.W.Frag} {mg : Str → Option Value} {base : Heap}
theorem ok_take (F : FunN K mg "_law_take" s_law_take P_law_take) (T : Bu mg) : Cal P w K mg base 1 "_law_take" P_law_take spTake := by
  refine cal_of F sc_law_take (fun vs H Q E h => ?_) (fun f cdv A outer s H vs Q E hr h => ?_)
  · obtain ⟨p, q, m, rfl, _⟩ := h
    rfl
  · obtain ⟨p, q, m, rfl, hm, hm2, ⟨ns, z, n, hp, hq, hz⟩, k⟩ := h
    have npq : p ≠ q := ne_of hp hq (by
      intro e
      cases ns <;> simp at e)
    refine ⟨_, (@pss_cons _ _ _ _ _ (@ps_if _ _ _ _ _ _ _ _ (@pt_cmpR _ _ _ _ _ _ _ _ op_eq (@pe_ix _ _ _ _ _ _ _ ix_list (@pv _ 0 _ _ (by rfl) (by first | exact Or.inl rfl | exact Or.inr (Or.inl rfl) | exact Or.inr (Or.inr rfl)) (by decide) (by decide)) pe_int (fun _ _ => rfl)) pe_int (nomark _)) (@pss_cons _ _ _ _ _ (@ps_set _ _ (2) _ _ _ _ sc_law_take.nd rfl (Or.inl rfl) (@pe_ix _ _ _ _ _ _ _ ix_list (@pv _ 0 _ _ (by rfl) (by first | exact Or.inl rfl | exact Or.inr (Or.inl rfl) | exact Or.inr (Or.inr rfl)) (by decide) (by decide)) pe_int (fun _ _ => rfl)) (by rfl) (by first | exact .inl rfl | exact .inr rfl)) (@pss_cons _ _ _ _ _ (@ps_asg _ _ _ _ _ _ (@pe_op _ _ _ _ _ _ _ _ op_add (@pv _ 2 _ _ (by rfl) (by first | exact Or.inl rfl | exact Or.inr (Or.inl rfl) | exact Or.inr (Or.inr rfl)) (by decide) (by decide)) pe_int) (@pg_sub _ _ _ _ _ _ _ (@pv _ 0 _ _ (by rfl) (by first | exact Or.inl rfl | exact Or.inr (Or.inl rfl) | exact Or.inr (Or.inr rfl)) (by decide) (by decide)) pe_int set_list (by intro _; rfl)) (by rfl) (by rfl) (by rfl)) (@pss_cons _ _ _ _ _ (@ps_set _ _ (3) _ _ _ _ sc_law_take.nd rfl (Or.inl rfl) pe_int (by rfl) (by first | exact .inl rfl | exact .inr rfl)) (@pss_cons _ _ _ _ _ (@ps_if _ _ _ _ _ _ _ _ (@pt_cmpR _ _ _ _ _ _ _ _ op_lt (@pv _ 2 _ _ (by rfl) (by first | exact Or.inl rfl | exact Or.inr (Or.inl rfl) | exact Or.inr (Or.inr rfl)) (by decide) (by decide)) (@pe_callB _ _ _ _ _ _ _ _ _ call_len_seq (by rfl) T.n_len (by decide +kernel) (@pa_cons _ _ _ _ _ (@pe_ix _ _ _ _ _ _ _ ix_list (@pv _ 0 _ _ (by rfl) (by first | exact Or.inl rfl | exact Or.inr (Or.inl rfl) | exact Or.inr (Or.inr rfl)) (by decide) (by decide)) pe_int (fun _ _ => rfl)) pa_nil (by rfl)) (by decide) (by decide) (by rfl) (by rfl)) (nomark _)) (@pss_one _ _ _ (@ps_set _ _ (3) _ _ _ _ sc_law_take.nd rfl (Or.inl rfl) (@pe_ix _ _ _ _ _ _ _ ix_list (@pe_ix _ _ _ _ _ _ _ ix_list (@pv _ 0 _ _ (by rfl) (by first | exact Or.inl rfl | exact Or.inr (Or.inl rfl) | exact Or.inr (Or.inr rfl)) (by decide) (by decide)) pe_int (fun _ _ => rfl)) (@pv _ 2 _ _ (by rfl) (by first | exact Or.inl rfl | exact Or.inr (Or.inl rfl) | exact Or.inr (Or.inr rfl)) (by decide) (by decide)) (fun _ _ => rfl)) (by rfl) (by first | exact .inl rfl | exact .inr rfl))) (@pss_one _ _ _ (@ps_if _ _ _ _ _ _ _ _ (@pt_cmpR _ _ _ _ _ _ _ _ op_gt (@pe_callB _ _ _ _ _ _ _ _ _ call_len_seq (by rfl) T.n_len (by decide +kernel) (@pa_cons _ _ _ _ _ (@pe_ix _ _ _ _ _ _ _ ix_list (@pv _ 0 _ _ (by rfl) (by first | exact Or.inl rfl | exact Or.inr (Or.inl rfl) | exact Or.inr (Or.inr rfl)) (by decide) (by decide)) pe_int (fun _ _ => rfl)) pa_nil (by rfl)) (by decide) (by decide) (by rfl) (by rfl)) pe_int (nomark _)) (@pss_one _ _ _ (@ps_set _ _ (3) _ _ _ _ sc_law_take.nd rfl (Or.inl rfl) (@pe_op _ _ _ _ _ _ _ _ op_add (@pe_op _ _ _ _ _ _ _ _ op_mod (@pe_ix _ _ _ _ _ _ _ ix_list (@pe_ix _ _ _ _ _ _ _ ix_list (@pv _ 0 _ _ (by rfl) (by first | exact Or.inl rfl | exact Or.inr (Or.inl rfl) | exact Or.inr (Or.inr rfl)) (by decide) (by decide)) pe_int (fun _ _ => rfl)) (@pe_op _ _ _ _ _ _ _ _ op_mod (@pe_op _ _ _ _ _ _ _ _ op_mul (@pv _ 2 _ _ (by rfl) (by first | exact Or.inl rfl | exact Or.inr (Or.inl rfl) | exact Or.inr (Or.inr rfl)) (by decide) (by decide)) pe_int) (@pe_callB _ _ _ _ _ _ _ _ _ call_len_seq (by rfl) T.n_len (by decide +kernel) (@pa_cons _ _ _ _ _ (@pe_ix _ _ _ _ _ _ _ ix_list (@pv _ 0 _ _ (by rfl) (by first | exact Or.inl rfl | exact Or.inr (Or.inl rfl) | exact Or.inr (Or.inr rfl)) (by decide) (by decide)) pe_int (fun _ _ => rfl)) pa_nil (by rfl)) (by decide) (by decide) (by rfl) (by rfl))) (fun _ _ => rfl)) pe_int) (@pe_op _ _ _ _ _ _ _ _ op_mul pe_int (@pv _ 2 _ _ (by rfl) (by first | exact Or.inl rfl | exact Or.inr (Or.inl rfl) | exact Or.inr (Or.inr rfl)) (by decide) (by decide)))) (by rfl) (by first | exact .inl rfl | exact .inr rfl))) pss_nil))) (@pss_cons _ _ _ _ _ (@ps_set _ _ (4) _ _ _ _ sc_law_take.nd rfl (Or.inl rfl) (@pe_op _ _ _ _ _ _ _ _ op_mod (@pe_op _ _ _ _ _ _ _ _ op_mul (@pe_op _ _ _ _ _ _ _ _ op_add (@pe_op _ _ _ _ _ _ _ _ op_add (@pe_op _ _ _ _ _ _ _ _ op_mod (@pv _ 3 _ _ (by rfl) (by first | exact Or.inl rfl | exact Or.inr (Or.inl rfl) | exact Or.inr (Or.inr rfl)) (by decide) (by decide)) pe_int) (@pe_op _ _ _ _ _ _ _ _ op_mul pe_int (@pv _ 2 _ _ (by rfl) (by first | exact Or.inl rfl | exact Or.inr (Or.inl rfl) | exact Or.inr (Or.inr rfl)) (by decide) (by decide)))) pe_int) pe_int) pe_int) (by rfl) (by first | exact .inl rfl | exact .inr rfl)) (@pss_cons _ _ _ _ _ (@ps_set _ _ (5) _ _ _ _ sc_law_take.nd rfl (Or.inl rfl) (@pe_op _ _ _ _ _ _ _ _ op_mod (@pe_op _ _ _ _ _ _ _ _ op_add (@pe_op _ _ _ _ _ _ _ _ op_add (@pe_op _ _ _ _ _ _ _ _ op_mul (@pv _ 4 _ _ (by rfl) (by first | exact Or.inl rfl | exact Or.inr (Or.inl rfl) | exact Or.inr (Or.inr rfl)) (by decide) (by decide)) (@pv _ 4 _ _ (by rfl) (by first | exact Or.inl rfl | exact Or.inr (Or.inl rfl) | exact Or.inr (Or.inr rfl)) (by decide) (by decide))) (@pe_op _ _ _ _ _ _ _ _ op_mul pe_int (@pv _ 2 _ _ (by rfl) (by first | exact Or.inl rfl | exact Or.inr (Or.inl rfl) | exact Or.inr (Or.inr rfl)) (by decide) (by decide)))) pe_int) pe_int) (by rfl) (by first | exact .inl rfl | exact .inr rfl)) (@pss_cons _ _ _ _ _ (@ps_set _ _ (6) _ _ _ _ sc_law_take.nd rfl (Or.inl rfl) (@pe_op _ _ _ _ _ _ _ _ op_mod (@pe_op _ _ _ _ _ _ _ _ op_add (@pe_op _ _ _ _ _ _ _ _ op_mul (@pv _ 5 _ _ (by rfl) (by first | exact Or.inl rfl | exact Or.inr (Or.inl rfl) | exact Or.inr (Or.inr rfl)) (by decide) (by decide)) (@pv _ 5 _ _ (by rfl) (by first | exact Or.inl rfl | exact Or.inr (Or.inl rfl) | exact Or.inr (Or.inr rfl)) (by decide) (by decide))) (@pv _ 4 _ _ (by rfl) (by first | exact Or.inl rfl | exact Or.inr (Or.inl rfl) | exact Or.inr (Or.inr rfl)) (by decide) (by decide))) pe_int) (by rfl) (by first | exact .inl rfl | exact .inr rfl)) (@pss_cons _ _ _ _ _ (@ps_asg _ _ _ _ _ _ (@pe_op _ _ _ _ _ _ _ _ op_add (@pe_op _ _ _ _ _ _ _ _ op_fdivL (@pe_op _ _ _ _ _ _ _ _ op_add (@pe_op _ _ _ _ _ _ _ _ op_mul (@pv _ 5 _ _ (by rfl) (by first | exact Or.inl rfl | exact Or.inr (Or.inl rfl) | exact Or.inr (Or.inr rfl)) (by decide) (by decide)) pe_int) (@pv _ 6 _ _ (by rfl) (by first | exact Or.inl rfl | exact Or.inr (Or.inl rfl) | exact Or.inr (Or.inr rfl)) (by decide) (by decide))) pe_int) pe_int) (@pg_sub _ _ _ _ _ _ _ (@pv _ 0 _ _ (by rfl) (by first | exact Or.inl rfl | exact Or.inr (Or.inl rfl) | exact Or.inr (Or.inr rfl)) (by decide) (by decide)) pe_int set_list (by intro _; rfl)) (by rfl) (by rfl) (by rfl)) (@pss_one _ _ _ (@ps_if _ _ _ _ _ _ _ _ (@pt_cmpR _ _ _ _ _ _ _ _ op_ge (@pv _ 3 _ _ (by rfl) (by first | exact Or.inl rfl | exact Or.inr (Or.inl rfl) | exact Or.inr (Or.inr rfl)) (by decide) (by decide)) (@pe_op _ _ _ _ _ _ _ _ op_pow pe_int pe_int) (nomark _)) (@pss_one _ _ _ (@ps_asg _ _ _ _ _ _ (@pe_op _ _ _ _ _ _ _ _ op_fdivL (@pv _ 3 _ _ (by rfl) (by first | exact Or.inl rfl | exact Or.inr (Or.inl rfl) | exact Or.inr (Or.inr rfl)) (by decide) (by decide)) (@pe_op _ _ _ _ _ _ _ _ op_pow pe_int pe_int)) (@pg_sub _ _ _ _ _ _ _ (@pv _ 0 _ _ (by rfl) (by first | exact Or.inl rfl | exact Or.inr (Or.inl rfl) | exact Or.inr (Or.inr rfl)) (by decide) (by decide)) pe_int set_list (by intro _; rfl)) (by rfl) (by rfl) (by rfl))) pss_nil)))))))))) pss_nil) (@pss_cons _ _ _ _ _ (@ps_set _ _ (7) _ _ _ _ sc_law_take.nd rfl (Or.inl rfl) (@pe_op _ _ _ _ _ _ _ _ op_mod (@pe_ix _ _ _ _ _ _ _ ix_list (@pv _ 0 _ _ (by rfl) (by first | exact Or.inl rfl | exact Or.inr (Or.inl rfl) | exact Or.inr (Or.inr rfl)) (by decide) (by decide)) pe_int (fun _ _ => rfl)) (@pv _ 1 _ _ (by rfl) (by first | exact Or.inl rfl | exact Or.inr (Or.inl rfl) | exact Or.inr (Or.inr rfl)) (by decide) (by decide))) (by rfl) (by first | exact .inl rfl | exact .inr rfl)) (@pss_cons _ _ _ _ _ (@ps_asg _ _ _ _ _ _ (@pe_op _ _ _ _ _ _ _ _ op_fdivL (@pe_ix _ _ _ _ _ _ _ ix_list (@pv _ 0 _ _ (by rfl) (by first | exact Or.inl rfl | exact Or.inr (Or.inl rfl) | exact Or.inr (Or.inr rfl)) (by decide) (by decide)) pe_int (fun _ _ => rfl)) (@pv _ 1 _ _ (by rfl) (by first | exact Or.inl rfl | exact Or.inr (Or.inl rfl) | exact Or.inr (Or.inr rfl)) (by decide) (by decide))) (@pg_sub _ _ _ _ _ _ _ (@pv _ 0 _ _ (by rfl) (by first | exact Or.inl rfl | exact Or.inr (Or.inl rfl) | exact Or.inr (Or.inr rfl)) (by decide) (by decide)) pe_int set_list (by intro _; rfl)) (by rfl) (by rfl) (by rfl)) (@pss_one _ _ _ (@ps_ret _ _ _ _ (@pv _ 7 _ _ (by rfl) (by first | exact Or.inl rfl | exact Or.inr (Or.inl rfl) | exact Or.inr (Or.inr rfl)) (by decide) (by decide))))))), ?_⟩
    -- the first if, and what comes behind it
    refine seq_after (fun σ' H' => ∃ (z' n' : Int) (a b c d e : Option V), 0 ≤ z' ∧ σ' = [some (.ref p), some (.int m), a, b, c, d, e, none] ∧ H' = upd H p (.lst [.ref q, .int z', .int n'])) ?_ (fun fin => ?_)
    · rintro _ _ ⟨z', n', a, b, c, d, e, hz', rfl, rfl⟩
      refine ⟨_, rfl, p, _, _, _, rfl, rfl, SqL.of upd_same, rfl, _, rfl, _, _, rfl, rfl, hm, ?_⟩
      refine ⟨_, rfl, p, _, _, _, rfl, rfl, SqL.of upd_same, rfl, _, rfl, _, _, rfl, rfl, ⟨hm, small_log hm hm2⟩, _, rfl, p, _, _, _, rfl, rfl, upd_same, rfl, ?_⟩
      refine ⟨_, rfl, ?_⟩
      rw [upd_upd]
      refine k _ _ (Int.emod_nonneg _ (by omega)) (Int.emod_lt_of_pos _ hm) ⟨ns, z', _, upd_same, by rw [upd_ne npq.symm]; exact hq, hz'⟩ Off.upd
    refine ⟨_, rfl, p, _, _, _, rfl, rfl, SqL.of hp, rfl, rfl, _, rfl, ?_⟩
    refine ite2 (fun _ => ?_) (fun _ => ?_)
    · -- at = pen[1]; pen[1] = at + 1; cell = 0
      refine ⟨_, rfl, p, _, _, _, rfl, rfl, SqL.of hp, rfl, ?_⟩
      refine ⟨_, rfl, _, _, rfl, rfl, _, rfl, p, _, _, _, rfl, rfl, hp, rfl, ?_⟩
      have hp1 : (upd H p (.lst ([V.ref q, .int z, .int n].set 1 (.int (z + 1))))) p = some (.lst [V.ref q, .int (z + 1), .int n]) := upd_same
      have hq1 : (upd H p (.lst ([V.ref q, .int z, .int n].set 1 (.int (z + 1))))) q = some (.lst (ns.map V.int)) := by rw [upd_ne npq.symm]; exact hq
      try dsimp only
      refine seq_c ?_
      try dsimp only
      refine seq_after (fun σ' H' => ∃ cell : Int, σ' = [some (.ref p), some (.int m), some (.int z), some (.int cell), none, none, none, none] ∧ H' = upd H p (.lst ([V.ref q, .int z, .int n].set 1 (.int (z + 1))))) ?_ (fun cont => ?_)
      · rintro _ _ ⟨cell, rfl, rfl⟩
        -- one, two, three
        refine ⟨_, rfl, _, _, rfl, rfl, (by decide : (0 : Int) < 998244353), _, rfl, _, _, rfl, rfl, .inl ⟨by decide, by decide⟩, _, _, rfl, rfl, _, _, rfl, rfl, _, _, rfl, rfl, .inr ⟨by decide, by decide⟩, _, _, rfl, rfl, (by decide : (0 : Int) < 2147483647), ?_⟩
        generalize e1 : (cell % 998244353 + 59 * z + 1) * 69621 % 2147483647 = one
        have o0 : 0 ≤ one := by rw [← e1]; exact Int.emod_nonneg _ (by decide)
        have o1 : one < 2147483647 := by rw [← e1]; exact Int.emod_lt_of_pos _ (by decide)
        refine ⟨_, rfl, _, rfl, _, _, rfl, rfl, .inl ⟨by omega, by omega⟩, _, rfl, _, _, rfl, rfl, .inl ⟨by decide, by decide⟩, _, _, rfl, rfl, _, _, rfl, rfl, _, _, rfl, rfl, (by decide : (0 : Int) < 1000000007), ?_⟩
        generalize e2 : (one * one + 16807 * z + 11) % 1000000007 = two
        have t0 : 0 ≤ two := by rw [← e2]; exact Int.emod_nonneg _ (by decide)
        have t1 : two < 1000000007 := by rw [← e2]; exact Int.emod_lt_of_pos _ (by decide)
        refine ⟨_, rfl, _, rfl, _, _, rfl, rfl, .inl ⟨by omega, by omega⟩, _, rfl, _, _, rfl, rfl, _, _, rfl, rfl, (by decide : (0 : Int) < 998244353), ?_⟩
        -- pen[2] = (two * 998244353 + three) // 8 + 1
        refine ⟨_, rfl, _, _, rfl, rfl, .inr ⟨by decide, by decide⟩, _, rfl, _, _, rfl, rfl, _, _, rfl, rfl, ⟨by decide, by decide +kernel⟩, _, _, rfl, rfl, _, rfl, p, _, _, _, rfl, rfl, hp1, rfl, ?_⟩
        rw [upd_upd]
        -- if cell >= 10 ** 18
        refine ⟨_, rfl, _, _, rfl, rfl, ⟨by decide, by decide, by decide⟩, _, _, rfl, rfl, _, rfl, ?_⟩
        refine ite2 (fun _ => ?_) (fun _ => ?_)
        · refine ⟨_, rfl, _, _, rfl, rfl, ⟨by decide, by decide, by decide⟩, _, _, rfl, rfl, ⟨by decide, by decide +kernel⟩, _, rfl, p, _, _, _, rfl, rfl, upd_same, rfl, ?_⟩
          rw [upd_upd]
          exact fin _ _ ⟨z + 1, _, _, _, _, _, _, by omega, rfl, rfl⟩
        · exact fin _ _ ⟨z + 1, _, _, _, _, _, _, by omega, rfl, rfl⟩
      · -- cell
        refine ⟨_, rfl, _, rfl, p, _, _, _, rfl, rfl, SqL.of hp1, rfl, q, _, rfl, .inl (SqL.of hq1), _, _, rfl, rfl, _, rfl, ?_⟩
        refine ite2 (fun h1 => ?_) (fun _ => ?_)
        · have h1 : z < ((ns.map V.int).length : Int) := of_decide_eq_true h1
          rw [List.length_map] at h1
          obtain ⟨c, hc⟩ : ∃ c, ns[z.toNat]? = some c := ⟨ns[z.toNat]'(by omega), by simp⟩
          refine ⟨_, rfl, p, _, _, _, rfl, rfl, SqL.of hp1, rfl, _, rfl, q, _, _, _, rfl, rfl, SqL.of hq1, at_of (j := z.toNat) (v := V.int c) (by omega) (by rw [List.getElem?_map, hc]; rfl), ?_⟩
          exact cont _ _ ⟨c, rfl, rfl⟩
        · refine ⟨_, rfl, p, _, _, _, rfl, rfl, SqL.of hp1, rfl, q, _, rfl, .inl (SqL.of hq1), _, _, rfl, rfl, _, rfl, ?_⟩
          refine ite2 (fun h2 => ?_) (fun _ => ?_)
          · have h2 : (0 : Int) < ((ns.map V.int).length : Int) := of_decide_eq_true h2
            have hl : (ns.map V.int).length = ns.length := List.length_map ..
            have i0 : 0 ≤ z * 7 % ((ns.map V.int).length : Int) := Int.emod_nonneg _ (by omega)
            have i1 : z * 7 % ((ns.map V.int).length : Int) < ((ns.map V.int).length : Int) := Int.emod_lt_of_pos _ h2
            obtain ⟨c, hc⟩ : ∃ c, ns[(z * 7 % ((ns.map V.int).length : Int)).toNat]? = some c := ⟨ns[(z * 7 % ((ns.map V.int).length : Int)).toNat]'(by omega), by simp⟩
            refine ⟨_, rfl, p, _, _, _, rfl, rfl, SqL.of hp1, rfl, _, rfl, _, _, rfl, rfl, .inr ⟨by decide, by decide⟩, _, rfl, p, _, _, _, rfl, rfl, SqL.of hp1, rfl, q, _, rfl, .inl (SqL.of hq1), _, _, rfl, rfl, h2,
              q, _, _, _, rfl, rfl, SqL.of hq1, at_of (j := (z * 7 % ((ns.map V.int).length : Int)).toNat) (v := V.int c) (by omega) (by rw [List.getElem?_map, hc]; rfl), _, _, rfl, rfl, (by decide : (0 : Int) < 1000003), _, rfl, _, _, rfl, rfl, .inl ⟨by decide, by decide⟩, _, _, rfl, rfl, ?_⟩
            exact cont _ _ ⟨_, rfl, rfl⟩
          · exact cont _ _ ⟨0, rfl, rfl⟩
    · exact fin _ _ ⟨z, n, none, none, none, none, none, hz, rfl, (upd_id hp).symm⟩
end
theorem Pen.upd_new {H : Hp} {p q l : Addr} {o : HO} (h : Pen H p q) (hl : H l = none) : Pen (upd H l o) p q := by
  obtain ⟨ns, z, n, hp, hq, hz⟩ := h.ex
  exact ⟨ns, z, n, by rw [upd_ne (ne_of_none hp hl)]; exact hp, by rw [upd_ne (ne_of_none hq hl)]; exact hq, hz⟩
theorem Pen.same {H H' : Hp} {p q : Addr} (h : Pen H p q) (e : Same H H') : Pen H' p q := by
  obtain ⟨ns, z, n, hp, hq, hz⟩ := h.ex
  exact ⟨ns, z, n, e _ _ hp, e _ _ hq, hz⟩
theorem Pen.upd_ne {H : Hp} {p q l : Addr} {o : HO} (h : Pen H p q) (h1 : l ≠ p) (h2 : l ≠ q) : Pen (upd H l o) p q := by
  obtain ⟨ns, z, n, hp, hq, hz⟩ := h.ex
  exact ⟨ns, z, n, by rw [L2.upd_ne h1.symm]; exact hp, by rw [L2.upd_ne h2.symm]; exact hq, hz⟩
theorem Pen.ne {H : Hp} {p q l : Addr} (h : Pen H p q) (hl : H l = none) : l ≠ p ∧ l ≠ q := by
  obtain ⟨ns, z, n, hp, hq, hz⟩ := h.ex
  exact ⟨(ne_of_none hp hl).symm, (ne_of_none hq hl).symm⟩
abbrev abc : Str := Str.ofString "abcdefghijklmnopqrstuvwxyz"
theorem abc_len : abc.length = 26 := by decide +kernel
theorem abc_at {i : Int} (h0 : 0 ≤ i) (h1 : i < 26) : ∃ c, atI abc.cps.toList i = some c ∧ 97 ≤ c ∧ c ≤ 122 := by
  have hl : abc.cps.toList.length = 26 := by decide +kernel
  have ha : ∀ c ∈ abc.cps.toList, 97 ≤ c ∧ c ≤ 122 := by decide +kernel
  exact ⟨_, atI_in h0 (by omega), ha _ (List.getElem_mem _)⟩
def spLetter : Sp := fun vs H Q _ => ∃ (p q : Addr) (m : Int), vs = [.ref p, .int m] ∧ 0 < m ∧ m ≤ 1000000 ∧ Pen H p q ∧ ∀ (c : Nat) (H' : Hp), 97 ≤ c → c ≤ 122 → Pen H' p q → Off p H H' → Q (.str ⟨#[c]⟩) H'
def spPen (K : PySem.W.Frag) : Sp := fun vs H Q _ => ∃ (a : Addr) (ns : List Int), vs = [.ref a] ∧ SqL K H a (ns.map V.int) ∧ ∀ (p q : Addr) (H' : Hp), H p = none → H q = none → Pen H' p q → Same H H' → Q (.ref p) H'
section
variable {P : Program} {w : World} {K : PySem.W.Frag} {mg : Str → Option Value} {base : Heap}
theorem ok_letter (F : FunN K mg "_law_letter" s_law_letter P_law_letter) (T : Bu mg) (c__law_take : Cal P w K mg base 1 "_law_take" P_law_take spTake) : Cal P w K mg base 2 "_law_letter" P_law_letter spLetter := by
  refine cal_of F sc_law_letter (fun vs H Q E h => ?_) (fun f cdv A outer s H vs Q E hr h => ?_)
  · obtain ⟨p, q, m, rfl, _⟩ := h
    rfl
  · obtain ⟨p, q, m, rfl, hm, hm2, pn, k⟩ := h
    refine ⟨_, (@pss_one _ _ _ (@ps_ret _ _ _ _ (@pe_ix _ _ _ _ _ _ _ ix_str pe_str (@pe_op _ _ _ _ _ _ _ _ op_mod (@pe_op _ _ _ _ _ _ _ _ op_add (@pe_op _ _ _ _ _ _ _ _ op_mul (@pe_cal _ _ _ _ _ _ _ _ _ _ c__law_take (hr.mono (by decide)) (by rfl) (@pa_cons _ _ _ _ _ (@pv _ 0 _ _ (by rfl) (by first | exact Or.inl rfl | exact Or.inr (Or.inl rfl) | exact Or.inr (Or.inr rfl)) (by decide) (by decide)) (@pa_cons _ _ _ _ _ (@pv _ 1 _ _ (by rfl) (by first | exact Or.inl rfl | exact Or.inr (Or.inl rfl) | exact Or.inr (Or.inr rfl)) (by decide) (by decide)) pa_nil (by rfl)) (by rfl)) (by decide) (by rfl) (by rfl)) pe_int) (@pe_op _ _ _ _ _ _ _ _ op_mul pe_int (@pe_callTy _ _ _ _ _ _ _ _ _ call_int1 (by rfl) T.n_int (by decide +kernel) (@pa_cons _ _ _ _ _ (@pe_cmpR _ _ _ _ _ _ _ _ op_lt (@pv _ 1 _ _ (by rfl) (by first | exact Or.inl rfl | exact Or.inr (Or.inl rfl) | exact Or.inr (Or.inr rfl)) (by decide) (by decide)) pe_int (nomark _)) pa_nil (by rfl)) (by decide) (by decide) (by rfl) (by rfl)))) pe_int) (fun _ _ => rfl)))), ?_⟩
    refine ⟨_, rfl, _, rfl, p, q, m, rfl, hm, hm2, pn, fun r H' h0 h1 pn' off => ?_⟩
    have b0 : ∀ b : Bool, 0 ≤ (r * 7 + 25 * (if b = true then 1 else 0)) % 26 := fun b => Int.emod_nonneg _ (by decide)
    have b1 : ∀ b : Bool, (r * 7 + 25 * (if b = true then 1 else 0)) % 26 < 26 := fun b => Int.emod_lt_of_pos _ (by decide)
    obtain ⟨c, hc, hc1, hc2⟩ := abc_at (b0 (decide (m < 5))) (b1 (decide (m < 5)))
    refine ⟨_, _, rfl, rfl, .inr ⟨by decide, by decide⟩, _, rfl, _, _, rfl, rfl, .inr ⟨_, rfl, _, _, rfl, rfl, .inl ⟨by decide, by decide⟩, _, _, rfl, rfl, _, _, rfl, rfl, (by decide : (0 : Int) < 26), _, _, c, rfl, rfl, (by rw [abc_len, szl]; decide), hc, ?_⟩⟩
    exact k c H' hc1 hc2 pn' off
theorem ok_pen (F : FunN K mg "_law_pen" s_law_pen P_law_pen) (T : Bu mg) : Cal P w K mg base 1 "_law_pen" P_law_pen (spPen K) := by
  refine cal_of F sc_law_pen (fun vs H Q E h => ?_) (fun f cdv A outer s H vs Q E hr h => ?_)
  · obtain ⟨a, ns, rfl, _⟩ := h
    rfl
  · obtain ⟨a, ns, rfl, hs, k⟩ := h
    refine ⟨_, (@pss_one _ _ _ (@ps_ret _ _ _ _ (@pe_lst _ _ _ _ (@pa_cons _ _ _ _ _ (@pe_callTy _ _ _ _ _ _ _ _ _ call_list_of (by rfl) T.n_list (by decide +kernel) (@pa_cons _ _ _ _ _ (@pe_slice _ _ _ _ _ _ _ _ _ _ sl_list (@pv _ 0 _ _ (by rfl) (by first | exact Or.inl rfl | exact Or.inr (Or.inl rfl) | exact Or.inr (Or.inr rfl)) (by decide) (by decide)) po_none (@po_some _ _ _ pe_int)) pa_nil (by rfl)) (by decide) (by decide) (by rfl) (by rfl)) (@pa_cons _ _ _ _ _ pe_int (@pa_cons _ _ _ _ _ pe_int pa_nil (by rfl)) (by rfl)) (by rfl))))), ?_⟩
    refine ⟨_, rfl, _, rfl, a, _, rfl, hs, fun l hl => ?_⟩
    refine ⟨l, _, rfl, .inl (SqL.of upd_same), fun l2 hl2 => ?_⟩
    refine ⟨by rw [szl]; show 3 ≤ 16777216; decide, fun p hp => ?_⟩
    have e : cutV (ns.map V.int) none (some 63) = ((ns.take 63)).map V.int := by
      unfold cutV
      rw [sIx_int _ _ _ (by decide)]
      show List.take (min 63 (ns.map V.int).length - 0) (List.drop 0 (ns.map V.int)) = _
      rw [List.drop_zero, List.map_take, List.length_map]
      by_cases h : ns.length ≤ 63
      · rw [Nat.min_eq_right h, List.take_of_length_le (by simp), List.take_of_length_le (by simpa using h)]
      · rw [Nat.min_eq_left (by omega)]
    have n2 : l2 ≠ p := ne_of_none upd_same hp
    have hpl : H p = none := (Same.trans (Same.upd_new hl) (Same.upd_new hl2)).free hp
    refine k p l2 _ hpl ((Same.upd_new hl).free hl2) ⟨ns.take 63, 0, 0, upd_same, by rw [upd_ne n2, upd_same, e], by decide⟩ ((Same.upd_new hl).trans ((Same.upd_new hl2).trans (Same.upd_new hp)))
end
end K55

set_option Elab.async false
set_option linter.all false
set_option maxRecDepth 100000
set_option maxHeartbeats 1000000
namespace K55
open PySem L2
def isl (c : Nat) : Bool := decide (97 ≤ c) && decide (c ≤ 122)
theorem lt1 (a b : Nat) : (([a] : List Nat) < [b]) ↔ a < b := by
  rw [List.cons_lt_cons_iff]
  constructor
  · rintro (h | ⟨_, h⟩)
    · exact h
    · exact absurd h (List.lt_irrefl _)
  · exact .inl
def spIsLet : Sp := fun vs H Q _ => ∃ c : Nat, vs = [.str ⟨#[c]⟩] ∧ Q (.bl (isl c)) H
/-- the test 'a' <= sign <= 'z' -/
theorem az (c : Nat) : (if (!decide (([c] : List Nat) < (Str.ofString "a").cps.toList)) = true then !decide ((Str.ofString "z").cps.toList < ([c] : List Nat)) else false) = isl c := by
  have e1 : (Str.ofString "a").cps.toList = [97] := by decide +kernel
  have e2 : (Str.ofString "z").cps.toList = [122] := by decide +kernel
  rw [e1, e2]
  unfold isl
  rw [show decide (([c] : List Nat) < [97]) = decide (c < 97) from decide_eq_decide.mpr (lt1 _ _), show decide (([122] : List Nat) < [c]) = decide (122 < c) from decide_eq_decide.mpr (lt1 _ _)]
  by_cases h1 : c < 97
  · simp [h1]; omega
  · by_cases h2 : 122 < c
    · simp [h1, h2]
    · simp [h1, h2]; omega
section
variable {P : Program} {w : World} {K : PySem.W.Frag} {mg : Str → Option Value} {base : Heap}
theorem ok_isLet (F : FunN K mg "is_letter" s_is_letter P_is_letter) (T : Bu mg) : Cal P w K mg base 1 "is_letter" P_is_letter spIsLet := by
  refine cal_of F sc_is_letter (fun vs H Q E h => ?_) (fun f cdv A outer s H vs Q E hr h => ?_)
  · obtain ⟨c, rfl, _⟩ := h
    rfl
  · obtain ⟨c, rfl, k⟩ := h
    refine ⟨_, (@pss_one _ _ _ (@ps_ret _ _ _ _ (@pe_chain _ _ _ _ _ _ _ _ _ _ _ _ op_le_str op_le_str pe_str (@pv _ 0 _ _ (by rfl) (by first | exact Or.inl rfl | exact Or.inr (Or.inl rfl) | exact Or.inr (Or.inr rfl)) (by decide) (by decide)) pe_str (by with_unfolding_all rfl)))), ?_⟩
    have ea := az c
    refine ⟨_, rfl, _, _, rfl, rfl, _, rfl, ?_⟩
    refine ite2 (fun h1 => ?_) (fun h1 => ?_)
    · rw [if_pos h1] at ea
      refine ⟨_, _, rfl, rfl, ?_⟩
      show Q (.bl _) H
      rw [ea]
      exact k
    · rw [if_neg h1] at ea
      show Q (.bl false) H
      rw [ea]
      exact k
end
def letL : List Nat → Bool
  | [c] => isl c
  | _ => false
def letD : PyData → Bool
  | .str s => letL (cs s)
  | _ => false
theorem one_of {s : Str} (h : s.length = 1) : ∃ c, s = ⟨#[c]⟩ := by
  have hl : (cs s).length = 1 := by rw [cs_len]; exact h
  match e : cs s, hl with
  | [c], _ => exact ⟨c, cs_inj (by rw [e])⟩
theorem letD_len {s : Str} (h : s.length ≠ 1) : letD (.str s) = false := by
  have hl : (cs s).length ≠ 1 := by rw [cs_len]; exact h
  show letL (cs s) = false
  match cs s, hl with
  | [], _ => rfl
  | [c], hl => exact absurd rfl hl
  | _ :: _ :: _, _ => rfl
end K55

set_option Elab.async false
set_option linter.all false
set_option maxRecDepth 100000
set_option maxHeartbeats 1000000
namespace K55
open PySem L2
def nmV (x : Str) : V := match numW (cs x) with
  | some n => .int (n : Int)
  | none => .non
def spNum : Sp := fun vs H Q _ => ∃ x : Str, vs = [.str x] ∧ x.length ≤ 100000 ∧ ∀ H', Same H H' → Q (nmV x) H'
/-- a text of one letter, asked of a text -/
def spOneS : Sp := fun vs H Q _ => ∃ x : Str, vs = [.str x] ∧ x.length ≤ 100000 ∧ Q (.bl (letL (cs x))) H
theorem num_none {x : Str} (h : (cs x).length = 0 ∨ 3 < (cs x).length ∨ (cs x).all isDg = false ∨ ((cs x).head? = some 48 ∧ cs x ≠ [48])) : nmV x = .non := by
  unfold nmV numW
  rw [if_pos h]
theorem num_some {x : Str} (h1 : 1 ≤ (cs x).length) (h3 : (cs x).length ≤ 3) (ha : (cs x).all isDg = true) (h0 : ¬ ((cs x).head? = some 48 ∧ cs x ≠ [48])) : nmV x = .int ((digV (cs x) : Nat) : Int) := by
  unfold nmV numW
  rw [if_neg (by rintro (h | h | h | h) <;> first | omega | (rw [ha] at h; cases h) | exact h0 h)]
theorem figs : cs (Str.ofString "0123456789") = [48, 49, 50, 51, 52, 53, 54, 55, 56, 57] := by decide +kernel
theorem occ_sub (a y : Str) : (Builtin.Str.occurrences a y 0 a.length 1).isEmpty = false ↔ ∃ i, i + y.length ≤ a.length ∧ sub (cs a) i y.length = cs y := by
  have h := occ_to a y a.length
  have atI : ∀ j, StrLaws.At a y a.length j ↔ j + y.length ≤ a.length ∧ sub (cs a) j y.length = cs y := fun j => by
    unfold StrLaws.At
    rw [PySem.StrLaws.subAt_eq, beq_iff_eq]
    rfl
  cases e : Builtin.Str.occurrences a y 0 a.length 1 with
  | nil =>
    rw [e] at h
    rcases h with ⟨_, h⟩ | ⟨i, h, _⟩
    · refine ⟨(fun z => by cases z), ?_⟩
      rintro ⟨i, hi⟩
      exact absurd ((atI i).mpr hi) (h i)
    · have : (-1 : Int) = (i : Int) := h
      omega
  | cons b l =>
    rw [e] at h
    rcases h with ⟨h, _⟩ | ⟨i, _, h, _⟩
    · have : (b : Int) = -1 := h
      omega
    · exact ⟨fun _ => ⟨i, (atI i).mp h⟩, fun _ => rfl⟩
theorem fig_in (c : Nat) : (!(Builtin.Str.occurrences (Str.ofString "0123456789") (⟨#[c]⟩ : Str) 0 (Str.ofString "0123456789").length 1).isEmpty) = isDg c := by
  have h := occ_sub (Str.ofString "0123456789") (⟨#[c]⟩ : Str)
  have hl : (Str.ofString "0123456789").length = 10 := by decide +kernel
  have h1 : (⟨#[c]⟩ : Str).length = 1 := rfl
  rw [figs, h1, hl] at h
  have hm : (∃ i, i + 1 ≤ 10 ∧ sub [48, 49, 50, 51, 52, 53, 54, 55, 56, 57] i 1 = cs (⟨#[c]⟩ : Str)) ↔ isDg c = true := by
    have ec : cs (⟨#[c]⟩ : Str) = [c] := rfl
    rw [ec]
    unfold isDg
    rw [decide_eq_true_iff]
    constructor
    · rintro ⟨i, hi, e⟩
      have : i = 0 ∨ i = 1 ∨ i = 2 ∨ i = 3 ∨ i = 4 ∨ i = 5 ∨ i = 6 ∨ i = 7 ∨ i = 8 ∨ i = 9 := by omega
      rcases this with rfl | rfl | rfl | rfl | rfl | rfl | rfl | rfl | rfl | rfl <;> (simp [sub] at e; omega)
    · rintro ⟨h1, h2⟩
      refine ⟨c - 48, by omega, ?_⟩
      have : c = 48 ∨ c = 49 ∨ c = 50 ∨ c = 51 ∨ c = 52 ∨ c = 53 ∨ c = 54 ∨ c = 55 ∨ c = 56 ∨ c = 57 := by omega
      rcases this with rfl | rfl | rfl | rfl | rfl | rfl | rfl | rfl | rfl | rfl <;> rfl
  rw [hl]
  cases e : (Builtin.Str.occurrences (Str.ofString "0123456789") (⟨#[c]⟩ : Str) 0 10 1).isEmpty with
  | false =>
    rw [hm.mp (h.mp e)]
    rfl
  | true =>
    cases q : isDg c with
    | false => rfl
    | true => rw [h.mpr (hm.mpr q)] at e; cases e
section
variable {P : Program} {w : World} {K : PySem.W.Frag} {mg : Str → Option Value} {base : Heap}
theorem ok_num (F : FunN K mg "read_number" s_read_number P_read_number) (T : Bu mg) : Cal P w K mg base 1 "read_number" P_read_number spNum := by
  refine cal_of F sc_read_number (fun vs H Q E h => ?_) (fun f cdv A outer s H vs Q E hr h => ?_)
  · obtain ⟨x, rfl, _⟩ := h
    rfl
  · obtain ⟨x, rfl, hx, k⟩ := h
    have hS : sizeLine = 16777216 := szl
    obtain ⟨tk, h_MOST_FIGURES⟩ := T.c_MOST_FIGURES
    obtain ⟨tk2, h_FIGURES⟩ := T.c_FIGURES
    have hcl := cs_len x
    refine ⟨_, (@pss_cons _ _ _ _ _ (@ps_if _ _ _ _ _ _ _ _ (@PW.pt _ _ _ (@pw_or _ _ _ _ _ _ _ (@pt_not _ _ _ _ (@pt_chain _ _ _ _ _ _ _ _ _ _ _ _ op_le op_le pe_int (@pe_callB _ _ _ _ _ _ _ _ _ call_len_str (by rfl) T.n_len (by decide +kernel) (@pa_cons _ _ _ _ _ (@pv _ 0 _ _ (by rfl) (by first | exact Or.inl rfl | exact Or.inr (Or.inl rfl) | exact Or.inr (Or.inr rfl)) (by decide) (by decide)) pa_nil (by rfl)) (by decide) (by decide) (by rfl) (by rfl)) (@pe_glob _ _ (V.int 3) _ _ (by rfl) h_MOST_FIGURES ⟨_, rfl⟩ (by decide)) (by with_unfolding_all rfl))) (@pw_or1 _ _ _ _ (@pt_not _ _ _ _ (@pt_val _ _ _ (@pe_callB _ _ _ _ _ _ _ _ _ (cr_all rfl) (by rfl) T.n_all (by decide +kernel) (@pa_cons _ _ _ _ _ (@pe_lc _ _ _ _ _ _ ([("sign", 1)]) _ _ (gName 1) _ _ (by rfl) sc_read_number.nd (@pi_str _ _ _ _ (@pv _ 0 _ _ (by rfl) (by first | exact Or.inl rfl | exact Or.inr (Or.inl rfl) | exact Or.inr (Or.inr rfl)) (by decide) (by decide))) (@blkOk_by (N_read_number) (defScope s_read_number) _ ([("sign", 1)]) (by decide +kernel)) (fun _ _ _ _ _ => pg_name (i := 1) sc_read_number.nd rfl (Or.inl rfl)) (fun _ _ _ _ _ => pts_nil) (fun _ _ _ _ _ => (@pe_cmpR _ _ _ _ _ _ _ _ op_in_str (@pv _ 1 _ _ (by rfl) (by first | exact Or.inl rfl | exact Or.inr (Or.inl rfl) | exact Or.inr (Or.inr rfl)) (by decide) (by decide)) (@pe_glob _ _ (V.str "0123456789") _ _ (by rfl) h_FIGURES ⟨_, rfl⟩ (by decide)) (by with_unfolding_all rfl))) (by intro _; rfl)) pa_nil (by rfl)) (by decide) (by decide) (by rfl) (by rfl)) (by intro _; rfl)))))) (@pss_one _ _ _ (@ps_ret _ _ _ _ pe_non)) pss_nil) (@pss_cons _ _ _ _ _ (@ps_if _ _ _ _ _ _ _ _ (@PW.pt _ _ _ (@pw_and _ _ _ _ _ _ _ (@pt_cmpR _ _ _ _ _ _ _ _ op_eq (@pe_ix _ _ _ _ _ _ _ ix_str (@pv _ 0 _ _ (by rfl) (by first | exact Or.inl rfl | exact Or.inr (Or.inl rfl) | exact Or.inr (Or.inr rfl)) (by decide) (by decide)) pe_int (fun _ _ => rfl)) pe_str (nomark _)) (@pw_and1 _ _ _ _ (@pt_cmpR _ _ _ _ _ _ _ _ op_ne (@pv _ 0 _ _ (by rfl) (by first | exact Or.inl rfl | exact Or.inr (Or.inl rfl) | exact Or.inr (Or.inr rfl)) (by decide) (by decide)) pe_str (nomark _))))) (@pss_one _ _ _ (@ps_ret _ _ _ _ pe_non)) pss_nil) (@pss_one _ _ _ (@ps_ret _ _ _ _ (@pe_callTy _ _ _ _ _ _ _ _ _ call_int_str (by rfl) T.n_int (by decide +kernel) (@pa_cons _ _ _ _ _ (@pv _ 0 _ _ (by rfl) (by first | exact Or.inl rfl | exact Or.inr (Or.inl rfl) | exact Or.inr (Or.inr rfl)) (by decide) (by decide)) pa_nil (by rfl)) (by decide) (by decide) (by rfl) (by rfl)))))), ?_⟩
    refine ⟨_, rfl, x, rfl, by omega, _, _, rfl, rfl, _, rfl, ?_⟩
    have none_ : ∀ H', Same H H' → ((cs x).length = 0 ∨ 3 < (cs x).length ∨ (cs x).all isDg = false ∨ ((cs x).head? = some 48 ∧ cs x ≠ [48])) → Q .non H' := fun H' sm h => by
      have := k H' sm
      rwa [num_none h] at this
    refine ite2 (fun h1 => ?_) (fun h1 => ?_)
    rotate_left
    · have h1' : ¬ (1 : Int) ≤ (x.length : Int) := fun z => h1 (decide_eq_true z)
      refine ⟨_, rfl, ?_⟩
      refine ite2 (fun _ => ?_) (fun h => absurd rfl h)
      exact none_ H (.refl _) (.inl (by omega))
    have h1 : (1 : Int) ≤ (x.length : Int) := of_decide_eq_true h1
    refine ⟨_, _, rfl, rfl, _, rfl, ?_⟩
    refine ite2 (fun h3 => ?_) (fun h3 => ?_)
    · have h3 : ¬ (x.length : Int) ≤ 3 := fun z => by rw [decide_eq_true z] at h3; cases h3
      exact none_ H (.refl _) (.inr (.inl (by omega)))
    have h3 : (x.length : Int) ≤ 3 := by
      by_cases q : (x.length : Int) ≤ 3
      · exact q
      · rw [decide_eq_false q] at h3; exact absurd rfl h3
    refine ⟨_, rfl, x, rfl, fun D hD => ?_⟩
    refine lc_str (x := x) (fun i H' => Same H H' ∧ H' D = some (.lst ((((cs x).take i).map isDg).map V.bl))) ⟨Same.upd_new hD, upd_same⟩ ?_ ?_
    · rintro i c H1 hi ⟨s1, hD1⟩
      have hil : i < (cs x).length := (List.getElem?_eq_some_iff.mp hi).1
      refine ⟨rfl, _, rfl, _, _, rfl, rfl, ?_⟩
      rw [fig_in]
      refine ⟨_, hD1, by rw [List.length_map, List.length_map, List.length_take]; omega, fun b o hb => ?_, ?_⟩
      · rw [upd_ne (ne_of_none hb hD)]
        exact s1 _ _ hb
      · have hi' : (cs x)[i]? = some c := hi
        rw [upd_same, List.take_succ, hi', List.map_append, List.map_append]
        rfl
    rintro H1 ⟨s1, hD1⟩
    rw [show x.cps.toList.length = (cs x).length from rfl, List.take_of_length_le (Nat.le_refl _)] at hD1
    refine ⟨D, _, rfl, SqL.of hD1, _, rfl, ?_⟩
    have eall : ((cs x).map isDg).all id = (cs x).all isDg := by rw [List.all_map]; rfl
    rw [eall]
    refine ite2 (fun ha => ?_) (fun ha => ?_)
    · have ha : (cs x).all isDg = false := by simpa using ha
      exact none_ H1 s1 (.inr (.inr (.inl ha)))
    have ha : (cs x).all isDg = true := by simpa using ha
    try unfold tNext
    try dsimp only
    obtain ⟨c, l, hcl2⟩ : ∃ c l, cs x = c :: l := by
      match e : cs x with
      | [] => rw [e] at hcl; exfalso; have : (0 : Nat) = x.length := hcl; omega
      | c :: l => exact ⟨c, l, rfl⟩
    have hat : atI x.cps.toList 0 = some c := atI_nat (j := 0) (by show (cs x)[0]? = _; rw [hcl2]; rfl)
    have d0 : cs (Str.ofString "0") = [48] := by decide +kernel
    have e0 : decide (V.str ⟨#[c]⟩ = V.str (Str.ofString "0")) = decide (c = 48) := decide_eq_decide.mpr ⟨fun h => by
      have := congrArg cs (V.str.inj h)
      rw [d0] at this
      exact (List.cons.inj this).1, fun h => by subst h; exact congrArg V.str (cs_inj (by rw [d0]))⟩
    have e1 : decide (V.str x = V.str (Str.ofString "0")) = decide (cs x = [48]) := decide_eq_decide.mpr ⟨fun h => by
      rw [V.str.inj h, d0], fun h => congrArg V.str (cs_inj (by rw [h, d0]))⟩
    have done : ¬ ((cs x).head? = some 48 ∧ cs x ≠ [48]) → ∃ (a : Str) (n : Int), [V.str x] = [V.str a] ∧ PySem.intText? a = some n ∧ a.length ≤ 640 ∧ Q (.int n) H1 := fun h0 => by
      refine ⟨x, _, rfl, int_dig (by omega) (by omega) ha, by omega, ?_⟩
      have := k H1 s1
      rwa [num_some (by omega) (by omega) ha h0] at this
    refine ⟨_, rfl, x, 0, c, rfl, rfl, by omega, hat, rfl, _, rfl, ?_⟩
    rw [e0]
    refine ite2 (fun h => ?_) (fun h => ?_)
    · have h : c = 48 := of_decide_eq_true h
      subst h
      refine ⟨_, rfl, rfl, _, rfl, ?_⟩
      rw [e1]
      refine ite2 (fun h => ?_) (fun h => ?_)
      · have h : cs x ≠ [48] := by simpa using h
        exact none_ H1 s1 (.inr (.inr (.inr ⟨by rw [hcl2]; rfl, h⟩)))
      · have h : cs x = [48] := by simpa using h
        exact ⟨_, rfl, done fun z => z.2 h⟩
    · have h : c ≠ 48 := fun z => h (decide_eq_true z)
      exact ⟨_, rfl, done fun z => h (by have := z.1; rw [hcl2] at this; exact Option.some.inj this)⟩
theorem ok_oneS (F : FunN K mg "is_one_letter" s_is_one_letter P_is_one_letter) (T : Bu mg) (c_is_letter : Cal P w K mg base 1 "is_letter" P_is_letter spIsLet) : Cal P w K mg base 2 "is_one_letter" P_is_one_letter spOneS := by
  refine cal_of F sc_is_one_letter (fun vs H Q E h => ?_) (fun f cdv A outer s H vs Q E hr h => ?_)
  · obtain ⟨x, rfl, _⟩ := h
    rfl
  · obtain ⟨x, rfl, hx, k⟩ := h
    have hS : sizeLine = 16777216 := szl
    refine ⟨_, (@pss_one _ _ _ (@ps_ret _ _ _ _ (@pe_and _ _ _ _ _ _ _ (@pe_callB _ _ _ _ _ _ _ _ _ call_isi (by rfl) T.n_isinstance (by decide +kernel) (@pa_cons _ _ _ _ _ (@pv _ 0 _ _ (by rfl) (by first | exact Or.inl rfl | exact Or.inr (Or.inl rfl) | exact Or.inr (Or.inr rfl)) (by decide) (by decide)) (@pa_cons _ _ _ _ _ (@pe_bltn _ _ (V.ty "str") _ _ (by rfl) T.n_str (by decide +kernel) rfl (by decide) (by decide)) pa_nil (by rfl)) (by rfl)) (by decide) (by decide) (by rfl) (by rfl)) (@pe_and _ _ _ _ _ _ _ (@pe_cmpR _ _ _ _ _ _ _ _ op_eq (@pe_callB _ _ _ _ _ _ _ _ _ call_len_str (by rfl) T.n_len (by decide +kernel) (@pa_cons _ _ _ _ _ (@pv _ 0 _ _ (by rfl) (by first | exact Or.inl rfl | exact Or.inr (Or.inl rfl) | exact Or.inr (Or.inr rfl)) (by decide) (by decide)) pa_nil (by rfl)) (by decide) (by decide) (by rfl) (by rfl)) pe_int (nomark _)) (@pe_one _ _ _ _ _ (@pe_cal _ _ _ _ _ _ _ _ _ _ c_is_letter (hr.mono (by decide)) (by rfl) (@pa_cons _ _ _ _ _ (@pv _ 0 _ _ (by rfl) (by first | exact Or.inl rfl | exact Or.inr (Or.inl rfl) | exact Or.inr (Or.inr rfl)) (by decide) (by decide)) pa_nil (by rfl)) (by decide) (by rfl) (by rfl))))))), ?_⟩
    refine ⟨_, rfl, _, _, _, _, rfl, .str x, kit_str_str, _, rfl, ?_⟩
    refine ite2 (fun _ => ?_) (fun h => absurd rfl h)
    refine ⟨_, rfl, x, rfl, by omega, rfl, _, rfl, ?_⟩
    refine ite2 (fun h => ?_) (fun h => ?_)
    · have h1 : x.length = 1 := by have := V.int.inj (of_decide_eq_true h); omega
      obtain ⟨c, rfl⟩ := one_of h1
      exact ⟨_, rfl, c, rfl, k⟩
    · have h1 : x.length ≠ 1 := fun z => h (decide_eq_true (by rw [z]; rfl))
      have h0 : decide (V.int (x.length : Int) = V.int 1) = false := by cases q : decide (V.int (x.length : Int) = V.int 1) with | false => rfl | true => exact absurd q h
      have e := letD_len h1
      have e : letL (cs x) = false := e
      rw [e] at k
      first | exact k | (rw [h0]; exact k)
end
end K55

set_option Elab.async false
set_option linter.all false
set_option maxRecDepth 100000
set_option maxHeartbeats 1000000
namespace K55
open PySem L2
def Asc (x : Str) : Prop := ∀ c ∈ cs x, c ≤ 127
theorem Asc.ok {x : Str} (h : Asc x) : PyData.strOk x = true := by
  unfold PyData.strOk
  rw [Array.all_eq_true']
  intro c hc
  have := h c (by simpa using hc)
  exact decide_eq_true (by omega)
theorem flat_strsA (ns : List Str) (h : ∀ n ∈ ns, Asc n) : PyData.canLayAll0 (ns.map PyData.str) = true ∧ PyData.depthAll (ns.map PyData.str) = 0 := by
  induction ns with
  | nil => exact ⟨rfl, rfl⟩
  | cons n ns ih =>
    have i := ih fun m hm => h m (List.mem_cons_of_mem _ hm)
    exact ⟨by simp [PyData.canLayAll0, PyData.canLay0, i.1, (h n List.mem_cons_self).ok], by simp [PyData.depthAll, PyData.depth, i.2]⟩
theorem shapedL_strsA (ns : List Str) (h : ∀ n ∈ ns, Asc n) : SeqAt.shaped (.list (ns.map PyData.str)) = true := by
  unfold SeqAt.shaped
  simp [PyData.canLay0, PyData.depth, flat_strsA ns h]
theorem dz (c : Nat) : (if (!decide (([c] : List Nat) < (Str.ofString "0").cps.toList)) = true then !decide ((Str.ofString "9").cps.toList < ([c] : List Nat)) else false) = isDg c := by
  have e1 : (Str.ofString "0").cps.toList = [48] := by decide +kernel
  have e2 : (Str.ofString "9").cps.toList = [57] := by decide +kernel
  rw [e1, e2]
  unfold isDg
  rw [show decide (([c] : List Nat) < [48]) = decide (c < 48) from decide_eq_decide.mpr (lt1 _ _), show decide (([57] : List Nat) < [c]) = decide (57 < c) from decide_eq_decide.mpr (lt1 _ _)]
  by_cases h1 : c < 48
  · simp [h1]; omega
  · by_cases h2 : 57 < c
    · simp [h1, h2]
    · simp [h1, h2]; omega
abbrev spS : Str := ⟨#[32]⟩
/-- the item that a word writes -/
def oriW (x : Str) : Option Ori := match cs x with
  | [c] => if isl c = true then some (.inl c) else (numW [c]).map .inr
  | l => (numW l).map .inr
def itO (x : Str) : Ori := (oriW x).getD (.inl 97)
theorem ori_let {x : Str} (h : letL (cs x) = true) : ∃ c, isl c = true ∧ x = ⟨#[c]⟩ ∧ oriW x = some (.inl c) := by
  match e : cs x, h with
  | [c], h =>
    have h : isl c = true := h
    refine ⟨c, h, cs_inj (by rw [e]), ?_⟩
    unfold oriW
    rw [e]
    simp [h]
/-- the words of a line, the lines of a text -/
def wds (l : Str) : List Str := Txt.split l spS
theorem wds_pos (l : Str) : 1 ≤ (wds l).length := by
  rcases Nat.eq_zero_or_pos (wds l).length with e | e
  · exact absurd (List.length_eq_zero_iff.mp e) (split_ne _ _)
  · exact e
end K55

set_option Elab.async false
set_option linter.all false
set_option maxRecDepth 100000
set_option maxHeartbeats 1000000
namespace K55
open PySem L2
theorem log_small (n : Nat) (h : n < 1000) : ((n : Nat) : Int).natAbs.log2 < 1920 := by
  rw [Int.natAbs_natCast]
  exact Nat.lt_of_le_of_lt (Nat.log2_le_self n) (by omega)
def spLNum : Sp := fun vs H Q _ => ∃ x : Str, vs = [.str x] ∧ x.length ≤ 100000 ∧ Asc x ∧ ∀ H', Same H H' → Q (nmV x) H'
section
variable {P : Program} {w : World} {K : PySem.W.Frag} {mg : Str → Option Value} {base : Heap}
theorem ok_lnum (F : FunN K mg "_law_number" s_law_number P_law_number) (T : Bu mg) : Cal P w K mg base 1 "_law_number" P_law_number spLNum := by
  refine cal_of F sc_law_number (fun vs H Q E h => ?_) (fun f cdv A outer s H vs Q E hr h => ?_)
  · obtain ⟨x, rfl, _⟩ := h
    rfl
  · obtain ⟨x, rfl, hx, hasc, k⟩ := h
    have hS : sizeLine = 16777216 := szl
    have hcl := cs_len x
    refine ⟨_, (@pss_cons _ _ _ _ _ (@ps_if _ _ _ _ _ _ _ _ (@PW.pt _ _ _ (@pw_or _ _ _ _ _ _ _ (@pt_not _ _ _ _ (@pt_chain _ _ _ _ _ _ _ _ _ _ _ _ op_le op_le pe_int (@pe_callB _ _ _ _ _ _ _ _ _ call_len_str (by rfl) T.n_len (by decide +kernel) (@pa_cons _ _ _ _ _ (@pv _ 0 _ _ (by rfl) (by first | exact Or.inl rfl | exact Or.inr (Or.inl rfl) | exact Or.inr (Or.inr rfl)) (by decide) (by decide)) pa_nil (by rfl)) (by decide) (by decide) (by rfl) (by rfl)) pe_int (by with_unfolding_all rfl))) (@pw_or1 _ _ _ _ (@pt_cmpR _ _ _ _ _ _ _ _ (op_neD hr.units) (@pe_lc _ _ _ _ _ _ ([("sign", 1)]) _ _ (gName 1) _ _ (by rfl) sc_law_number.nd (@pi_str _ _ _ _ (@pv _ 0 _ _ (by rfl) (by first | exact Or.inl rfl | exact Or.inr (Or.inl rfl) | exact Or.inr (Or.inr rfl)) (by decide) (by decide))) (@blkOk_by (N_law_number) (defScope s_law_number) _ ([("sign", 1)]) (by decide +kernel)) (fun _ _ _ _ _ => pg_name (i := 1) sc_law_number.nd rfl (Or.inl rfl)) (fun _ _ _ _ _ => (@pts_one _ _ _ (@pt_not _ _ _ _ (@pt_chain _ _ _ _ _ _ _ _ _ _ _ _ op_le_str op_le_str pe_str (@pv _ 1 _ _ (by rfl) (by first | exact Or.inl rfl | exact Or.inr (Or.inl rfl) | exact Or.inr (Or.inr rfl)) (by decide) (by decide)) pe_str (by with_unfolding_all rfl))))) (fun _ _ _ _ _ => (@pv _ 1 _ _ (by rfl) (by first | exact Or.inl rfl | exact Or.inr (Or.inl rfl) | exact Or.inr (Or.inr rfl)) (by decide) (by decide))) (by intro _; rfl)) (@pe_lst _ _ _ _ pa_nil) (nomark _))))) (@pss_one _ _ _ (@ps_ret _ _ _ _ pe_non)) pss_nil) (@pss_cons _ _ _ _ _ (@ps_if _ _ _ _ _ _ _ _ (@pt_cmpR _ _ _ _ _ _ _ _ op_ne (@pv _ 0 _ _ (by rfl) (by first | exact Or.inl rfl | exact Or.inr (Or.inl rfl) | exact Or.inr (Or.inr rfl)) (by decide) (by decide)) (@pe_callTy _ _ _ _ _ _ _ _ _ call_strA (by rfl) T.n_str (by decide +kernel) (@pa_cons _ _ _ _ _ (@pe_callTy _ _ _ _ _ _ _ _ _ call_int_str (by rfl) T.n_int (by decide +kernel) (@pa_cons _ _ _ _ _ (@pv _ 0 _ _ (by rfl) (by first | exact Or.inl rfl | exact Or.inr (Or.inl rfl) | exact Or.inr (Or.inr rfl)) (by decide) (by decide)) pa_nil (by rfl)) (by decide) (by decide) (by rfl) (by rfl)) pa_nil (by rfl)) (by decide) (by decide) (by rfl) (by rfl)) (nomark _)) (@pss_one _ _ _ (@ps_ret _ _ _ _ pe_non)) pss_nil) (@pss_one _ _ _ (@ps_ret _ _ _ _ (@pe_callTy _ _ _ _ _ _ _ _ _ call_int_str (by rfl) T.n_int (by decide +kernel) (@pa_cons _ _ _ _ _ (@pv _ 0 _ _ (by rfl) (by first | exact Or.inl rfl | exact Or.inr (Or.inl rfl) | exact Or.inr (Or.inr rfl)) (by decide) (by decide)) pa_nil (by rfl)) (by decide) (by decide) (by rfl) (by rfl)))))), ?_⟩
    have none_ : ∀ H', Same H H' → ((cs x).length = 0 ∨ 3 < (cs x).length ∨ (cs x).all isDg = false ∨ ((cs x).head? = some 48 ∧ cs x ≠ [48])) → Q .non H' := fun H' sm h => by
      have := k H' sm
      rwa [num_none h] at this
    refine ⟨_, rfl, x, rfl, by omega, _, _, rfl, rfl, _, rfl, ?_⟩
    refine ite2 (fun h1 => ?_) (fun h1 => ?_)
    rotate_left
    · have h1' : ¬ (1 : Int) ≤ (x.length : Int) := fun z => h1 (decide_eq_true z)
      refine ⟨_, rfl, ?_⟩
      refine ite2 (fun _ => ?_) (fun h => absurd rfl h)
      exact none_ H (.refl _) (.inl (by omega))
    have h1 : (1 : Int) ≤ (x.length : Int) := of_decide_eq_true h1
    refine ⟨_, _, rfl, rfl, _, rfl, ?_⟩
    refine ite2 (fun h3 => ?_) (fun h3 => ?_)
    · have h3 : ¬ (x.length : Int) ≤ 3 := fun z => by rw [decide_eq_true z] at h3; cases h3
      exact none_ H (.refl _) (.inr (.inl (by omega)))
    have h3 : (x.length : Int) ≤ 3 := by
      by_cases q : (x.length : Int) ≤ 3
      · exact q
      · rw [decide_eq_false q] at h3; exact absurd rfl h3
    refine ⟨_, rfl, x, rfl, fun D hD => ?_⟩
    refine lc_str (x := x) (fun i H' => Same H H' ∧ ∃ ys : List Str, H' D = some (.lst (ys.map V.str)) ∧ ys.length ≤ i ∧ (∀ y ∈ ys, Asc y) ∧ (ys = [] ↔ ((cs x).take i).all isDg = true)) ⟨Same.upd_new hD, [], upd_same, Nat.le_refl _, (fun y hy => absurd hy (by simp)), ⟨fun _ => rfl, fun _ => rfl⟩⟩ ?_ ?_
    · rintro i c H1 hi ⟨s1, ys, hD1, hyl, hya, hyd⟩
      have hi' : (cs x)[i]? = some c := hi
      have hil : i < (cs x).length := (List.getElem?_eq_some_iff.mp hi).1
      have etk : ((cs x).take (i + 1)).all isDg = (((cs x).take i).all isDg && isDg c) := by
        rw [List.take_succ, hi', List.all_append]
        simp
      have hd := dz c
      refine ⟨rfl, ?_⟩
      have yes : isDg c = true → Same H H1 ∧ ∃ ys : List Str, H1 D = some (.lst (ys.map V.str)) ∧ ys.length ≤ i + 1 ∧ (∀ y ∈ ys, Asc y) ∧ (ys = [] ↔ ((cs x).take (i + 1)).all isDg = true) := fun hq => by
        refine ⟨s1, ys, hD1, by omega, hya, ?_⟩
        rw [etk, hq, Bool.and_true]
        exact hyd
      have no : isDg c = false → ∃ acc, H1 D = some (.lst acc) ∧ acc.length < sizeLine ∧ Same H (upd H1 D (.lst (acc ++ [V.str ⟨#[c]⟩]))) ∧ ∃ ys : List Str, (upd H1 D (.lst (acc ++ [V.str ⟨#[c]⟩]))) D = some (.lst (ys.map V.str)) ∧ ys.length ≤ i + 1 ∧ (∀ y ∈ ys, Asc y) ∧ (ys = [] ↔ ((cs x).take (i + 1)).all isDg = true) := fun hq => by
        refine ⟨_, hD1, by rw [List.length_map]; omega, fun b o hb => ?_, ys ++ [⟨#[c]⟩], ?_, ?_, ?_, ?_⟩
        · rw [upd_ne (ne_of_none hb hD)]
          exact s1 _ _ hb
        · rw [upd_same, List.map_append]
          rfl
        · rw [List.length_append]
          show _ + 1 ≤ _
          omega
        · intro y hy
          rcases List.mem_append.mp hy with q | q
          · exact hya y q
          · rw [List.mem_singleton.mp q]
            intro d hd'
            have : d = c := by simpa using (show d ∈ [c] from hd')
            rw [this]
            exact hasc c (List.mem_of_getElem? hi')
        · rw [etk, hq, Bool.and_false]
          simp
      refine ⟨_, rfl, _, _, rfl, rfl, _, rfl, ?_⟩
      refine ite2 (fun h => ?_) (fun h => ?_)
      · rw [if_pos h] at hd
        refine ⟨_, _, rfl, rfl, _, rfl, ?_⟩
        refine ite2 (fun g => ?_) (fun g => ?_)
        · refine ⟨_, rfl, no ?_⟩
          rw [← hd]
          simpa using g
        · refine yes ?_
          rw [← hd]
          simpa using g
      · rw [if_neg h] at hd
        refine ⟨_, rfl, ?_⟩
        refine ite2 (fun _ => ?_) (fun g => absurd rfl g)
        exact ⟨_, rfl, no hd.symm⟩
    · rintro H1 ⟨s1, ys, hD1, hyl, hya, hyd⟩
      rw [show x.cps.toList.length = (cs x).length from rfl, List.take_of_length_le (Nat.le_refl _)] at hyd
      have hyl' : ys.length ≤ 3 := by
        have : x.cps.toList.length = (cs x).length := rfl
        omega
      refine ⟨by rw [hS]; show 0 ≤ 16777216; decide, fun e he => ?_⟩
      have se := Same.upd_new (o := .lst ([] : List V)) he
      have s2 := s1.trans se
      refine ⟨.list (ys.map PyData.str), .list (([] : List Str).map PyData.str), .lst (SqL.of (se _ _ hD1)) (dpAll_strs _), .lst (SqL.of upd_same) .nil, shapedL_strsA ys hya, shapedL_strsA [] (fun y hy => absurd hy (by simp)), _, rfl, ?_⟩
      rw [eqv_strs]
      refine ite2 (fun h => ?_) (fun h => ?_)
      · have h : ¬ ys = [] := by simpa using h
        exact none_ _ s2 (.inr (.inr (.inl (by cases q : (cs x).all isDg with | false => rfl | true => exact absurd (hyd.mpr q) h))))
      have h : ys = [] := by simpa using h
      have ha := hyd.mp h
      have hlt := digV_lt (w := cs x) (by omega) ha
      try unfold tNext
      try dsimp only
      have hsd := str_dig (x := x) (by omega) (by omega) ha
      refine ⟨_, rfl, _, rfl, x, _, rfl, int_dig (by omega) (by omega) ha, by omega, .inl ⟨_, rfl, log_small _ hlt, rfl, _, rfl, ?_⟩⟩
      refine ite2 (fun h => ?_) (fun h => ?_)
      · have h : ¬ V.str x = V.str (Str.ofString (toString ((digV (cs x) : Nat) : Int))) := by simpa using h
        refine none_ _ s2 (.inr (.inr (.inr ?_)))
        by_cases q : (cs x).head? = some 48 ∧ cs x ≠ [48]
        · exact q
        · exact absurd (congrArg V.str (hsd.mpr q).symm) h
      · have h : V.str x = V.str (Str.ofString (toString ((digV (cs x) : Nat) : Int))) := by simpa using h
        have h0 := hsd.mp (V.str.inj h).symm
        refine ⟨_, rfl, x, _, rfl, int_dig (by omega) (by omega) ha, by omega, ?_⟩
        have := k _ s2
        rwa [num_some (by omega) (by omega) ha h0] at this
end
end K55

set_option Elab.async false
set_option linter.all false
set_option maxRecDepth 100000
set_option maxHeartbeats 1000000
namespace K55
open PySem L2
def szs (ws : List Str) : Nat := (ws.map (·.length)).sum + ws.length
def okO : V → Bool
  | .str w => decide (w.length ≤ 7) && (cs w).all (fun c => decide (c ≤ 127))
  | _ => false
theorem okO_of {v : V} (h : okO v = true) : ∃ w, v = .str w ∧ w.length ≤ 7 ∧ Asc w := by
  cases v with
  | str w =>
    have h : (decide (w.length ≤ 7) && (cs w).all (fun c => decide (c ≤ 127))) = true := h
    simp only [Bool.and_eq_true, decide_eq_true_iff, List.all_eq_true] at h
    exact ⟨w, rfl, h.1, h.2⟩
  | _ => cases h
def spBW : Sp := fun vs H Q _ => ∃ (p q l : Addr) (ws : List Str), vs = [.ref p, .ref l] ∧ Pen H p q ∧ H l = some (.lst (ws.map V.str)) ∧ 1 ≤ ws.length ∧ ws.length ≤ 10000 ∧ (∀ y ∈ ws, Asc y) ∧ ∀ (r : Addr) (ws' : List Str) (H' : Hp), H r = none → H' r = some (.lst (ws'.map V.str)) → (∀ y ∈ ws', Asc y) → szs ws' ≤ szs ws + 8 → Pen H' p q → Off p H H' → Q (.ref r) H'
theorem cut_from {us : List V} {n : Nat} : cutV us (some (n : Int)) none = us.drop n := by
  have : us.length - min us.length n + min us.length n = us.length := by omega
  rw [show cutV us (some (n : Int)) none = (us.drop (HT.sIx us.length 0 (some (n : Int)))).take (HT.sIx us.length us.length none - HT.sIx us.length 0 (some (n : Int))) from rfl]
  have e1 : HT.sIx us.length 0 (some (n : Int)) = min n us.length := by
    simp only [HT.sIx]
    split <;> omega
  have e2 : HT.sIx us.length us.length none = us.length := rfl
  rw [e1, e2, List.take_of_length_le (by rw [List.length_drop]; omega)]
  by_cases h : n ≤ us.length
  · rw [Nat.min_eq_left h]
  · rw [Nat.min_eq_right (by omega), List.drop_of_length_le (by omega), List.drop_of_length_le (by omega)]
theorem newL {i : Nat} {σ : St} {H : Hp} {L : Addr} {xs : List V} {k : St → Hp → Prop} (hL : H L = none) (hx : xs.all okO = true) (hk : ∀ H' X, Same H H' → H' L = some (.lst X) → X.all okO = true → X.length = xs.length → gName i (.ref L) σ H' k) : gName i (.ref L) σ (upd H L (.lst xs)) k := hk _ xs (Same.upd_new hL) upd_same hx rfl
theorem newC {i : Nat} {σ : St} {H : Hp} {L p : Addr} {xs zs : List V} {k : St → Hp → Prop} (hL : H L = none) (hp : (upd H L (.lst zs)) p = none) (hx : xs.all okO = true) (hz : zs.all okO = true) (hk : ∀ H' X, Same H H' → H' p = some (.lst X) → X.all okO = true → X.length = xs.length + zs.length → gName i (.ref p) σ H' k) : gName i (.ref p) σ (upd (upd H L (.lst zs)) p (.lst (xs ++ zs))) k := hk _ (xs ++ zs) ((Same.upd_new hL).trans (Same.upd_new hp)) upd_same (by rw [List.all_append, hx, hz]; rfl) (List.length_append)
theorem szs_app (a b : List Str) : szs (a ++ b) = szs a + szs b := by
  unfold szs
  rw [List.map_append, List.sum_append, List.length_append]
  omega
theorem szs_cut (ws : List Str) (m : Nat) : szs (ws.take m) + szs (ws.drop m) = szs ws := by
  rw [← szs_app, List.take_append_drop]
theorem szs_tail (ws : List Str) (m : Nat) : szs (ws.drop (m + 1)) ≤ szs (ws.drop m) := by
  cases h : ws.drop m with
  | nil =>
    rw [← List.drop_drop, h]
    exact Nat.le_refl _
  | cons a l =>
    rw [← List.drop_drop, h, List.drop_one, List.tail_cons]
    have := szs_app [a] l
    rw [List.singleton_append] at this
    omega
theorem szs_one (w : Str) : szs [w] = w.length + 1 := by
  unfold szs
  simp
theorem cutM_to {ws : List Str} {m : Nat} : cutV (ws.map V.str) none (some (m : Int)) = (ws.take m).map V.str := by
  rw [cut_to, List.map_take]
theorem cutM_from {ws : List Str} {m : Nat} : cutV (ws.map V.str) (some (m : Int)) none = (ws.drop m).map V.str := by
  rw [cut_from, List.map_drop]
section
variable {P : Program} {w : World} {K : PySem.W.Frag} {mg : Str → Option Value} {base : Heap} {d : Ads}
theorem ok_bw (F : FunN K mg "_law_bent_words" s_law_bent_words P_law_bent_words) (T : Bu mg) (c__law_take : Cal P w K mg base 1 "_law_take" P_law_take spTake) : Cal P w K mg base 2 "_law_bent_words" P_law_bent_words spBW := by
  refine cal_of F sc_law_bent_words (fun vs H Q E h => ?_) (fun f cdv A outer s H vs Q E hr h => ?_)
  · obtain ⟨p, q, l, ws, rfl, _⟩ := h
    rfl
  obtain ⟨p, q, l, ws, rfl, hP, hl, h1, hw, ha, k⟩ := h
  have hS : sizeLine = 16777216 := szl
  refine ⟨_, (@pss_cons _ _ _ _ _ (@ps_set _ _ (2) _ _ _ _ sc_law_bent_words.nd rfl (Or.inl rfl) (@pe_cal _ _ _ _ _ _ _ _ _ _ c__law_take (hr.mono (by decide)) (by rfl) (@pa_cons _ _ _ _ _ (@pv _ 0 _ _ (by rfl) (by first | exact Or.inl rfl | exact Or.inr (Or.inl rfl) | exact Or.inr (Or.inr rfl)) (by decide) (by decide)) (@pa_cons _ _ _ _ _ (@pe_callB _ _ _ _ _ _ _ _ _ call_len_seq (by rfl) T.n_len (by decide +kernel) (@pa_cons _ _ _ _ _ (@pv _ 1 _ _ (by rfl) (by first | exact Or.inl rfl | exact Or.inr (Or.inl rfl) | exact Or.inr (Or.inr rfl)) (by decide) (by decide)) pa_nil (by rfl)) (by decide) (by decide) (by rfl) (by rfl)) pa_nil (by rfl)) (by rfl)) (by decide) (by rfl) (by rfl)) (by rfl) (by first | exact .inl rfl | exact .inr rfl)) (@pss_cons _ _ _ _ _ (@ps_set _ _ (3) _ _ _ _ sc_law_bent_words.nd rfl (Or.inl rfl) (@pe_lst _ _ _ _ (@pa_consts _ _ ([V.str "", V.str "A", V.str "ab", V.str "a1", V.str "0", V.str "7", V.str "00", V.str "01", V.str "1000", V.str "+1", V.str "-1", V.str "1.", V.str "	", V.str "a	", V.str "x", V.str "0:1"]) (by kernel_rfl))) (by rfl) (by first | exact .inl rfl | exact .inr rfl)) (@pss_cons _ _ _ _ _ (@ps_set _ _ (3) _ _ _ _ sc_law_bent_words.nd rfl (Or.inl rfl) (@pe_op _ _ _ _ _ _ _ _ op_cat (@pv _ 3 _ _ (by rfl) (by first | exact Or.inl rfl | exact Or.inr (Or.inl rfl) | exact Or.inr (Or.inr rfl)) (by decide) (by decide)) (@pe_lst _ _ _ _ (@pa_cons _ _ _ _ _ pe_str (@pa_cons _ _ _ _ _ pe_str pa_nil (by rfl)) (by rfl)))) (by rfl) (by first | exact .inl rfl | exact .inr rfl)) (@pss_cons _ _ _ _ _ (@ps_set _ _ (3) _ _ _ _ sc_law_bent_words.nd rfl (Or.inl rfl) (@pe_op _ _ _ _ _ _ _ _ op_cat (@pv _ 3 _ _ (by rfl) (by first | exact Or.inl rfl | exact Or.inr (Or.inl rfl) | exact Or.inr (Or.inr rfl)) (by decide) (by decide)) (@pe_lst _ _ _ _ (@pa_consts _ _ ([V.str "299:1", V.str "300:1", V.str "0:300", V.str "0:301", V.str "1:", V.str ":1", V.str "1:2:3", V.str "01:2", V.str "1:02", V.str "1 : 2", V.str ":"]) (by kernel_rfl)))) (by rfl) (by first | exact .inl rfl | exact .inr rfl)) (@pss_cons _ _ _ _ _ (@ps_set _ _ (3) _ _ _ _ sc_law_bent_words.nd rfl (Or.inl rfl) (@pe_op _ _ _ _ _ _ _ _ op_cat (@pv _ 3 _ _ (by rfl) (by first | exact Or.inl rfl | exact Or.inr (Or.inl rfl) | exact Or.inr (Or.inr rfl)) (by decide) (by decide)) (@pe_lst _ _ _ _ (@pa_cons _ _ _ _ _ pe_str (@pa_cons _ _ _ _ _ pe_str (@pa_cons _ _ _ _ _ pe_str pa_nil (by rfl)) (by rfl)) (by rfl)))) (by rfl) (by first | exact .inl rfl | exact .inr rfl)) (@pss_cons _ _ _ _ _ (@ps_set _ _ (3) _ _ _ _ sc_law_bent_words.nd rfl (Or.inl rfl) (@pe_op _ _ _ _ _ _ _ _ op_cat (@pv _ 3 _ _ (by rfl) (by first | exact Or.inl rfl | exact Or.inr (Or.inl rfl) | exact Or.inr (Or.inr rfl)) (by decide) (by decide)) (@pe_lst _ _ _ _ (@pa_consts _ _ ([V.str "z:1", V.str "1:z", V.str "1;2", V.str "999:999", V.str "1000:1", V.str "1_0", V.str "1_0:2", V.str "0:1_0", V.str "0:+1", V.str "1\n", V.str "0:1	"]) (by kernel_rfl)))) (by rfl) (by first | exact .inl rfl | exact .inr rfl)) (@pss_cons _ _ _ _ _ (@ps_set _ _ (4) _ _ _ _ sc_law_bent_words.nd rfl (Or.inl rfl) (@pe_ix _ _ _ _ _ _ _ ix_list (@pv _ 3 _ _ (by rfl) (by first | exact Or.inl rfl | exact Or.inr (Or.inl rfl) | exact Or.inr (Or.inr rfl)) (by decide) (by decide)) (@pe_cal _ _ _ _ _ _ _ _ _ _ c__law_take (hr.mono (by decide)) (by rfl) (@pa_cons _ _ _ _ _ (@pv _ 0 _ _ (by rfl) (by first | exact Or.inl rfl | exact Or.inr (Or.inl rfl) | exact Or.inr (Or.inr rfl)) (by decide) (by decide)) (@pa_cons _ _ _ _ _ (@pe_callB _ _ _ _ _ _ _ _ _ call_len_seq (by rfl) T.n_len (by decide +kernel) (@pa_cons _ _ _ _ _ (@pv _ 3 _ _ (by rfl) (by first | exact Or.inl rfl | exact Or.inr (Or.inl rfl) | exact Or.inr (Or.inr rfl)) (by decide) (by decide)) pa_nil (by rfl)) (by decide) (by decide) (by rfl) (by rfl)) pa_nil (by rfl)) (by rfl)) (by decide) (by rfl) (by rfl)) (fun _ _ => rfl)) (by rfl) (by first | exact .inl rfl | exact .inr rfl)) (@pss_cons _ _ _ _ _ (@ps_set _ _ (5) _ _ _ _ sc_law_bent_words.nd rfl (Or.inl rfl) (@pe_cal _ _ _ _ _ _ _ _ _ _ c__law_take (hr.mono (by decide)) (by rfl) (@pa_cons _ _ _ _ _ (@pv _ 0 _ _ (by rfl) (by first | exact Or.inl rfl | exact Or.inr (Or.inl rfl) | exact Or.inr (Or.inr rfl)) (by decide) (by decide)) (@pa_cons _ _ _ _ _ pe_int pa_nil (by rfl)) (by rfl)) (by decide) (by rfl) (by rfl)) (by rfl) (by first | exact .inl rfl | exact .inr rfl)) (@pss_cons _ _ _ _ _ (@ps_if _ _ _ _ _ _ _ _ (@pt_cmpR _ _ _ _ _ _ _ _ op_lt (@pv _ 5 _ _ (by rfl) (by first | exact Or.inl rfl | exact Or.inr (Or.inl rfl) | exact Or.inr (Or.inr rfl)) (by decide) (by decide)) pe_int (nomark _)) (@pss_one _ _ _ (@ps_ret _ _ _ _ (@pe_op _ _ _ _ _ _ _ _ op_cat (@pe_op _ _ _ _ _ _ _ _ op_cat (@pe_slice _ _ _ _ _ _ _ _ _ _ sl_list (@pv _ 1 _ _ (by rfl) (by first | exact Or.inl rfl | exact Or.inr (Or.inl rfl) | exact Or.inr (Or.inr rfl)) (by decide) (by decide)) po_none (@po_some _ _ _ (@pv _ 2 _ _ (by rfl) (by first | exact Or.inl rfl | exact Or.inr (Or.inl rfl) | exact Or.inr (Or.inr rfl)) (by decide) (by decide)))) (@pe_lst _ _ _ _ (@pa_cons _ _ _ _ _ (@pv _ 4 _ _ (by rfl) (by first | exact Or.inl rfl | exact Or.inr (Or.inl rfl) | exact Or.inr (Or.inr rfl)) (by decide) (by decide)) pa_nil (by rfl)))) (@pe_slice _ _ _ _ _ _ _ _ _ _ sl_list (@pv _ 1 _ _ (by rfl) (by first | exact Or.inl rfl | exact Or.inr (Or.inl rfl) | exact Or.inr (Or.inr rfl)) (by decide) (by decide)) (@po_some _ _ _ (@pe_op _ _ _ _ _ _ _ _ op_add (@pv _ 2 _ _ (by rfl) (by first | exact Or.inl rfl | exact Or.inr (Or.inl rfl) | exact Or.inr (Or.inr rfl)) (by decide) (by decide)) pe_int)) po_none)))) pss_nil) (@pss_cons _ _ _ _ _ (@ps_if _ _ _ _ _ _ _ _ (@pt_cmpR _ _ _ _ _ _ _ _ op_eq (@pv _ 5 _ _ (by rfl) (by first | exact Or.inl rfl | exact Or.inr (Or.inl rfl) | exact Or.inr (Or.inr rfl)) (by decide) (by decide)) pe_int (nomark _)) (@pss_one _ _ _ (@ps_ret _ _ _ _ (@pe_op _ _ _ _ _ _ _ _ op_cat (@pe_op _ _ _ _ _ _ _ _ op_cat (@pe_slice _ _ _ _ _ _ _ _ _ _ sl_list (@pv _ 1 _ _ (by rfl) (by first | exact Or.inl rfl | exact Or.inr (Or.inl rfl) | exact Or.inr (Or.inr rfl)) (by decide) (by decide)) po_none (@po_some _ _ _ (@pv _ 2 _ _ (by rfl) (by first | exact Or.inl rfl | exact Or.inr (Or.inl rfl) | exact Or.inr (Or.inr rfl)) (by decide) (by decide)))) (@pe_lst _ _ _ _ (@pa_cons _ _ _ _ _ (@pv _ 4 _ _ (by rfl) (by first | exact Or.inl rfl | exact Or.inr (Or.inl rfl) | exact Or.inr (Or.inr rfl)) (by decide) (by decide)) pa_nil (by rfl)))) (@pe_slice _ _ _ _ _ _ _ _ _ _ sl_list (@pv _ 1 _ _ (by rfl) (by first | exact Or.inl rfl | exact Or.inr (Or.inl rfl) | exact Or.inr (Or.inr rfl)) (by decide) (by decide)) (@po_some _ _ _ (@pv _ 2 _ _ (by rfl) (by first | exact Or.inl rfl | exact Or.inr (Or.inl rfl) | exact Or.inr (Or.inr rfl)) (by decide) (by decide))) po_none)))) pss_nil) (@pss_cons _ _ _ _ _ (@ps_if _ _ _ _ _ _ _ _ (@pt_cmpR _ _ _ _ _ _ _ _ op_eq (@pv _ 5 _ _ (by rfl) (by first | exact Or.inl rfl | exact Or.inr (Or.inl rfl) | exact Or.inr (Or.inr rfl)) (by decide) (by decide)) pe_int (nomark _)) (@pss_one _ _ _ (@ps_ret _ _ _ _ (@pe_op _ _ _ _ _ _ _ _ op_cat (@pe_slice _ _ _ _ _ _ _ _ _ _ sl_list (@pv _ 1 _ _ (by rfl) (by first | exact Or.inl rfl | exact Or.inr (Or.inl rfl) | exact Or.inr (Or.inr rfl)) (by decide) (by decide)) po_none (@po_some _ _ _ (@pv _ 2 _ _ (by rfl) (by first | exact Or.inl rfl | exact Or.inr (Or.inl rfl) | exact Or.inr (Or.inr rfl)) (by decide) (by decide)))) (@pe_slice _ _ _ _ _ _ _ _ _ _ sl_list (@pv _ 1 _ _ (by rfl) (by first | exact Or.inl rfl | exact Or.inr (Or.inl rfl) | exact Or.inr (Or.inr rfl)) (by decide) (by decide)) (@po_some _ _ _ (@pe_op _ _ _ _ _ _ _ _ op_add (@pv _ 2 _ _ (by rfl) (by first | exact Or.inl rfl | exact Or.inr (Or.inl rfl) | exact Or.inr (Or.inr rfl)) (by decide) (by decide)) pe_int)) po_none)))) pss_nil) (@pss_one _ _ _ (@ps_ret _ _ _ _ (@pe_op _ _ _ _ _ _ _ _ op_cat (@pv _ 1 _ _ (by rfl) (by first | exact Or.inl rfl | exact Or.inr (Or.inl rfl) | exact Or.inr (Or.inr rfl)) (by decide) (by decide)) (@pe_lst _ _ _ _ (@pa_cons _ _ _ _ _ (@pv _ 4 _ _ (by rfl) (by first | exact Or.inl rfl | exact Or.inr (Or.inl rfl) | exact Or.inr (Or.inr rfl)) (by decide) (by decide)) pa_nil (by rfl))))))))))))))))), ?_⟩
  refine ⟨_, rfl, _, rfl, l, _, rfl, .inl (SqL.of hl), p, q, _, rfl, by rw [List.length_map]; omega, by rw [List.length_map]; omega, hP, fun at' H1 a0 a1 hP1 o1 => ?_⟩
  obtain ⟨m, rfl⟩ := Int.eq_ofNat_of_zero_le a0
  rw [List.length_map] at a1
  have hm : m < ws.length := by omega
  clear a0 a1
  have npl : l ≠ p := fun e => by
    subst e
    obtain ⟨ns, z, n, h3, _⟩ := hP.ex
    rw [hl] at h3
    cases ws with
    | nil => simp at h1
    | cons a ws => simp at h3
  have hl1 := o1 _ _ hl npl
  refine ⟨by rw [hS]; show 16 ≤ 16777216; decide, fun L1 hL1 => newL hL1 (by decide +kernel) fun H2 X1 s2 e1 b1 n1 => ?_⟩
  refine ⟨_, rfl, by rw [hS]; show 2 ≤ 16777216; decide, fun L2 hL2 => ⟨_, _, _, _, rfl, rfl, (Same.upd_new hL2) _ _ e1, upd_same, by rw [hS, n1]; show 16 + 2 ≤ 16777216; decide, fun p2 hp2 => newC hL2 hp2 b1 (by decide +kernel) fun H3 X2 s3 e2 b2 n2 => ?_⟩⟩
  refine ⟨_, rfl, by rw [hS]; show 11 ≤ 16777216; decide, fun L3 hL3 => ⟨_, _, _, _, rfl, rfl, (Same.upd_new hL3) _ _ e2, upd_same, by rw [hS, n2, n1]; show 16 + 2 + 11 ≤ 16777216; decide, fun p3 hp3 => newC hL3 hp3 b2 (by decide +kernel) fun H4 X3 s4 e3 b3 n3 => ?_⟩⟩
  refine ⟨_, rfl, by rw [hS]; show 3 ≤ 16777216; decide, fun L4 hL4 => ⟨_, _, _, _, rfl, rfl, (Same.upd_new hL4) _ _ e3, upd_same, by rw [hS, n3, n2, n1]; show 16 + 2 + 11 + 3 ≤ 16777216; decide, fun p4 hp4 => newC hL4 hp4 b3 (by decide +kernel) fun H5 X4 s5 e4 b4 n4 => ?_⟩⟩
  refine ⟨_, rfl, by rw [hS]; show 11 ≤ 16777216; decide, fun L5 hL5 => ⟨_, _, _, _, rfl, rfl, (Same.upd_new hL5) _ _ e4, upd_same, by rw [hS, n4, n3, n2, n1]; show 16 + 2 + 11 + 3 + 11 ≤ 16777216; decide, fun p5 hp5 => newC hL5 hp5 b4 (by decide +kernel) fun H6 X5 s6 e5 b5 n5 => ?_⟩⟩
  have n6 : X5.length = 43 := by rw [n5, n4, n3, n2, n1]; rfl
  have s7 := ((((s2.trans s3).trans s4).trans s5).trans s6)
  have hl6 := s7 _ _ hl1
  have hP6 := hP1.same s7
  refine ⟨_, rfl, _, rfl, _, rfl, p5, _, rfl, .inl (SqL.of e5), p, q, _, rfl, by rw [n6]; decide, by rw [n6]; decide, hP6, fun g H7 g0 g1 hP7 o7 => ?_⟩
  have np5 : p5 ≠ p := fun e => by
    subst e
    obtain ⟨ns, z, n, h3, _⟩ := hP1.ex
    have := s7 _ _ h3
    rw [e5] at this
    have := Option.some.inj this
    have : X5.length = 3 := by
      have h := congrArg (fun o => match o with | HO.lst xs => xs.length | _ => 0) this
      exact h
    omega
  have e7 := o7 _ _ e5 np5
  have hl7 := o7 _ _ hl6 npl
  have o17 : Off p H H7 := (o1.trans (s7.off)).trans o7
  obtain ⟨g, rfl⟩ := Int.eq_ofNat_of_zero_le g0
  obtain ⟨v, hv⟩ : ∃ v, X5[g]? = some v := ⟨_, List.getElem?_eq_getElem (by omega)⟩
  obtain ⟨y, rfl, hy7, hya⟩ := okO_of (List.all_eq_true.mp b5 v (List.mem_of_getElem? hv))
  refine ⟨_, _, _, _, rfl, rfl, SqL.of e7, atI_nat hv, ?_⟩
  refine ⟨_, rfl, p, q, 5, rfl, by decide, by decide, hP7, fun way H8 w0 w1 hP8 o8 => ?_⟩
  have hl8 := o8 _ _ hl7 npl
  have o18 := o17.trans o8
  have hpH : ∀ r : Addr, H8 r = none → H r = none := fun r hr => by
    cases hH : H r with
    | none => rfl
    | some o =>
      by_cases e : r = p
      · subst e
        obtain ⟨ns, z, n, h3, _⟩ := hP8.ex
        rw [hr] at h3
        cases h3
      · rw [o18 _ _ hH e] at hr
        cases hr
  clear e7 hl7 hP7 o7 o17 np5 hP6 hl6 e5 b5 n5 n6 e4 b4 n4 e3 b3 n3 e2 b2 n2 e1 b1 n1
  have wsA : (ws.take m).map V.str ++ [V.str y] = (ws.take m ++ [y]).map V.str := by rw [List.map_append]; rfl
  have cut1 := szs_cut ws m
  have cut2 := szs_tail ws m
  have one1 := szs_one y
  have ascT : ∀ z ∈ ws.take m, Asc z := fun z hz => ha z (List.mem_of_mem_take hz)
  have ascD : ∀ j, ∀ z ∈ ws.drop j, Asc z := fun j z hz => ha z (List.mem_of_mem_drop hz)
  have fin : ∀ (r : Addr) (ws' : List Str) (H' : Hp), H8 r = none → Same H8 H' → H' r = some (.lst (ws'.map V.str)) → (∀ y ∈ ws', Asc y) → szs ws' ≤ szs ws + 8 → Q (.ref r) H' := fun r ws' H' hr s hr2 h1 h2 => k r ws' H' (hpH r hr) hr2 h1 h2 (hP8.same s) (o18.trans s.off)
  clear k
  refine ⟨_, rfl, _, _, rfl, rfl, _, rfl, ?_⟩
  refine ite2 (fun h2 => ?_) (fun h2 => ?_)
  · refine ⟨_, rfl, _, rfl, _, rfl, l, _, rfl, SqL.of hl8, fun c1 hc1 => ?_⟩
    rw [cutM_to]
    have s1 := Same.upd_new (o := .lst ((ws.take m).map V.str)) hc1
    have e1 : (upd H8 c1 (.lst ((ws.take m).map V.str))) c1 = some (.lst ((ws.take m).map V.str)) := upd_same
    generalize upd H8 c1 (.lst ((ws.take m).map V.str)) = G1 at s1 e1
    refine ⟨_, rfl, by rw [hS]; show 1 ≤ 16777216; decide, fun c2 hc2 => ?_⟩
    have s2 := Same.upd_new (o := .lst [V.str y]) hc2
    have e2 : (upd G1 c2 (.lst [V.str y])) c2 = some (.lst [V.str y]) := upd_same
    generalize upd G1 c2 (.lst [V.str y]) = G2 at s2 e2
    refine ⟨c1, c2, _, _, rfl, rfl, s2 _ _ e1, e2, by rw [hS, List.length_map, List.length_take]; show _ + 1 ≤ _; omega, fun c3 hc3 => ?_⟩
    rw [wsA]
    have s3 := Same.upd_new (o := .lst ((ws.take m ++ [y]).map V.str)) hc3
    have e3 : (upd G2 c3 (.lst ((ws.take m ++ [y]).map V.str))) c3 = some (.lst ((ws.take m ++ [y]).map V.str)) := upd_same
    generalize upd G2 c3 (.lst ((ws.take m ++ [y]).map V.str)) = G3 at s3 e3
    have sS := (s1.trans s2).trans s3
    refine ⟨_, rfl, _, rfl, _, _, rfl, rfl, _, rfl, l, _, rfl, SqL.of (sS _ _ hl8), fun c4 hc4 => ?_⟩
    rw [show (m : Int) + 1 = ((m + 1 : Nat) : Int) by omega]
    rw [cutM_from]
    have s4 := Same.upd_new (o := .lst ((ws.drop (m + 1)).map V.str)) hc4
    have e4 : (upd G3 c4 (.lst ((ws.drop (m + 1)).map V.str))) c4 = some (.lst ((ws.drop (m + 1)).map V.str)) := upd_same
    generalize upd G3 c4 (.lst ((ws.drop (m + 1)).map V.str)) = G4 at s4 e4
    refine ⟨c3, c4, _, _, rfl, rfl, s4 _ _ e3, e4, by rw [hS]; simp only [List.length_map, List.length_drop, List.length_append, List.length_take, List.length_cons, List.length_nil]; omega, fun c5 hc5 => ?_⟩
    rw [← List.map_append]
    have s5 := (sS.trans s4).trans (Same.upd_new (o := .lst ((ws.take m ++ [y] ++ ws.drop (m + 1)).map V.str)) hc5)
    have hc : H8 c5 = none := (sS.trans s4).free hc5
    refine fin c5 _ _ hc s5 upd_same (fun z hz => ?_) (by rw [szs_app, szs_app]; omega)
    rcases List.mem_append.mp hz with hz | hz
    · rcases List.mem_append.mp hz with hz | hz
      · exact ascT z hz
      · rw [List.mem_singleton.mp hz]
        exact hya
    · exact ascD _ z hz
  try unfold tNext
  try dsimp only
  refine ⟨_, rfl, rfl, _, rfl, ?_⟩
  refine ite2 (fun h3 => ?_) (fun h3 => ?_)
  · refine ⟨_, rfl, _, rfl, _, rfl, l, _, rfl, SqL.of hl8, fun c1 hc1 => ?_⟩
    rw [cutM_to]
    have s1 := Same.upd_new (o := .lst ((ws.take m).map V.str)) hc1
    have e1 : (upd H8 c1 (.lst ((ws.take m).map V.str))) c1 = some (.lst ((ws.take m).map V.str)) := upd_same
    generalize upd H8 c1 (.lst ((ws.take m).map V.str)) = G1 at s1 e1
    refine ⟨_, rfl, by rw [hS]; show 1 ≤ 16777216; decide, fun c2 hc2 => ?_⟩
    have s2 := Same.upd_new (o := .lst [V.str y]) hc2
    have e2 : (upd G1 c2 (.lst [V.str y])) c2 = some (.lst [V.str y]) := upd_same
    generalize upd G1 c2 (.lst [V.str y]) = G2 at s2 e2
    refine ⟨c1, c2, _, _, rfl, rfl, s2 _ _ e1, e2, by rw [hS, List.length_map, List.length_take]; show _ + 1 ≤ _; omega, fun c3 hc3 => ?_⟩
    rw [wsA]
    have s3 := Same.upd_new (o := .lst ((ws.take m ++ [y]).map V.str)) hc3
    have e3 : (upd G2 c3 (.lst ((ws.take m ++ [y]).map V.str))) c3 = some (.lst ((ws.take m ++ [y]).map V.str)) := upd_same
    generalize upd G2 c3 (.lst ((ws.take m ++ [y]).map V.str)) = G3 at s3 e3
    have sS := (s1.trans s2).trans s3
    refine ⟨_, rfl, _, rfl, _, rfl, l, _, rfl, SqL.of (sS _ _ hl8), fun c4 hc4 => ?_⟩
    rw [cutM_from]
    have s4 := Same.upd_new (o := .lst ((ws.drop m).map V.str)) hc4
    have e4 : (upd G3 c4 (.lst ((ws.drop m).map V.str))) c4 = some (.lst ((ws.drop m).map V.str)) := upd_same
    generalize upd G3 c4 (.lst ((ws.drop m).map V.str)) = G4 at s4 e4
    refine ⟨c3, c4, _, _, rfl, rfl, s4 _ _ e3, e4, by rw [hS]; simp only [List.length_map, List.length_drop, List.length_append, List.length_take, List.length_cons, List.length_nil]; omega, fun c5 hc5 => ?_⟩
    rw [← List.map_append]
    have s5 := (sS.trans s4).trans (Same.upd_new (o := .lst ((ws.take m ++ [y] ++ ws.drop m).map V.str)) hc5)
    have hc : H8 c5 = none := (sS.trans s4).free hc5
    refine fin c5 _ _ hc s5 upd_same (fun z hz => ?_) (by rw [szs_app, szs_app]; omega)
    rcases List.mem_append.mp hz with hz | hz
    · rcases List.mem_append.mp hz with hz | hz
      · exact ascT z hz
      · rw [List.mem_singleton.mp hz]
        exact hya
    · exact ascD _ z hz
  try unfold tNext
  try dsimp only
  refine ⟨_, rfl, rfl, _, rfl, ?_⟩
  refine ite2 (fun h4 => ?_) (fun h4 => ?_)
  · refine ⟨_, rfl, _, rfl, _, rfl, l, _, rfl, SqL.of hl8, fun c1 hc1 => ?_⟩
    rw [cutM_to]
    have s1 := Same.upd_new (o := .lst ((ws.take m).map V.str)) hc1
    have e1 : (upd H8 c1 (.lst ((ws.take m).map V.str))) c1 = some (.lst ((ws.take m).map V.str)) := upd_same
    generalize upd H8 c1 (.lst ((ws.take m).map V.str)) = G1 at s1 e1
    refine ⟨_, rfl, _, rfl, _, _, rfl, rfl, _, rfl, l, _, rfl, SqL.of (s1 _ _ hl8), fun c4 hc4 => ?_⟩
    rw [show (m : Int) + 1 = ((m + 1 : Nat) : Int) by omega]
    rw [cutM_from]
    have s4 := Same.upd_new (o := .lst ((ws.drop (m + 1)).map V.str)) hc4
    have e4 : (upd G1 c4 (.lst ((ws.drop (m + 1)).map V.str))) c4 = some (.lst ((ws.drop (m + 1)).map V.str)) := upd_same
    generalize upd G1 c4 (.lst ((ws.drop (m + 1)).map V.str)) = G4 at s4 e4
    refine ⟨c1, c4, _, _, rfl, rfl, s4 _ _ e1, e4, by rw [hS]; simp only [List.length_map, List.length_drop, List.length_append, List.length_take, List.length_cons, List.length_nil]; omega, fun c5 hc5 => ?_⟩
    rw [← List.map_append]
    have s5 := (s1.trans s4).trans (Same.upd_new (o := .lst ((ws.take m ++ ws.drop (m + 1)).map V.str)) hc5)
    have hc : H8 c5 = none := (s1.trans s4).free hc5
    refine fin c5 _ _ hc s5 upd_same (fun z hz => ?_) (by rw [szs_app]; omega)
    rcases List.mem_append.mp hz with hz | hz
    · exact ascT z hz
    · exact ascD _ z hz
  try unfold tNext
  try dsimp only
  refine ⟨_, rfl, _, rfl, by rw [hS]; show 1 ≤ 16777216; decide, fun c2 hc2 => ?_⟩
  have s2 := Same.upd_new (o := .lst [V.str y]) hc2
  have e2 : (upd H8 c2 (.lst [V.str y])) c2 = some (.lst [V.str y]) := upd_same
  generalize upd H8 c2 (.lst [V.str y]) = G2 at s2 e2
  refine ⟨l, c2, _, _, rfl, rfl, s2 _ _ hl8, e2, by rw [hS, List.length_map]; show _ + 1 ≤ _; omega, fun c5 hc5 => ?_⟩
  rw [show ws.map V.str ++ [V.str y] = (ws ++ [y]).map V.str by rw [List.map_append]; rfl]
  refine fin c5 _ _ (s2.free hc5) (s2.trans (Same.upd_new hc5)) upd_same (fun z hz => ?_) (by rw [szs_app]; omega)
  rcases List.mem_append.mp hz with hz | hz
  · exact ha z hz
  · rw [List.mem_singleton.mp hz]
    exact hya
end
end K55

set_option Elab.async false
set_option linter.all false
set_option maxRecDepth 100000
set_option maxHeartbeats 1000000
namespace K55
open PySem L2
def spSpoilt : Sp := fun vs H Q _ => ∃ (p q : Addr) (x : Str), vs = [.ref p, .str x] ∧ Pen H p q ∧ x.length ≤ 10000 ∧ Asc x ∧ ∀ (y : Str) (H' : Hp), Asc y → y.length ≤ x.length + 1 → Pen H' p q → Off p H H' → Q (.str y) H'
section
variable {P : Program} {w : World} {K : PySem.W.Frag} {mg : Str → Option Value} {base : Heap} {d : Ads}
theorem ok_spoilt (F : FunN K mg "_law_sign_spoilt" s_law_sign_spoilt P_law_sign_spoilt) (T : Bu mg) (c__law_take : Cal P w K mg base 1 "_law_take" P_law_take spTake) : Cal P w K mg base 2 "_law_sign_spoilt" P_law_sign_spoilt spSpoilt := by
  refine cal_of F sc_law_sign_spoilt (fun vs H Q E h => ?_) (fun f cdv A outer s H vs Q E hr h => ?_)
  · obtain ⟨p, q, x, rfl, _⟩ := h
    rfl
  obtain ⟨p, q, x, rfl, hP, hx, ha, k⟩ := h
  have hS : sizeLine = 16777216 := szl
  refine ⟨_, (@pss_cons _ _ _ _ _ (@ps_set _ _ (2) _ _ _ _ sc_law_sign_spoilt.nd rfl (Or.inl rfl) (@pe_cal _ _ _ _ _ _ _ _ _ _ c__law_take (hr.mono (by decide)) (by rfl) (@pa_cons _ _ _ _ _ (@pv _ 0 _ _ (by rfl) (by first | exact Or.inl rfl | exact Or.inr (Or.inl rfl) | exact Or.inr (Or.inr rfl)) (by decide) (by decide)) (@pa_cons _ _ _ _ _ (@pe_op _ _ _ _ _ _ _ _ op_add (@pe_callB _ _ _ _ _ _ _ _ _ call_len_str (by rfl) T.n_len (by decide +kernel) (@pa_cons _ _ _ _ _ (@pv _ 1 _ _ (by rfl) (by first | exact Or.inl rfl | exact Or.inr (Or.inl rfl) | exact Or.inr (Or.inr rfl)) (by decide) (by decide)) pa_nil (by rfl)) (by decide) (by decide) (by rfl) (by rfl)) pe_int) pa_nil (by rfl)) (by rfl)) (by decide) (by rfl) (by rfl)) (by rfl) (by first | exact .inl rfl | exact .inr rfl)) (@pss_cons _ _ _ _ _ (@ps_set _ _ (3) _ _ _ _ sc_law_sign_spoilt.nd rfl (Or.inl rfl) pe_str (by rfl) (by first | exact .inl rfl | exact .inr rfl)) (@pss_cons _ _ _ _ _ (@ps_if _ _ _ _ _ _ _ _ (@pt_cmpR _ _ _ _ _ _ _ _ op_eq (@pe_cal _ _ _ _ _ _ _ _ _ _ c__law_take (hr.mono (by decide)) (by rfl) (@pa_cons _ _ _ _ _ (@pv _ 0 _ _ (by rfl) (by first | exact Or.inl rfl | exact Or.inr (Or.inl rfl) | exact Or.inr (Or.inr rfl)) (by decide) (by decide)) (@pa_cons _ _ _ _ _ pe_int pa_nil (by rfl)) (by rfl)) (by decide) (by rfl) (by rfl)) pe_int (nomark _)) (@pss_cons _ _ _ _ _ (@ps_set _ _ (3) _ _ _ _ sc_law_sign_spoilt.nd rfl (Or.inl rfl) pe_str (by rfl) (by first | exact .inl rfl | exact .inr rfl)) (@pss_one _ _ _ (@ps_set _ _ (3) _ _ _ _ sc_law_sign_spoilt.nd rfl (Or.inl rfl) (@pe_op _ _ _ _ _ _ _ _ op_add_str (@pv _ 3 _ _ (by rfl) (by first | exact Or.inl rfl | exact Or.inr (Or.inl rfl) | exact Or.inr (Or.inr rfl)) (by decide) (by decide)) pe_str) (by rfl) (by first | exact .inl rfl | exact .inr rfl)))) pss_nil) (@pss_cons _ _ _ _ _ (@ps_set _ _ (4) _ _ _ _ sc_law_sign_spoilt.nd rfl (Or.inl rfl) (@pe_ix _ _ _ _ _ _ _ ix_str (@pv _ 3 _ _ (by rfl) (by first | exact Or.inl rfl | exact Or.inr (Or.inl rfl) | exact Or.inr (Or.inr rfl)) (by decide) (by decide)) (@pe_cal _ _ _ _ _ _ _ _ _ _ c__law_take (hr.mono (by decide)) (by rfl) (@pa_cons _ _ _ _ _ (@pv _ 0 _ _ (by rfl) (by first | exact Or.inl rfl | exact Or.inr (Or.inl rfl) | exact Or.inr (Or.inr rfl)) (by decide) (by decide)) (@pa_cons _ _ _ _ _ (@pe_callB _ _ _ _ _ _ _ _ _ call_len_str (by rfl) T.n_len (by decide +kernel) (@pa_cons _ _ _ _ _ (@pv _ 3 _ _ (by rfl) (by first | exact Or.inl rfl | exact Or.inr (Or.inl rfl) | exact Or.inr (Or.inr rfl)) (by decide) (by decide)) pa_nil (by rfl)) (by decide) (by decide) (by rfl) (by rfl)) pa_nil (by rfl)) (by rfl)) (by decide) (by rfl) (by rfl)) (fun _ _ => rfl)) (by rfl) (by first | exact .inl rfl | exact .inr rfl)) (@pss_one _ _ _ (@ps_ret _ _ _ _ (@pe_op _ _ _ _ _ _ _ _ op_add_str (@pe_op _ _ _ _ _ _ _ _ op_add_str (@pe_slice _ _ _ _ _ _ _ _ _ _ sl_str (@pv _ 1 _ _ (by rfl) (by first | exact Or.inl rfl | exact Or.inr (Or.inl rfl) | exact Or.inr (Or.inr rfl)) (by decide) (by decide)) po_none (@po_some _ _ _ (@pv _ 2 _ _ (by rfl) (by first | exact Or.inl rfl | exact Or.inr (Or.inl rfl) | exact Or.inr (Or.inr rfl)) (by decide) (by decide)))) (@pe_ix _ _ _ _ _ _ _ ix_list (@pe_lst _ _ _ _ (@pa_cons _ _ _ _ _ (@pv _ 4 _ _ (by rfl) (by first | exact Or.inl rfl | exact Or.inr (Or.inl rfl) | exact Or.inr (Or.inr rfl)) (by decide) (by decide)) (@pa_cons _ _ _ _ _ (@pv _ 4 _ _ (by rfl) (by first | exact Or.inl rfl | exact Or.inr (Or.inl rfl) | exact Or.inr (Or.inr rfl)) (by decide) (by decide)) (@pa_cons _ _ _ _ _ pe_str pa_nil (by rfl)) (by rfl)) (by rfl))) (@pe_cal _ _ _ _ _ _ _ _ _ _ c__law_take (hr.mono (by decide)) (by rfl) (@pa_cons _ _ _ _ _ (@pv _ 0 _ _ (by rfl) (by first | exact Or.inl rfl | exact Or.inr (Or.inl rfl) | exact Or.inr (Or.inr rfl)) (by decide) (by decide)) (@pa_cons _ _ _ _ _ pe_int pa_nil (by rfl)) (by rfl)) (by decide) (by rfl) (by rfl)) (fun _ _ => rfl))) (@pe_slice _ _ _ _ _ _ _ _ _ _ sl_str (@pv _ 1 _ _ (by rfl) (by first | exact Or.inl rfl | exact Or.inr (Or.inl rfl) | exact Or.inr (Or.inr rfl)) (by decide) (by decide)) (@po_some _ _ _ (@pe_op _ _ _ _ _ _ _ _ op_add (@pv _ 2 _ _ (by rfl) (by first | exact Or.inl rfl | exact Or.inr (Or.inl rfl) | exact Or.inr (Or.inr rfl)) (by decide) (by decide)) (@pe_cal _ _ _ _ _ _ _ _ _ _ c__law_take (hr.mono (by decide)) (by rfl) (@pa_cons _ _ _ _ _ (@pv _ 0 _ _ (by rfl) (by first | exact Or.inl rfl | exact Or.inr (Or.inl rfl) | exact Or.inr (Or.inr rfl)) (by decide) (by decide)) (@pa_cons _ _ _ _ _ pe_int pa_nil (by rfl)) (by rfl)) (by decide) (by rfl) (by rfl)))) po_none)))))))), ?_⟩
  refine ⟨_, rfl, _, rfl, x, rfl, by omega, _, _, rfl, rfl, p, q, _, rfl, by omega, by omega, hP, fun at' H1 a0 a1 hP1 o1 => ?_⟩
  obtain ⟨m, rfl⟩ := Int.eq_ofNat_of_zero_le a0
  try dsimp only
  refine seq_c ?_
  try dsimp only
  refine seq_after (fun σ' H' => ∃ sg : Str, σ' = [some (.ref p), some (.str x), some (.int (m : Int)), some (.str sg), none] ∧ 1 ≤ sg.length ∧ sg.length ≤ 1000 ∧ Asc sg ∧ Pen H' p q ∧ Off p H H') ?_ (fun cont => ?_)
  · rintro _ H2 ⟨sg, rfl, g1, g2, ga, hP2, o2⟩
    refine ⟨_, rfl, _, rfl, _, rfl, sg, rfl, by omega, p, q, _, rfl, by omega, by omega, hP2, fun g H3 b0 b1 hP3 o3 => ?_⟩
    obtain ⟨g, rfl⟩ := Int.eq_ofNat_of_zero_le b0
    obtain ⟨c, hc⟩ : ∃ c, (cs sg)[g]? = some c := ⟨_, List.getElem?_eq_getElem (show g < (cs sg).length by have : (cs sg).length = sg.length := rfl; omega)⟩
    have hca : c ≤ 127 := ga c (List.mem_of_getElem? hc)
    refine ⟨sg, _, c, rfl, rfl, by omega, atI_nat hc, ?_⟩
    refine ⟨_, rfl, _, rfl, _, rfl, x, rfl, by omega, _, rfl, _, rfl, by rw [hS]; show 3 ≤ 16777216; decide, fun L hL => ?_⟩
    have nLp := (hP3.ne hL).1
    have sL := Same.upd_new (o := .lst [V.str ⟨#[c]⟩, V.str ⟨#[c]⟩, V.str (Str.ofString "")]) hL
    have eL : (upd H3 L (.lst [V.str ⟨#[c]⟩, V.str ⟨#[c]⟩, V.str (Str.ofString "")])) L = some (.lst [V.str ⟨#[c]⟩, V.str ⟨#[c]⟩, V.str (Str.ofString "")]) := upd_same
    have hPL := hP3.upd_new (o := .lst [V.str ⟨#[c]⟩, V.str ⟨#[c]⟩, V.str (Str.ofString "")]) hL
    refine ⟨_, rfl, p, q, 3, rfl, by decide, by decide, hPL, fun e H4 e0 e1 hP4 o4 => ?_⟩
    have eL4 := o4 _ _ eL nLp
    obtain ⟨z, hz, hz1, hza⟩ : ∃ z : Str, atI [V.str ⟨#[c]⟩, V.str ⟨#[c]⟩, V.str (Str.ofString "")] e = some (.str z) ∧ z.length ≤ 1 ∧ Asc z := by
      have hcA : Asc ⟨#[c]⟩ := fun d hd => by
        obtain rfl : d = c := List.mem_singleton.mp hd
        exact hca
      have h : e = 0 ∨ e = 1 ∨ e = 2 := by omega
      rcases h with rfl | rfl | rfl
      · exact ⟨_, rfl, Nat.le_refl _, hcA⟩
      · exact ⟨_, rfl, Nat.le_refl _, hcA⟩
      · exact ⟨Str.ofString "", rfl, Nat.zero_le _, fun d hd => by cases hd⟩
    have l1 : (cutS x none (some (m : Int))).length = min m x.length := by
      have := len_take (z := x) (k := (m : Int)) (by omega)
      omega
    refine ⟨L, _, e, _, rfl, rfl, SqL.of eL4, hz, _, _, rfl, rfl, by omega, ?_⟩
    refine ⟨_, rfl, _, rfl, _, rfl, p, q, 2, rfl, by decide, by decide, hP4, fun j H5 j0 j1 hP5 o5 => ?_⟩
    have l2 : (cutS x (some ((m : Int) + j)) none).length = x.length - min ((m : Int) + j).toNat x.length := len_drop (by omega)
    have l3 : (cutS x none (some (m : Int)) ++ z).length = (cutS x none (some (m : Int))).length + z.length := len_app _ _
    have l4 : (cutS x none (some (m : Int)) ++ z ++ cutS x (some ((m : Int) + j)) none).length = (cutS x none (some (m : Int)) ++ z).length + (cutS x (some ((m : Int) + j)) none).length := len_app _ _
    refine ⟨_, _, rfl, rfl, _, rfl, x, rfl, by omega, _, _, rfl, rfl, by omega, ?_⟩
    refine k _ H5 (fun d hd => ?_) (by omega) hP5 ((((o2.trans o3).trans sL.off).trans o4).trans o5)
    rw [cs_app, cs_app] at hd
    rcases List.mem_append.mp hd with hd | hd
    · rcases List.mem_append.mp hd with hd | hd
      · exact ha d (mem_cut hd)
      · exact hza d hd
    · exact ha d (mem_cut hd)
  · refine ⟨_, rfl, p, q, 3, rfl, by decide, by decide, hP1, fun r H2 r0 r1 hP2 o2 => ?_⟩
    refine ⟨rfl, _, rfl, ?_⟩
    refine ite2 (fun _ => ?_) (fun _ => ?_)
    · refine ⟨_, rfl, _, _, rfl, rfl, by rw [hS]; decide +kernel, ?_⟩
      refine cont _ _ ⟨_, rfl, ?_, ?_, ?_, hP2, o1.trans o2⟩
      · decide +kernel
      · decide +kernel
      · show ∀ c ∈ cs _, c ≤ 127
        decide +kernel
    · refine cont _ _ ⟨_, rfl, ?_, ?_, ?_, hP2, o1.trans o2⟩
      · decide +kernel
      · decide +kernel
      · show ∀ c ∈ cs _, c ≤ 127
        decide +kernel
end
end K55

set_option Elab.async false
set_option linter.all false
set_option maxRecDepth 100000
set_option maxHeartbeats 1000000
namespace K55
open PySem L2
def scl : V → Prop
  | .int _ => True
  | .str _ => True
  | _ => False
def spSame0 : Sp := fun vs H Q _ => ∃ x : V, vs = [x, x] ∧ scl x ∧ Q (.bl true) H
def spSameT : Sp := fun vs H Q _ => ∃ (a b : Addr) (xs : List V), vs = [.ref a, .ref b] ∧ xs.length ≤ 100000 ∧ (∀ x ∈ xs, scl x) ∧ H a = some (.tup xs) ∧ H b = some (.tup xs) ∧ ∀ H', Same H H' → Q (.bl true) H'
section
variable {P : Program} {w : World} {K : PySem.W.Frag} {mg : Str → Option Value} {base : Heap}
theorem ok_same0 (F : FunN K mg "_law_same" s_law_same P_law_same) (T : Bu mg) : Cal P w K mg base 1 "_law_same" P_law_same spSame0 := by
  refine cal_of F sc_law_same (fun vs H Q E h => ?_) (fun f cdv A outer s H vs Q E hr h => ?_)
  · obtain ⟨i, rfl, _⟩ := h
    rfl
  · obtain ⟨x, rfl, hs, k⟩ := h
    refine ⟨_, (@pss_cons _ _ _ _ _ (@ps_if _ _ _ _ _ _ _ _ (@pt_cmpR _ _ _ _ _ _ _ _ op_isN (@pv _ 1 _ _ (by rfl) (by first | exact Or.inl rfl | exact Or.inr (Or.inl rfl) | exact Or.inr (Or.inr rfl)) (by decide) (by decide)) pe_non (nomark _)) (@pss_one _ _ _ (@ps_ret _ _ _ _ (@pe_cmpR _ _ _ _ _ _ _ _ op_isN (@pv _ 0 _ _ (by rfl) (by first | exact Or.inl rfl | exact Or.inr (Or.inl rfl) | exact Or.inr (Or.inr rfl)) (by decide) (by decide)) pe_non (nomark _)))) pss_nil) (@pss_cons _ _ _ _ _ (@ps_if _ _ _ _ _ _ _ _ (@pt_val _ _ _ (@pe_callB _ _ _ _ _ _ _ _ _ call_isi (by rfl) T.n_isinstance (by decide +kernel) (@pa_cons _ _ _ _ _ (@pv _ 1 _ _ (by rfl) (by first | exact Or.inl rfl | exact Or.inr (Or.inl rfl) | exact Or.inr (Or.inr rfl)) (by decide) (by decide)) (@pa_cons _ _ _ _ _ (@pe_bltn _ _ (V.ty "str") _ _ (by rfl) T.n_str (by decide +kernel) rfl (by decide) (by decide)) pa_nil (by rfl)) (by rfl)) (by decide) (by decide) (by rfl) (by rfl)) (by intro _; rfl)) (@pss_one _ _ _ (@ps_ret _ _ _ _ (@pe_and _ _ _ _ _ _ _ (@pe_callB _ _ _ _ _ _ _ _ _ call_isi (by rfl) T.n_isinstance (by decide +kernel) (@pa_cons _ _ _ _ _ (@pv _ 0 _ _ (by rfl) (by first | exact Or.inl rfl | exact Or.inr (Or.inl rfl) | exact Or.inr (Or.inr rfl)) (by decide) (by decide)) (@pa_cons _ _ _ _ _ (@pe_bltn _ _ (V.ty "str") _ _ (by rfl) T.n_str (by decide +kernel) rfl (by decide) (by decide)) pa_nil (by rfl)) (by rfl)) (by decide) (by decide) (by rfl) (by rfl)) (@pe_one _ _ _ _ _ (@pe_cmpR _ _ _ _ _ _ _ _ op_eq (@pv _ 0 _ _ (by rfl) (by first | exact Or.inl rfl | exact Or.inr (Or.inl rfl) | exact Or.inr (Or.inr rfl)) (by decide) (by decide)) (@pv _ 1 _ _ (by rfl) (by first | exact Or.inl rfl | exact Or.inr (Or.inl rfl) | exact Or.inr (Or.inr rfl)) (by decide) (by decide)) (nomark _)))))) pss_nil) (@pss_cons _ _ _ _ _ (@ps_if _ _ _ _ _ _ _ _ (@pt_val _ _ _ (@pe_callB _ _ _ _ _ _ _ _ _ call_isi (by rfl) T.n_isinstance (by decide +kernel) (@pa_cons _ _ _ _ _ (@pv _ 1 _ _ (by rfl) (by first | exact Or.inl rfl | exact Or.inr (Or.inl rfl) | exact Or.inr (Or.inr rfl)) (by decide) (by decide)) (@pa_cons _ _ _ _ _ (@pe_bltn _ _ (V.ty "int") _ _ (by rfl) T.n_int (by decide +kernel) rfl (by decide) (by decide)) pa_nil (by rfl)) (by rfl)) (by decide) (by decide) (by rfl) (by rfl)) (by intro _; rfl)) (@pss_one _ _ _ (@ps_ret _ _ _ _ (@pe_and _ _ _ _ _ _ _ (@pe_callB _ _ _ _ _ _ _ _ _ call_isi (by rfl) T.n_isinstance (by decide +kernel) (@pa_cons _ _ _ _ _ (@pv _ 0 _ _ (by rfl) (by first | exact Or.inl rfl | exact Or.inr (Or.inl rfl) | exact Or.inr (Or.inr rfl)) (by decide) (by decide)) (@pa_cons _ _ _ _ _ (@pe_bltn _ _ (V.ty "int") _ _ (by rfl) T.n_int (by decide +kernel) rfl (by decide) (by decide)) pa_nil (by rfl)) (by rfl)) (by decide) (by decide) (by rfl) (by rfl)) (@pe_and _ _ _ _ _ _ _ (@pe_cmpR _ _ _ _ _ _ _ _ op_eq (@pe_callB _ _ _ _ _ _ _ _ _ call_isi (by rfl) T.n_isinstance (by decide +kernel) (@pa_cons _ _ _ _ _ (@pv _ 0 _ _ (by rfl) (by first | exact Or.inl rfl | exact Or.inr (Or.inl rfl) | exact Or.inr (Or.inr rfl)) (by decide) (by decide)) (@pa_cons _ _ _ _ _ (@pe_bltn _ _ (V.ty "bool") _ _ (by rfl) T.n_bool (by decide +kernel) rfl (by decide) (by decide)) pa_nil (by rfl)) (by rfl)) (by decide) (by decide) (by rfl) (by rfl)) (@pe_callB _ _ _ _ _ _ _ _ _ call_isi (by rfl) T.n_isinstance (by decide +kernel) (@pa_cons _ _ _ _ _ (@pv _ 1 _ _ (by rfl) (by first | exact Or.inl rfl | exact Or.inr (Or.inl rfl) | exact Or.inr (Or.inr rfl)) (by decide) (by decide)) (@pa_cons _ _ _ _ _ (@pe_bltn _ _ (V.ty "bool") _ _ (by rfl) T.n_bool (by decide +kernel) rfl (by decide) (by decide)) pa_nil (by rfl)) (by rfl)) (by decide) (by decide) (by rfl) (by rfl)) (nomark _)) (@pe_one _ _ _ _ _ (@pe_cmpR _ _ _ _ _ _ _ _ op_eq (@pv _ 0 _ _ (by rfl) (by first | exact Or.inl rfl | exact Or.inr (Or.inl rfl) | exact Or.inr (Or.inr rfl)) (by decide) (by decide)) (@pv _ 1 _ _ (by rfl) (by first | exact Or.inl rfl | exact Or.inr (Or.inl rfl) | exact Or.inr (Or.inr rfl)) (by decide) (by decide)) (nomark _))))))) pss_nil) pss_never))), ?_⟩
    cases x with
    | int i =>
      refine ⟨_, rfl, rfl, _, rfl, ?_⟩
      refine ite2 (fun h1 => absurd (of_decide_eq_true h1) (by simp)) (fun _ => ?_)
      refine ⟨_, rfl, _, _, _, _, rfl, .int i, kit_int_str, _, rfl, ?_⟩
      refine ⟨_, rfl, _, _, _, _, rfl, .int i, kit_int_int, _, rfl, ?_⟩
      refine ⟨_, rfl, _, _, _, _, rfl, .int i, kit_int_int, _, rfl, ?_⟩
      refine ⟨_, rfl, _, _, _, _, rfl, .int i, kit_int_bool, _, rfl, _, _, _, _, rfl, .int i, kit_int_bool, rfl, _, rfl, ?_⟩
      refine ite2 (fun _ => ?_) (fun h1 => absurd (decide_eq_true rfl) h1)
      refine ⟨_, rfl, _, rfl, rfl, ?_⟩
      rw [decide_eq_true rfl]
      exact k
    | str z =>
      refine ⟨_, rfl, rfl, _, rfl, ?_⟩
      refine ite2 (fun h1 => absurd (of_decide_eq_true h1) (by simp)) (fun _ => ?_)
      refine ⟨_, rfl, _, _, _, _, rfl, .str z, kit_str_str, _, rfl, ?_⟩
      refine ⟨_, rfl, _, _, _, _, rfl, .str z, kit_str_str, _, rfl, ?_⟩
      refine ⟨_, rfl, _, rfl, rfl, ?_⟩
      rw [decide_eq_true rfl]
      exact k
    | _ => exact False.elim hs
theorem ok_sameT (F : FunN K mg "_law_same" s_law_same P_law_same) (T : Bu mg) (c__law_same : Cal P w K mg base 1 "_law_same" P_law_same spSame0) : Cal P w K mg base 2 "_law_same" P_law_same spSameT := by
  refine cal_of F sc_law_same (fun vs H Q E h => ?_) (fun f cdv A outer s H vs Q E hr h => ?_)
  · obtain ⟨a, b, ns, rfl, _⟩ := h
    rfl
  · obtain ⟨a, b, xs, rfl, hn, hsc, ha, hb, k⟩ := h
    have hS : sizeLine = 16777216 := szl
    refine ⟨_, (@pss_cons _ _ _ _ _ (@ps_if _ _ _ _ _ _ _ _ (@pt_cmpR _ _ _ _ _ _ _ _ op_isN (@pv _ 1 _ _ (by rfl) (by first | exact Or.inl rfl | exact Or.inr (Or.inl rfl) | exact Or.inr (Or.inr rfl)) (by decide) (by decide)) pe_non (nomark _)) (@pss_one _ _ _ (@ps_ret _ _ _ _ (@pe_cmpR _ _ _ _ _ _ _ _ op_isN (@pv _ 0 _ _ (by rfl) (by first | exact Or.inl rfl | exact Or.inr (Or.inl rfl) | exact Or.inr (Or.inr rfl)) (by decide) (by decide)) pe_non (nomark _)))) pss_nil) (@pss_cons _ _ _ _ _ (@ps_if _ _ _ _ _ _ _ _ (@pt_val _ _ _ (@pe_callB _ _ _ _ _ _ _ _ _ call_isi (by rfl) T.n_isinstance (by decide +kernel) (@pa_cons _ _ _ _ _ (@pv _ 1 _ _ (by rfl) (by first | exact Or.inl rfl | exact Or.inr (Or.inl rfl) | exact Or.inr (Or.inr rfl)) (by decide) (by decide)) (@pa_cons _ _ _ _ _ (@pe_bltn _ _ (V.ty "str") _ _ (by rfl) T.n_str (by decide +kernel) rfl (by decide) (by decide)) pa_nil (by rfl)) (by rfl)) (by decide) (by decide) (by rfl) (by rfl)) (by intro _; rfl)) (@pss_one _ _ _ (@ps_ret _ _ _ _ (@pe_and _ _ _ _ _ _ _ (@pe_callB _ _ _ _ _ _ _ _ _ call_isi (by rfl) T.n_isinstance (by decide +kernel) (@pa_cons _ _ _ _ _ (@pv _ 0 _ _ (by rfl) (by first | exact Or.inl rfl | exact Or.inr (Or.inl rfl) | exact Or.inr (Or.inr rfl)) (by decide) (by decide)) (@pa_cons _ _ _ _ _ (@pe_bltn _ _ (V.ty "str") _ _ (by rfl) T.n_str (by decide +kernel) rfl (by decide) (by decide)) pa_nil (by rfl)) (by rfl)) (by decide) (by decide) (by rfl) (by rfl)) (@pe_one _ _ _ _ _ (@pe_cmpR _ _ _ _ _ _ _ _ op_eq (@pv _ 0 _ _ (by rfl) (by first | exact Or.inl rfl | exact Or.inr (Or.inl rfl) | exact Or.inr (Or.inr rfl)) (by decide) (by decide)) (@pv _ 1 _ _ (by rfl) (by first | exact Or.inl rfl | exact Or.inr (Or.inl rfl) | exact Or.inr (Or.inr rfl)) (by decide) (by decide)) (nomark _)))))) pss_nil) (@pss_cons _ _ _ _ _ (@ps_if _ _ _ _ _ _ _ _ (@pt_val _ _ _ (@pe_callB _ _ _ _ _ _ _ _ _ call_isi (by rfl) T.n_isinstance (by decide +kernel) (@pa_cons _ _ _ _ _ (@pv _ 1 _ _ (by rfl) (by first | exact Or.inl rfl | exact Or.inr (Or.inl rfl) | exact Or.inr (Or.inr rfl)) (by decide) (by decide)) (@pa_cons _ _ _ _ _ (@pe_bltn _ _ (V.ty "int") _ _ (by rfl) T.n_int (by decide +kernel) rfl (by decide) (by decide)) pa_nil (by rfl)) (by rfl)) (by decide) (by decide) (by rfl) (by rfl)) (by intro _; rfl)) (@pss_one _ _ _ (@ps_ret _ _ _ _ (@pe_and _ _ _ _ _ _ _ (@pe_callB _ _ _ _ _ _ _ _ _ call_isi (by rfl) T.n_isinstance (by decide +kernel) (@pa_cons _ _ _ _ _ (@pv _ 0 _ _ (by rfl) (by first | exact Or.inl rfl | exact Or.inr (Or.inl rfl) | exact Or.inr (Or.inr rfl)) (by decide) (by decide)) (@pa_cons _ _ _ _ _ (@pe_bltn _ _ (V.ty "int") _ _ (by rfl) T.n_int (by decide +kernel) rfl (by decide) (by decide)) pa_nil (by rfl)) (by rfl)) (by decide) (by decide) (by rfl) (by rfl)) (@pe_and _ _ _ _ _ _ _ (@pe_cmpR _ _ _ _ _ _ _ _ op_eq (@pe_callB _ _ _ _ _ _ _ _ _ call_isi (by rfl) T.n_isinstance (by decide +kernel) (@pa_cons _ _ _ _ _ (@pv _ 0 _ _ (by rfl) (by first | exact Or.inl rfl | exact Or.inr (Or.inl rfl) | exact Or.inr (Or.inr rfl)) (by decide) (by decide)) (@pa_cons _ _ _ _ _ (@pe_bltn _ _ (V.ty "bool") _ _ (by rfl) T.n_bool (by decide +kernel) rfl (by decide) (by decide)) pa_nil (by rfl)) (by rfl)) (by decide) (by decide) (by rfl) (by rfl)) (@pe_callB _ _ _ _ _ _ _ _ _ call_isi (by rfl) T.n_isinstance (by decide +kernel) (@pa_cons _ _ _ _ _ (@pv _ 1 _ _ (by rfl) (by first | exact Or.inl rfl | exact Or.inr (Or.inl rfl) | exact Or.inr (Or.inr rfl)) (by decide) (by decide)) (@pa_cons _ _ _ _ _ (@pe_bltn _ _ (V.ty "bool") _ _ (by rfl) T.n_bool (by decide +kernel) rfl (by decide) (by decide)) pa_nil (by rfl)) (by rfl)) (by decide) (by decide) (by rfl) (by rfl)) (nomark _)) (@pe_one _ _ _ _ _ (@pe_cmpR _ _ _ _ _ _ _ _ op_eq (@pv _ 0 _ _ (by rfl) (by first | exact Or.inl rfl | exact Or.inr (Or.inl rfl) | exact Or.inr (Or.inr rfl)) (by decide) (by decide)) (@pv _ 1 _ _ (by rfl) (by first | exact Or.inl rfl | exact Or.inr (Or.inl rfl) | exact Or.inr (Or.inr rfl)) (by decide) (by decide)) (nomark _))))))) pss_nil) (@pss_cons _ _ _ _ _ (@ps_if _ _ _ _ _ _ _ _ (@pt_cmpR _ _ _ _ _ _ _ _ op_ne (@pe_callB _ _ _ _ _ _ _ _ _ call_isi (by rfl) T.n_isinstance (by decide +kernel) (@pa_cons _ _ _ _ _ (@pv _ 1 _ _ (by rfl) (by first | exact Or.inl rfl | exact Or.inr (Or.inl rfl) | exact Or.inr (Or.inr rfl)) (by decide) (by decide)) (@pa_cons _ _ _ _ _ (@pe_bltn _ _ (V.ty "tuple") _ _ (by rfl) T.n_tuple (by decide +kernel) rfl (by decide) (by decide)) pa_nil (by rfl)) (by rfl)) (by decide) (by decide) (by rfl) (by rfl)) (@pe_callB _ _ _ _ _ _ _ _ _ call_isi (by rfl) T.n_isinstance (by decide +kernel) (@pa_cons _ _ _ _ _ (@pv _ 0 _ _ (by rfl) (by first | exact Or.inl rfl | exact Or.inr (Or.inl rfl) | exact Or.inr (Or.inr rfl)) (by decide) (by decide)) (@pa_cons _ _ _ _ _ (@pe_bltn _ _ (V.ty "tuple") _ _ (by rfl) T.n_tuple (by decide +kernel) rfl (by decide) (by decide)) pa_nil (by rfl)) (by rfl)) (by decide) (by decide) (by rfl) (by rfl)) (nomark _)) (@pss_one _ _ _ (@ps_ret _ _ _ _ pe_bl)) pss_nil) (@pss_cons _ _ _ _ _ (@ps_if _ _ _ _ _ _ _ _ (@pt_cmpR _ _ _ _ _ _ _ _ op_ne (@pe_callB _ _ _ _ _ _ _ _ _ call_isi (by rfl) T.n_isinstance (by decide +kernel) (@pa_cons _ _ _ _ _ (@pv _ 1 _ _ (by rfl) (by first | exact Or.inl rfl | exact Or.inr (Or.inl rfl) | exact Or.inr (Or.inr rfl)) (by decide) (by decide)) (@pa_cons _ _ _ _ _ (@pe_bltn _ _ (V.ty "list") _ _ (by rfl) T.n_list (by decide +kernel) rfl (by decide) (by decide)) pa_nil (by rfl)) (by rfl)) (by decide) (by decide) (by rfl) (by rfl)) (@pe_callB _ _ _ _ _ _ _ _ _ call_isi (by rfl) T.n_isinstance (by decide +kernel) (@pa_cons _ _ _ _ _ (@pv _ 0 _ _ (by rfl) (by first | exact Or.inl rfl | exact Or.inr (Or.inl rfl) | exact Or.inr (Or.inr rfl)) (by decide) (by decide)) (@pa_cons _ _ _ _ _ (@pe_bltn _ _ (V.ty "list") _ _ (by rfl) T.n_list (by decide +kernel) rfl (by decide) (by decide)) pa_nil (by rfl)) (by rfl)) (by decide) (by decide) (by rfl) (by rfl)) (nomark _)) (@pss_one _ _ _ (@ps_ret _ _ _ _ pe_bl)) pss_nil) (@pss_cons _ _ _ _ _ (@ps_if _ _ _ _ _ _ _ _ (@pt_cmpR _ _ _ _ _ _ _ _ op_ne (@pe_callB _ _ _ _ _ _ _ _ _ call_len_seq (by rfl) T.n_len (by decide +kernel) (@pa_cons _ _ _ _ _ (@pv _ 0 _ _ (by rfl) (by first | exact Or.inl rfl | exact Or.inr (Or.inl rfl) | exact Or.inr (Or.inr rfl)) (by decide) (by decide)) pa_nil (by rfl)) (by decide) (by decide) (by rfl) (by rfl)) (@pe_callB _ _ _ _ _ _ _ _ _ call_len_seq (by rfl) T.n_len (by decide +kernel) (@pa_cons _ _ _ _ _ (@pv _ 1 _ _ (by rfl) (by first | exact Or.inl rfl | exact Or.inr (Or.inl rfl) | exact Or.inr (Or.inr rfl)) (by decide) (by decide)) pa_nil (by rfl)) (by decide) (by decide) (by rfl) (by rfl)) (nomark _)) (@pss_one _ _ _ (@ps_ret _ _ _ _ pe_bl)) pss_nil) (@pss_one _ _ _ (@ps_ret _ _ _ _ (@pe_cmpR _ _ _ _ _ _ _ _ op_notIn_seq pe_bl (@pe_lc _ _ _ _ _ _ ([("one", 2), ("other", 3)]) _ _ _ _ _ (by rfl) sc_law_same.nd (@pi_zipS true true _ _ _ _ _ _ _ _ _ (by rfl) T.n_zip (@pa_cons _ _ _ _ _ (@pv _ 0 _ _ (by rfl) (by first | exact Or.inl rfl | exact Or.inr (Or.inl rfl) | exact Or.inr (Or.inr rfl)) (by decide) (by decide)) (@pa_cons _ _ _ _ _ (@pv _ 1 _ _ (by rfl) (by first | exact Or.inl rfl | exact Or.inr (Or.inl rfl) | exact Or.inr (Or.inr rfl)) (by decide) (by decide)) pa_nil (by rfl)) (by rfl)) (by rfl) (by rfl)) (@blkOk_by (N_law_same) (defScope s_law_same) _ ([("one", 2), ("other", 3)]) (by decide +kernel)) (fun _ _ _ _ _ => (show PG _ _ (gTup K _ _) from (@pg_tup _ _ _ _ _ (2) (by rfl) (@pgs_cons _ _ _ _ _ (@pg_name _ _ (2) _ sc_law_same.nd rfl (Or.inl rfl) (by first | exact .inl rfl | exact .inr rfl)) (@pgs_cons _ _ _ _ _ (@pg_name _ _ (3) _ sc_law_same.nd rfl (Or.inl rfl) (by first | exact .inl rfl | exact .inr rfl)) pgs_nil (by rfl)) (by rfl)) (by rfl) (by rfl)))) (fun _ _ _ _ _ => pts_nil) (fun _ _ _ _ _ => (@pe_cal _ _ _ _ _ _ _ _ _ _ c__law_same (hr.mono (by decide)) (by rfl) (@pa_cons _ _ _ _ _ (@pv _ 2 _ _ (by rfl) (by first | exact Or.inl rfl | exact Or.inr (Or.inl rfl) | exact Or.inr (Or.inr rfl)) (by decide) (by decide)) (@pa_cons _ _ _ _ _ (@pv _ 3 _ _ (by rfl) (by first | exact Or.inl rfl | exact Or.inr (Or.inl rfl) | exact Or.inr (Or.inr rfl)) (by decide) (by decide)) pa_nil (by rfl)) (by rfl)) (by decide) (by rfl) (by rfl))) (by intro _; rfl)) (by with_unfolding_all rfl)))))))))), ?_⟩
    refine ⟨_, rfl, rfl, _, rfl, ?_⟩
    refine ite2 (fun h1 => absurd (of_decide_eq_true h1) (by simp)) (fun _ => ?_)
    refine ⟨_, rfl, _, _, _, _, rfl, .tup hb, kit_tuple_str, _, rfl, ?_⟩
    refine ⟨_, rfl, _, _, _, _, rfl, .tup hb, kit_tuple_int, _, rfl, ?_⟩
    refine ⟨_, rfl, _, _, _, _, rfl, .tup hb, kit_tuple_tuple, _, rfl, _, _, _, _, rfl, .tup ha, kit_tuple_tuple, rfl, _, rfl, ?_⟩
    refine iteNS rfl ?_
    refine ⟨_, rfl, _, _, _, _, rfl, .tup hb, kit_tuple_list, _, rfl, _, _, _, _, rfl, .tup ha, kit_tuple_list, rfl, _, rfl, ?_⟩
    refine iteNS rfl ?_
    refine ⟨_, rfl, a, _, rfl, .inr (SqT.of ha), _, rfl, b, _, rfl, .inr (SqT.of hb), rfl, _, rfl, ?_⟩
    refine ite2 (fun h1 => by simp at h1) (fun _ => ?_)
    refine ⟨_, rfl, _, rfl, a, b, _, _, rfl, SqT.of ha, SqT.of hb, fun D hD => ?_⟩
    refine ⟨fun i m H' => m = xs.length - i ∧ i ≤ xs.length ∧ Same H H' ∧ H' D = some (.lst ((List.replicate i true).map V.bl)), ⟨_, rfl, Nat.zero_le _, Same.upd_new hD, upd_same⟩, ?_⟩
    rintro i m H1 ⟨rfl, hi, sm, hD1⟩
    have ha1 := sm _ _ ha
    have hb1 := sm _ _ hb
    by_cases hlt : i < xs.length
    · refine .inr ⟨⟨_, _, _, _, SqT.of ha1, SqT.of hb1, (show xs[i]? = some xs[i] by simp [hlt]), (show xs[i]? = some xs[i] by simp [hlt])⟩,
        fun H' => Same H H' ∧ H' D = some (.lst ((List.replicate (i + 1) true).map V.bl)), fun H' ⟨s', d'⟩ => ⟨_, by omega, rfl, hlt, s', d'⟩, ?_⟩
      rintro v _ ⟨U, x, y, rfl, hU, rfl, fx, fy⟩
      have ex : x = xs[i] := by
        have := fx _ (SqT.of ha1)
        simp [hlt] at this
        exact this.symm
      have ey : y = xs[i] := by
        have := fy _ (SqT.of hb1)
        simp [hlt] at this
        exact this.symm
      subst ex ey
      have nDU : D ≠ U := ne_of_none hD1 hU
      refine ⟨U, _, rfl, SqT.of upd_same, rfl, _, _, rfl, _, _, rfl, rfl, rfl, ?_⟩
      refine ⟨_, rfl, _, rfl, _, rfl, hsc _ (List.getElem_mem hlt), _, (by rw [upd_ne nDU]; exact hD1), by rw [List.length_map, List.length_replicate]; omega, fun c o hc => ?_, ?_⟩
      · rw [upd_ne (ne_of_none hc hD), upd_ne (ne_of_none (sm c o hc) hU)]
        exact sm c o hc
      · rw [upd_same, List.replicate_succ', List.map_append]
        rfl
    · have ei : i = xs.length := by omega
      subst ei
      refine .inl ⟨⟨_, _, SqT.of ha1, SqT.of hb1, .inl (Nat.le_refl _)⟩, D, _, rfl, .inl (SqL.of hD1), rfl, ?_, ?_⟩
      · rw [List.all_eq_true]
        intro v mv
        obtain ⟨c, _, rfl⟩ := List.mem_map.mp mv
        rfl
      · have e : inV (V.bl false) ((List.replicate xs.length true).map V.bl) = false := by
          show ((List.replicate xs.length true).map V.bl).any (fun y => eqV y (V.bl false)) = false
          rw [List.any_eq_false]
          intro v mv
          obtain ⟨c, hc, rfl⟩ := List.mem_map.mp mv
          rw [List.eq_of_mem_replicate hc]
          decide
        show Q (.bl (!inV _ _)) _
        rw [e]
        exact k H1 sm
end
def spSameP : Sp := fun vs H Q _ => ∃ (a b : Addr) (us vs' : List V) (ps : List Prt), vs = [.ref a, .ref b] ∧ ps.length ≤ 100000 ∧ H a = some (.tup us) ∧ H b = some (.tup vs') ∧ Prts H us ps ∧ Prts H vs' ps ∧ ∀ H', Same H H' → Q (.bl true) H'
theorem Prts.at' {H : Hp} {vs : List V} {ps : List Prt} (h : Prts H vs ps) : ∀ {i : Nat} {v : V}, vs[i]? = some v → ∃ r p, v = .ref r ∧ ps[i]? = some p ∧ H r = some (.tup (pV p)) := by
  induction h with
  | nil => intro i v hv; simp at hv
  | @cons r p vs ps hr _ ih =>
    intro i v hv
    cases i with
    | zero =>
      simp at hv
      exact ⟨r, p, hv.symm, rfl, hr⟩
    | succ i =>
      simp at hv
      obtain ⟨r', p', a, b, c⟩ := ih hv
      exact ⟨r', p', a, by simpa using b, c⟩
theorem scl_pV : ∀ (p : Prt), (∀ x ∈ pV p, scl x) ∧ (pV p).length ≤ 100000
  | .inl a => ⟨fun x hx => by
      simp only [pV, List.mem_cons, List.not_mem_nil, or_false] at hx
      rcases hx with rfl | rfl <;> trivial, by simp [pV]⟩
  | .inr (o, m) => ⟨fun x hx => by
      simp only [pV, List.mem_cons, List.not_mem_nil, or_false] at hx
      rcases hx with rfl | rfl | rfl <;> trivial, by simp [pV]⟩
section
variable {P : Program} {w : World} {K : PySem.W.Frag} {mg : Str → Option Value} {base : Heap}
end
end K55

set_option Elab.async false
set_option linter.all false
set_option maxRecDepth 100000
set_option maxHeartbeats 1000000
namespace K55
open PySem L2
/-- the part that a word writes -/
def prL (l : List Nat) : Option Prt := if letL l = true then some (.inl (l.headD 0)) else match splL 58 l with
  | [a, b] => (match numW a, numW b with
    | some o, some m => if 1 ≤ m then some (.inr (o, m)) else none
    | _, _ => none)
  | _ => none
def colS : Str := ⟨#[58]⟩
theorem numW_no {l : List Nat} (h : 58 ∈ l) : numW l = none := by
  unfold numW
  rw [if_pos]
  refine .inr (.inr (.inl ?_))
  cases q : l.all isDg with
  | false => rfl
  | true => exact absurd (List.all_eq_true.mp q 58 h) (by decide)
def twoN (a b : List Nat) : Option Prt := match numW a, numW b with
  | some o, some m => if 1 ≤ m then some (.inr (o, m)) else none
  | _, _ => none
theorem first_colon : ∀ {l : List Nat}, 58 ∈ l → ∃ a b, 58 ∉ a ∧ l = a ++ 58 :: b
  | c :: l, h => by
    by_cases e : c = 58
    · subst e
      exact ⟨[], l, by simp, rfl⟩
    · rcases List.mem_cons.mp h with h | h
      · exact absurd h.symm e
      · obtain ⟨a, b, h1, rfl⟩ := first_colon h
        refine ⟨c :: a, b, fun q => ?_, rfl⟩
        rcases List.mem_cons.mp q with q | q
        · exact e q.symm
        · exact h1 q
theorem splL_two {b : List Nat} (h : 58 ∈ b) : ∃ u v w, splL 58 b = u :: v :: w := by
  obtain ⟨a, c, h1, rfl⟩ := first_colon h
  rw [splL_app h1]
  cases e : splL 58 c with
  | nil => exact absurd e (splL_ne 58 c)
  | cons v w => exact ⟨a, v, w, rfl⟩
/-- read by the first colon -/
theorem prL_part {x : Str} (h : letL (cs x) = false) : prL (cs x) = twoN (cs (Txt.partition x colS).1) (cs (Txt.partition x colS).2.2) := by
  unfold prL
  rw [if_neg (by rw [h]; decide)]
  by_cases hc : 58 ∈ cs x
  · obtain ⟨a, b, h1, hx⟩ := first_colon hc
    have ex : x = (⟨a.toArray⟩ : Str) ++ colS ++ ⟨b.toArray⟩ := cs_inj (by rw [cs_app, cs_app, hx]; show _ = a ++ [58] ++ b; simp)
    have ep : Txt.partition x colS = (⟨a.toArray⟩, colS, ⟨b.toArray⟩) := by
      rw [ex]
      exact TL.partition_app (y := colS) (s := 58) (S := []) rfl (by show 58 ∉ a.toArray.toList; simpa using h1)
    rw [ep, hx, splL_app h1]
    show _ = twoN a.toArray.toList b.toArray.toList
    by_cases hb : 58 ∈ b
    · obtain ⟨u, v, w, e⟩ := splL_two hb
      rw [e]
      show none = twoN a b
      unfold twoN
      rw [numW_no hb]
      cases numW a <;> rfl
    · rw [splL_free hb]
      rfl
  · have ep : Txt.partition x colS = (x, Str.empty, Str.empty) := TL.partition_none (y := colS) (s := 58) (S := []) rfl hc
    rw [ep, splL_free hc]
    show none = twoN (cs x) []
    unfold twoN
    cases numW (cs x) <;> rfl
def spRPt : Sp := fun vs H Q _ => ∃ x : Str, vs = [.str x] ∧ x.length ≤ 100000 ∧ (prL (cs x) = none → ∀ H', Same H H' → Q .non H') ∧ (∀ p, prL (cs x) = some p → ∀ (t : Addr) (H' : Hp), H t = none → H' t = some (.tup (pV p)) → Same H H' → Q (.ref t) H')
def spLen : Sp := fun vs H Q _ => ∃ (a : Addr) (p : Prt), vs = [.ref a] ∧ H a = some (.tup (pV p)) ∧ Q (.int (pLen p)) H
def rch : Prt → Nat
  | .inl _ => 0
  | .inr (o, m) => o + m
def spRch : Sp := fun vs H Q _ => ∃ (a : Addr) (p : Prt), vs = [.ref a] ∧ H a = some (.tup (pV p)) ∧ Q (.int (rch p : Nat)) H
section
variable {P : Program} {w : World} {K : PySem.W.Frag} {mg : Str → Option Value} {base : Heap}
theorem ok_len (F : FunN K mg "length_of" s_length_of P_length_of) (T : Bu mg) : Cal P w K mg base 1 "length_of" P_length_of spLen := by
  refine cal_of F sc_length_of (fun vs H Q E h => ?_) (fun f cdv A outer s H vs Q E hr h => ?_)
  · obtain ⟨a, p, rfl, _⟩ := h
    rfl
  · obtain ⟨a, p, rfl, ha, k⟩ := h
    refine ⟨_, (@pss_one _ _ _ (@ps_ret _ _ _ _ (@pe_ifExp _ _ _ _ _ _ _ _ (@pt_cmpR _ _ _ _ _ _ _ _ op_eq (@pe_ix _ _ _ _ _ _ _ ix_tup (@pv _ 0 _ _ (by rfl) (by first | exact Or.inl rfl | exact Or.inr (Or.inl rfl) | exact Or.inr (Or.inr rfl)) (by decide) (by decide)) pe_int (fun _ _ => rfl)) pe_str (nomark _)) pe_int (@pe_ix _ _ _ _ _ _ _ ix_tup (@pv _ 0 _ _ (by rfl) (by first | exact Or.inl rfl | exact Or.inr (Or.inl rfl) | exact Or.inr (Or.inr rfl)) (by decide) (by decide)) pe_int (fun _ _ => rfl))))), ?_⟩
    match p, ha, k with
    | .inl c, ha, k =>
      refine ⟨_, rfl, a, _, 0, _, rfl, rfl, SqT.of ha, rfl, rfl, _, rfl, ?_⟩
      exact ite2 (fun _ => k) (fun h => absurd (decide_eq_true rfl) h)
    | .inr (o, m), ha, k =>
      refine ⟨_, rfl, a, _, 0, _, rfl, rfl, SqT.of ha, rfl, rfl, _, rfl, ?_⟩
      refine ite2 (fun h => absurd h (by decide +kernel)) (fun _ => ?_)
      exact ⟨_, rfl, a, _, 2, _, rfl, rfl, SqT.of ha, rfl, k⟩
theorem ok_rch (F : FunN K mg "reach_of" s_reach_of P_reach_of) (T : Bu mg) : Cal P w K mg base 1 "reach_of" P_reach_of spRch := by
  refine cal_of F sc_reach_of (fun vs H Q E h => ?_) (fun f cdv A outer s H vs Q E hr h => ?_)
  · obtain ⟨a, p, rfl, _⟩ := h
    rfl
  · obtain ⟨a, p, rfl, ha, k⟩ := h
    refine ⟨_, (@pss_one _ _ _ (@ps_ret _ _ _ _ (@pe_ifExp _ _ _ _ _ _ _ _ (@pt_cmpR _ _ _ _ _ _ _ _ op_eq (@pe_ix _ _ _ _ _ _ _ ix_tup (@pv _ 0 _ _ (by rfl) (by first | exact Or.inl rfl | exact Or.inr (Or.inl rfl) | exact Or.inr (Or.inr rfl)) (by decide) (by decide)) pe_int (fun _ _ => rfl)) pe_str (nomark _)) pe_int (@pe_op _ _ _ _ _ _ _ _ op_add (@pe_ix _ _ _ _ _ _ _ ix_tup (@pv _ 0 _ _ (by rfl) (by first | exact Or.inl rfl | exact Or.inr (Or.inl rfl) | exact Or.inr (Or.inr rfl)) (by decide) (by decide)) pe_int (fun _ _ => rfl)) (@pe_ix _ _ _ _ _ _ _ ix_tup (@pv _ 0 _ _ (by rfl) (by first | exact Or.inl rfl | exact Or.inr (Or.inl rfl) | exact Or.inr (Or.inr rfl)) (by decide) (by decide)) pe_int (fun _ _ => rfl)))))), ?_⟩
    match p, ha, k with
    | .inl c, ha, k =>
      refine ⟨_, rfl, a, _, 0, _, rfl, rfl, SqT.of ha, rfl, rfl, _, rfl, ?_⟩
      exact ite2 (fun _ => k) (fun h => absurd (decide_eq_true rfl) h)
    | .inr (o, m), ha, k =>
      refine ⟨_, rfl, a, _, 0, _, rfl, rfl, SqT.of ha, rfl, rfl, _, rfl, ?_⟩
      refine ite2 (fun h => absurd h (by decide +kernel)) (fun _ => ?_)
      refine ⟨_, rfl, a, _, 1, _, rfl, rfl, SqT.of ha, rfl, _, rfl, a, _, 2, _, rfl, rfl, SqT.of ha, rfl, _, _, rfl, rfl, ?_⟩
      have e : ((o : Int) + (m : Int)) = ((o + m : Nat) : Int) := by omega
      show Q (V.int ((o : Int) + (m : Int))) H
      rw [e]
      exact k
theorem ok_rpart (F : FunN K mg "read_part" s_read_part P_read_part) (T : Bu mg) (c_is_one_letter : Cal P w K mg base 2 "is_one_letter" P_is_one_letter spOneS) (c_read_number : Cal P w K mg base 1 "read_number" P_read_number spNum) : Cal P w K mg base 3 "read_part" P_read_part spRPt := by
  refine cal_of F sc_read_part (fun vs H Q E h => ?_) (fun f cdv A outer s H vs Q E hr h => ?_)
  · obtain ⟨x, rfl, _⟩ := h
    rfl
  obtain ⟨x, rfl, hx, k1, k2⟩ := h
  have hS : sizeLine = 16777216 := szl
  have e1 : Str.ofString ":" = colS := by decide +kernel
  refine ⟨_, (@pss_cons _ _ _ _ _ (@ps_if _ _ _ _ _ _ _ _ (@pt_val _ _ _ (@pe_cal _ _ _ _ _ _ _ _ _ _ c_is_one_letter (hr.mono (by decide)) (by rfl) (@pa_cons _ _ _ _ _ (@pv _ 0 _ _ (by rfl) (by first | exact Or.inl rfl | exact Or.inr (Or.inl rfl) | exact Or.inr (Or.inr rfl)) (by decide) (by decide)) pa_nil (by rfl)) (by decide) (by rfl) (by rfl)) (by intro _; rfl)) (@pss_one _ _ _ (@ps_ret _ _ _ _ (@pe_tup _ _ _ _ _ (@pa_cons _ _ _ _ _ pe_str (@pa_cons _ _ _ _ _ (@pv _ 0 _ _ (by rfl) (by first | exact Or.inl rfl | exact Or.inr (Or.inl rfl) | exact Or.inr (Or.inr rfl)) (by decide) (by decide)) pa_nil (by rfl)) (by rfl))))) pss_nil) (@pss_cons _ _ _ _ _ (@ps_asg _ _ _ _ _ _ (@pe_m1 _ _ _ _ _ _ _ _ _ _ PySem.F.slot_str_partition PySem.F.type_str_partition mt_partition (@pv _ 0 _ _ (by rfl) (by first | exact Or.inl rfl | exact Or.inr (Or.inl rfl) | exact Or.inr (Or.inr rfl)) (by decide) (by decide)) pe_str (by rfl) (by rfl) (by rfl)) (@pg_tup _ _ _ _ _ _ (by rfl) (@pgs_cons _ _ _ _ _ (@pg_name _ _ (1) _ sc_read_part.nd rfl (Or.inl rfl) (by first | exact .inl rfl | exact .inr rfl)) (@pgs_cons _ _ _ _ _ (@pg_name _ _ (2) _ sc_read_part.nd rfl (Or.inl rfl) (by first | exact .inl rfl | exact .inr rfl)) (@pgs_cons _ _ _ _ _ (@pg_name _ _ (3) _ sc_read_part.nd rfl (Or.inl rfl) (by first | exact .inl rfl | exact .inr rfl)) pgs_nil (by rfl)) (by rfl)) (by rfl)) (by rfl) (by rfl)) (by rfl) (by rfl) (by rfl)) (@pss_cons _ _ _ _ _ (@ps_set _ _ (4) _ _ _ _ sc_read_part.nd rfl (Or.inl rfl) (@pe_cal _ _ _ _ _ _ _ _ _ _ c_read_number (hr.mono (by decide)) (by rfl) (@pa_cons _ _ _ _ _ (@pv _ 1 _ _ (by rfl) (by first | exact Or.inl rfl | exact Or.inr (Or.inl rfl) | exact Or.inr (Or.inr rfl)) (by decide) (by decide)) pa_nil (by rfl)) (by decide) (by rfl) (by rfl)) (by rfl) (by first | exact .inl rfl | exact .inr rfl)) (@pss_cons _ _ _ _ _ (@ps_set _ _ (5) _ _ _ _ sc_read_part.nd rfl (Or.inl rfl) (@pe_cal _ _ _ _ _ _ _ _ _ _ c_read_number (hr.mono (by decide)) (by rfl) (@pa_cons _ _ _ _ _ (@pv _ 3 _ _ (by rfl) (by first | exact Or.inl rfl | exact Or.inr (Or.inl rfl) | exact Or.inr (Or.inr rfl)) (by decide) (by decide)) pa_nil (by rfl)) (by decide) (by rfl) (by rfl)) (by rfl) (by first | exact .inl rfl | exact .inr rfl)) (@pss_cons _ _ _ _ _ (@ps_if _ _ _ _ _ _ _ _ (@PW.pt _ _ _ (@pw_or _ _ _ _ _ _ _ (@pt_cmpR _ _ _ _ _ _ _ _ op_isN (@pv _ 4 _ _ (by rfl) (by first | exact Or.inl rfl | exact Or.inr (Or.inl rfl) | exact Or.inr (Or.inr rfl)) (by decide) (by decide)) pe_non (nomark _)) (@pw_or _ _ _ _ _ _ _ (@pt_cmpR _ _ _ _ _ _ _ _ op_isN (@pv _ 5 _ _ (by rfl) (by first | exact Or.inl rfl | exact Or.inr (Or.inl rfl) | exact Or.inr (Or.inr rfl)) (by decide) (by decide)) pe_non (nomark _)) (@pw_or1 _ _ _ _ (@pt_cmpR _ _ _ _ _ _ _ _ op_lt (@pv _ 5 _ _ (by rfl) (by first | exact Or.inl rfl | exact Or.inr (Or.inl rfl) | exact Or.inr (Or.inr rfl)) (by decide) (by decide)) pe_int (nomark _)))))) (@pss_one _ _ _ (@ps_ret _ _ _ _ pe_non)) pss_nil) (@pss_one _ _ _ (@ps_ret _ _ _ _ (@pe_tup _ _ _ _ _ (@pa_cons _ _ _ _ _ pe_str (@pa_cons _ _ _ _ _ (@pv _ 4 _ _ (by rfl) (by first | exact Or.inl rfl | exact Or.inr (Or.inl rfl) | exact Or.inr (Or.inr rfl)) (by decide) (by decide)) (@pa_cons _ _ _ _ _ (@pv _ 5 _ _ (by rfl) (by first | exact Or.inl rfl | exact Or.inr (Or.inl rfl) | exact Or.inr (Or.inr rfl)) (by decide) (by decide)) pa_nil (by rfl)) (by rfl)) (by rfl)))))))))), ?_⟩
  rw [e1]
  refine ⟨_, rfl, x, rfl, hx, _, rfl, ?_⟩
  refine ite2 (fun h => ?_) (fun h => ?_)
  · obtain ⟨c, hc, rfl, _⟩ := ori_let h
    refine ⟨_, rfl, by rw [hS]; show 2 ≤ 16777216; decide, fun t ht => ?_⟩
    have hp : prL (cs (⟨#[c]⟩ : Str)) = some (.inl c) := by
      unfold prL
      rw [if_pos h]
      rfl
    exact k2 _ hp t _ ht upd_same (Same.upd_new ht)
  have h : letL (cs x) = false := by
    cases q : letL (cs x) with
    | false => rfl
    | true => exact absurd q h
  have hp := prL_part h
  try unfold tNext
  try dsimp only
  refine ⟨_, rfl, ⟨_, rfl⟩, x, colS, rfl, rfl, rfl, by omega, fun t0 ht0 => ?_⟩
  have s0 := Same.upd_new (o := .tup [V.str (Txt.partition x colS).1, V.str (Txt.partition x colS).2.1, V.str (Txt.partition x colS).2.2]) ht0
  have psum := StrLaws.partition_sum x colS
  have pl : (Txt.partition x colS).1.length ≤ 100000 ∧ (Txt.partition x colS).2.2.length ≤ 100000 := by
    have e := congrArg Str.length psum
    rw [len_app, len_app] at e
    omega
  refine ⟨t0, _, rfl, SqT.of upd_same, rfl, _, _, rfl, _, _, rfl, _, _, rfl, rfl, ?_⟩
  generalize upd H t0 (.tup [V.str (Txt.partition x colS).1, V.str (Txt.partition x colS).2.1, V.str (Txt.partition x colS).2.2]) = H1 at s0
  generalize (Txt.partition x colS).1 = pa at hp pl
  generalize (Txt.partition x colS).2.1 = pb
  generalize (Txt.partition x colS).2.2 = pc at hp pl
  refine ⟨_, rfl, pa, rfl, pl.1, fun H2 s2 => ?_⟩
  refine ⟨_, rfl, pc, rfl, pl.2, fun H3 s3 => ?_⟩
  have s3 := (s0.trans s2).trans s3
  cases ea : numW (cs pa) with
  | none =>
    have na : nmV pa = .non := by unfold nmV; rw [ea]
    have hp : prL (cs x) = none := by rw [hp]; unfold twoN; rw [ea]
    rw [na]
    refine ⟨_, rfl, rfl, _, rfl, ?_⟩
    exact ite2 (fun _ => k1 hp _ s3) (fun h => absurd (decide_eq_true rfl) h)
  | some o =>
    have na : nmV pa = .int (o : Int) := by unfold nmV; rw [ea]
    rw [na]
    refine ⟨_, rfl, rfl, _, rfl, ?_⟩
    refine ite2 (fun h => absurd (of_decide_eq_true h) (by simp)) (fun _ => ?_)
    cases ec : numW (cs pc) with
    | none =>
      have nc : nmV pc = .non := by unfold nmV; rw [ec]
      have hp : prL (cs x) = none := by rw [hp]; unfold twoN; rw [ea, ec]
      rw [nc]
      refine ⟨_, rfl, rfl, _, rfl, ?_⟩
      exact ite2 (fun _ => k1 hp _ s3) (fun h => absurd (decide_eq_true rfl) h)
    | some m =>
      have nc : nmV pc = .int (m : Int) := by unfold nmV; rw [ec]
      rw [nc]
      refine ⟨_, rfl, rfl, _, rfl, ?_⟩
      refine ite2 (fun h => absurd (of_decide_eq_true h) (by simp)) (fun _ => ?_)
      refine ⟨_, rfl, _, _, rfl, rfl, _, rfl, ?_⟩
      refine ite2 (fun h => ?_) (fun h => ?_)
      · have hm := of_decide_eq_true h
        have hp : prL (cs x) = none := by rw [hp]; unfold twoN; rw [ea, ec]; exact if_neg (by omega)
        exact k1 hp _ s3
      · have hm : 1 ≤ m := by
          have : ¬ (m : Int) < 1 := fun q => h (decide_eq_true q)
          omega
        have hp : prL (cs x) = some (.inr (o, m)) := by rw [hp]; unfold twoN; rw [ea, ec]; exact if_pos hm
        try unfold tNext
        try dsimp only
        refine ⟨_, rfl, _, rfl, by rw [hS]; show 3 ≤ 16777216; decide, fun t ht => ?_⟩
        exact k2 _ hp t _ (s3.free ht) upd_same (s3.trans (Same.upd_new ht))
end
end K55

set_option Elab.async false
set_option linter.all false
set_option maxRecDepth 100000
set_option maxHeartbeats 1000000
namespace K55
open PySem L2
theorem wds_len {l x : Str} (h : x ∈ wds l) : x.length ≤ l.length := by
  have h1 := split_len l 32
  have h2 : ∀ (ws : List Str), x ∈ ws → x.length + 1 ≤ (ws.map (·.length)).sum + ws.length := fun ws => by
    induction ws with
    | nil => intro h; cases h
    | cons y ws ih =>
      intro h
      rw [List.map_cons, List.sum_cons, List.length_cons]
      rcases List.mem_cons.mp h with rfl | h
      · omega
      · have := ih h
        omega
  have h3 := h2 _ h
  have e1 : (wds l).length = (Txt.split l ⟨#[32]⟩).length := rfl
  have e2 : ((wds l).map (·.length)).sum = ((Txt.split l ⟨#[32]⟩).map (·.length)).sum := rfl
  omega
def wdx (x : Str) : List Str := if x.length = 0 then [] else wds x
def prt (w : Str) : Prt := (prL (cs w)).getD (.inl 97)
def prs (ws : List Str) : List Prt := ws.map prt
def okP (t : Nat) (w : Str) : Bool := match prL (cs w) with
  | none => false
  | some p => decide (t + pLen p ≤ 300)
def okAt (ws : List Str) (i : Nat) : Bool := match ws[i]? with
  | none => true
  | some w => okP (sumL (prs (ws.take i))) w
theorem okAt_eq {ws : List Str} {i : Nat} {w : Str} (hw : ws[i]? = some w) : okAt ws i = okP (sumL (prs (ws.take i))) w := by
  unfold okAt
  rw [hw]
def AllOk (ws : List Str) : Prop := ∀ i, okAt ws i = true
def FirstBad (ws : List Str) (n : Nat) : Prop := okAt ws n = false ∧ ∀ j, j < n → okAt ws j = true
theorem ok_or_bad (ws : List Str) : AllOk ws ∨ ∃ n, FirstBad ws n := by
  by_cases h : AllOk ws
  · exact .inl h
  · right
    obtain ⟨n, hn⟩ : ∃ n, okAt ws n = false := by
      by_cases g : ∃ n, okAt ws n = false
      · exact g
      · exact absurd (fun i => by cases e : okAt ws i with | true => rfl | false => exact absurd ⟨i, e⟩ g) h
    induction n using Nat.strongRecOn with
    | _ n ih =>
      by_cases g : ∃ j, j < n ∧ okAt ws j = false
      · obtain ⟨j, hj, e⟩ := g
        exact ih j hj e
      · exact ⟨n, hn, fun j hj => by cases e : okAt ws j with | true => rfl | false => exact absurd ⟨j, hj, e⟩ g⟩
theorem prs_succ {ws : List Str} {i : Nat} {w : Str} (hw : ws[i]? = some w) : prs (ws.take (i + 1)) = prs (ws.take i) ++ [prt w] := by
  unfold prs
  rw [List.take_succ, hw, List.map_append]
  rfl
theorem okAt_some {ws : List Str} {i : Nat} {w : Str} (hw : ws[i]? = some w) (h : okAt ws i = true) : ∃ p, prL (cs w) = some p ∧ prt w = p ∧ sumL (prs (ws.take i)) + pLen p ≤ 300 := by
  rw [okAt_eq hw] at h
  unfold okP at h
  cases e : prL (cs w) with
  | none => rw [e] at h; cases h
  | some p =>
    rw [e] at h
    exact ⟨p, rfl, by unfold prt; rw [e]; rfl, of_decide_eq_true h⟩
theorem okAt_bad {ws : List Str} {i : Nat} {w : Str} (hw : ws[i]? = some w) (h : okAt ws i = false) : ∀ p, prL (cs w) = some p → 300 < sumL (prs (ws.take i)) + pLen p := fun p e => by
  rw [okAt_eq hw] at h
  unfold okP at h
  rw [e] at h
  have := of_decide_eq_false h
  omega
theorem bad_in {ws : List Str} {n : Nat} (h : FirstBad ws n) : n < ws.length := by
  by_cases g : n < ws.length
  · exact g
  · have := h.1
    unfold okAt at this
    rw [List.getElem?_eq_none (by omega)] at this
    cases this
theorem sumL_snoc (ps : List Prt) (p : Prt) : sumL (ps ++ [p]) = sumL ps + pLen p := by
  unfold sumL
  rw [List.map_append, List.sum_append]
  rfl
def spParts : Sp := fun vs H Q _ => ∃ x : Str, vs = [.str x] ∧ x.length ≤ 50000 ∧ AllOk (wdx x) ∧ ∀ (l : Addr) (us : List V) (H' : Hp), H l = none → H' l = some (.lst us) → Prts H' us (prs (wdx x)) → Same H H' → Q (.ref l) H'
def spPartsX (d : Ads) : Sp := fun vs H _ E => ∃ (x : Str) (n : Nat), vs = [.str x] ∧ x.length ≤ 50000 ∧ FirstBad (wdx x) n ∧ ∀ (H' : Hp) (dx : Addr), Same H H' → H' dx = some (.xd [(Str.ofString "number", .int (n : Int))]) → E (.ref d.NoText) (some dx) H'
theorem if_words {K : PySem.W.Frag} {σ : St} {H1 : Hp} {x : Str} {G : VK} (h0 : σ[0]? = some (some (.str x))) (hx : x.length ≤ 50000) (k : ∀ (W : Addr) (H2 : Hp), H1 W = none → Same H1 H2 → H2 W = some (.lst ((wdx x).map V.str)) → G (.ref W) H2) :
    tIf (fun σ H Q => tVar 0 σ H fun x H' => ∃ k, TruV K x H' k ∧ Q k H') (tM1 (fun x xs H Q => ∃ a b, x = V.str a ∧ xs = [V.str b] ∧ (b.length == 0) = false ∧ a.length + 2 ≤ sizeLine ∧ rNewStrs (Txt.split a b) H Q) (tVar 0) (tC (V.str spS))) (tLst tNil) σ H1 G := by
  have hS : sizeLine = 16777216 := szl
  refine ⟨_, h0, _, ⟨by omega, rfl⟩, ?_⟩
  refine ite2 (fun h => ?_) (fun h => ?_)
  · have h : x.length ≠ 0 := fun e => by rw [e] at h; cases h
    have e : wdx x = wds x := by unfold wdx; exact if_neg h
    rw [e] at k
    exact ⟨_, h0, ⟨_, rfl⟩, x, spS, rfl, rfl, by decide, by omega, fun W hW => k W _ hW (Same.upd_new hW) upd_same⟩
  · have h : x.length = 0 := by
      by_cases e : x.length = 0
      · exact e
      · exact absurd (by simpa using e) h
    have e : wdx x = [] := by unfold wdx; exact if_pos h
    rw [e] at k
    exact ⟨by rw [hS]; show 0 ≤ 16777216; decide, fun W hW => k W _ hW (Same.upd_new hW) upd_same⟩
section
variable {P : Program} {w : World} {K : PySem.W.Frag} {mg : Str → Option Value} {base : Heap} {d : Ads}
theorem ok_parts (F : FunN K mg "read_parts" s_read_parts P_read_parts) (T : Bu mg) (c_read_part : Cal P w K mg base 3 "read_part" P_read_part spRPt) (c_length_of : Cal P w K mg base 1 "length_of" P_length_of spLen) : Cal P w K mg base 4 "read_parts" P_read_parts spParts := by
  refine cal_of F sc_read_parts (fun vs H Q E h => ?_) (fun f cdv A outer s H vs Q E hr h => ?_)
  · obtain ⟨x, rfl, _⟩ := h
    rfl
  obtain ⟨x, rfl, hx, hall, k⟩ := h
  have hS : sizeLine = 16777216 := szl
  obtain ⟨tk, h_MOST_SIGNS⟩ := T.c_MOST_SIGNS
  have e1 : Str.ofString " " = spS := by decide +kernel
  refine ⟨_, (@pss_cons _ _ _ _ _ (@ps_set _ _ (1) _ _ _ _ sc_read_parts.nd rfl (Or.inl rfl) (@pe_lst _ _ _ _ pa_nil) (by rfl) (by first | exact .inl rfl | exact .inr rfl)) (@pss_cons _ _ _ _ _ (@ps_set _ _ (2) _ _ _ _ sc_read_parts.nd rfl (Or.inl rfl) pe_int (by rfl) (by first | exact .inl rfl | exact .inr rfl)) (@pss_cons _ _ _ _ _ (@ps_set _ _ (3) _ _ _ _ sc_read_parts.nd rfl (Or.inl rfl) (@pe_ifExp _ _ _ _ _ _ _ _ (@pt_truth _ _ _ (@pv _ 0 _ _ (by rfl) (by first | exact Or.inl rfl | exact Or.inr (Or.inl rfl) | exact Or.inr (Or.inr rfl)) (by decide) (by decide)) (by intro _; rfl)) (pe_split (@pv _ 0 _ _ (by rfl) (by first | exact Or.inl rfl | exact Or.inr (Or.inl rfl) | exact Or.inr (Or.inr rfl)) (by decide) (by decide)) pe_str) (@pe_lst _ _ _ _ pa_nil)) (by rfl) (by first | exact .inl rfl | exact .inr rfl)) (@pss_cons _ _ _ _ _ (@ps_for _ _ _ _ _ _ _ _ PassesOwn.never rfl (@pi_enum _ _ _ _ _ _ _ _ (by rfl) T.n_enumerate (@pa_cons _ _ _ _ _ (@pv _ 3 _ _ (by rfl) (by first | exact Or.inl rfl | exact Or.inr (Or.inl rfl) | exact Or.inr (Or.inr rfl)) (by decide) (by decide)) pa_nil (by rfl)) (by rfl)) (@pg_tup _ _ _ _ _ _ (by rfl) (@pgs_cons _ _ _ _ _ (@pg_name _ _ (4) _ sc_read_parts.nd rfl (Or.inl rfl) (by first | exact .inl rfl | exact .inr rfl)) (@pgs_cons _ _ _ _ _ (@pg_name _ _ (5) _ sc_read_parts.nd rfl (Or.inl rfl) (by first | exact .inl rfl | exact .inr rfl)) pgs_nil (by rfl)) (by rfl)) (by rfl) (by rfl)) (@pss_cons _ _ _ _ _ (@ps_set _ _ (6) _ _ _ _ sc_read_parts.nd rfl (Or.inl rfl) (@pe_cal _ _ _ _ _ _ _ _ _ _ c_read_part (hr.mono (by decide)) (by rfl) (@pa_cons _ _ _ _ _ (@pv _ 5 _ _ (by rfl) (by first | exact Or.inl rfl | exact Or.inr (Or.inl rfl) | exact Or.inr (Or.inr rfl)) (by decide) (by decide)) pa_nil (by rfl)) (by decide) (by rfl) (by rfl)) (by rfl) (by first | exact .inl rfl | exact .inr rfl)) (@pss_cons _ _ _ _ _ (@ps_if _ _ _ _ _ _ _ _ (@PW.pt _ _ _ (@pw_or _ _ _ _ _ _ _ (@pt_cmpR _ _ _ _ _ _ _ _ op_isN (@pv _ 6 _ _ (by rfl) (by first | exact Or.inl rfl | exact Or.inr (Or.inl rfl) | exact Or.inr (Or.inr rfl)) (by decide) (by decide)) pe_non (nomark _)) (@pw_or1 _ _ _ _ (@pt_cmpR _ _ _ _ _ _ _ _ op_gt (@pe_op _ _ _ _ _ _ _ _ op_add (@pv _ 2 _ _ (by rfl) (by first | exact Or.inl rfl | exact Or.inr (Or.inl rfl) | exact Or.inr (Or.inr rfl)) (by decide) (by decide)) (@pe_cal _ _ _ _ _ _ _ _ _ _ c_length_of (hr.mono (by decide)) (by rfl) (@pa_cons _ _ _ _ _ (@pv _ 6 _ _ (by rfl) (by first | exact Or.inl rfl | exact Or.inr (Or.inl rfl) | exact Or.inr (Or.inr rfl)) (by decide) (by decide)) pa_nil (by rfl)) (by decide) (by rfl) (by rfl))) (@pe_glob _ _ (V.int 300) _ _ (by rfl) h_MOST_SIGNS ⟨_, rfl⟩ (by decide)) (nomark _))))) (@pss_one _ _ _ ps_never) pss_nil) (@pss_cons _ _ _ _ _ (@ps_aug _ _ (2) _ _ _ _ _ _ sc_read_parts.nd rfl (Or.inl rfl) (@pe_cal _ _ _ _ _ _ _ _ _ _ c_length_of (hr.mono (by decide)) (by rfl) (@pa_cons _ _ _ _ _ (@pv _ 6 _ _ (by rfl) (by first | exact Or.inl rfl | exact Or.inr (Or.inl rfl) | exact Or.inr (Or.inr rfl)) (by decide) (by decide)) pa_nil (by rfl)) (by decide) (by rfl) (by rfl)) ip_add (by first | exact .inl rfl | exact .inr rfl)) (@pss_one _ _ _ (@ps_expr _ _ _ _ (@pe_bm _ _ _ _ _ _ _ _ _ _ _ _ PySem.F.plainAttrs_list PySem.F.slot_list_append PySem.F.type_list_append mt_append (@pv _ 1 _ _ (by rfl) (by first | exact Or.inl rfl | exact Or.inr (Or.inl rfl) | exact Or.inr (Or.inr rfl)) (by decide) (by decide)) (@pa_cons _ _ _ _ _ (@pv _ 6 _ _ (by rfl) (by first | exact Or.inl rfl | exact Or.inr (Or.inl rfl) | exact Or.inr (Or.inr rfl)) (by decide) (by decide)) pa_nil (by rfl)) (by rfl) (by rfl) (by rfl) (by rfl) (by rfl)) (by rfl)))))) (by intro _; rfl)) (@pss_one _ _ _ (@ps_ret _ _ _ _ (@pv _ 1 _ _ (by rfl) (by first | exact Or.inl rfl | exact Or.inr (Or.inl rfl) | exact Or.inr (Or.inr rfl)) (by decide) (by decide)))))))), ?_⟩
  rw [e1]
  refine ⟨by rw [hS]; show 0 ≤ 16777216; decide, fun L hL => ?_⟩
  have sL := Same.upd_new (o := .lst ([] : List V)) hL
  have eL : (upd H L (.lst [])) L = some (.lst ([] : List V)) := upd_same
  generalize upd H L (.lst ([] : List V)) = H1 at sL eL
  try dsimp only
  refine if_words rfl hx fun W H2 hW sW eW => ?_
  have eL2 := sW _ _ eL
  have sH2 := sL.trans sW
  have nLW : L ≠ W := ne_of_none eL hW
  have hwc : (wdx x).length ≤ 50001 := by
    unfold wdx
    split
    · exact Nat.zero_le _
    · have h := split_len x 32
      have e : (wds x).length = (Txt.split x ⟨#[32]⟩).length := rfl
      omega
  have hwl : ∀ y ∈ wdx x, y.length ≤ 50000 := fun y hy => by
    unfold wdx at hy
    split at hy
    · cases hy
    · exact Nat.le_trans (wds_len hy) hx
  refine ⟨_, rfl, W, _, rfl, SqL.of eW, ?_⟩
  refine for_enum0 (K := K) (a := W) (xs := (wdx x).map V.str) (fun i σ H' => ∃ (us : List V) (v4 v5 v6 : Option V), σ = [some (.str x), some (.ref L), some (.int ((sumL (prs ((wdx x).take i)) : Nat) : Int)), some (.ref W), v4, v5, v6] ∧ Same H H' ∧ H' W = some (.lst ((wdx x).map V.str)) ∧ H' L = some (.lst us) ∧ Prts H' us (prs ((wdx x).take i))) ⟨[], _, _, _, rfl, sH2, eW, eL2, .nil⟩ (fun i σ H' _ h => by
    obtain ⟨_, _, _, _, _, _, h, _⟩ := h
    exact SqL.of h) ?_ ?_
  · rintro i v _ H3 T0 hi ⟨us, v4, v5, v6, rfl, s3, eW3, eL3, pr3⟩ hT0
    rw [List.getElem?_map] at hi
    obtain ⟨y, hy, rfl⟩ := Option.map_eq_some_iff.mp hi
    have hyl := hwl y (List.mem_of_getElem? hy)
    have hil := (List.getElem?_eq_some_iff.mp hy).1
    have sT := Same.upd_new (o := .tup [.int (i : Int), .str y]) hT0
    refine ⟨T0, _, rfl, SqT.of upd_same, rfl, _, _, rfl, _, _, rfl, rfl, ?_⟩
    have s4 := s3.trans sT
    have eW4 := sT _ _ eW3
    have eL4 := sT _ _ eL3
    have pr4 := pr3.kept fun r o e _ => sT _ _ e
    generalize upd H3 T0 (.tup [.int (i : Int), .str y]) = H4 at s4 eW4 eL4 pr4
    clear sT hT0 s3 eW3 eL3 pr3
    have hLH : H L = none := hL
    obtain ⟨p, hp1, hp2, hp3⟩ := okAt_some hy (hall i)
    refine ⟨_, rfl, y, rfl, by omega, (fun e => by rw [hp1] at e; cases e), fun p' e' t H5 ht et s5 => ?_⟩
    obtain rfl : p = p' := by rw [hp1] at e'; exact Option.some.inj e'
    refine ⟨_, rfl, rfl, _, rfl, ?_⟩
    refine ite2 (fun h => absurd (of_decide_eq_true h) (by simp)) (fun _ => ?_)
    refine ⟨_, rfl, _, rfl, t, p, rfl, et, _, _, rfl, rfl, _, _, rfl, rfl, _, rfl, ?_⟩
    refine ite2 (fun h => absurd (of_decide_eq_true h) (by omega)) (fun _ => ?_)
    try unfold tNext
    try dsimp only
    refine ⟨_, rfl, _, rfl, t, p, rfl, et, _, _, rfl, rfl, ?_⟩
    have eL5 := s5 _ _ eL4
    have pr5 := pr4.kept fun r o e _ => s5 _ _ e
    have nLt : L ≠ t := ne_of_none eL4 ht
    refine ⟨_, rfl, .inl ⟨rfl, _, SqL.of eL5⟩, _, rfl, L, _, _, rfl, rfl, eL5, by have := pr5.len; unfold prs at this; rw [List.length_map, List.length_take] at this; omega, ?_⟩
    have e3 : prs ((wdx x).take (i + 1)) = prs ((wdx x).take i) ++ [p] := by rw [prs_succ hy, hp2]
    refine ⟨us ++ [.ref t], some (.int (i : Int)), some (.str y), some (.ref t), ?_, fun b ob hb => ?_, ?_, upd_same, ?_⟩
    · rw [e3, sumL_snoc]
      rfl
    · rw [upd_ne (ne_of_none hb hLH)]
      exact s5 _ _ (s4 _ _ hb)
    · rw [upd_ne (Ne.symm nLW)]
      exact s5 _ _ eW4
    · rw [e3]
      refine Prts.snoc (pr5.kept fun r ob e ⟨xs, ex⟩ => ?_) ?_
      · have nr : r ≠ L := fun er => by rw [er, eL5] at e; rw [ex] at e; cases e
        rw [upd_ne nr]
        exact e
      · rw [upd_ne (Ne.symm nLt)]
        exact et
  · rintro _ H3 ⟨us, v4, v5, v6, rfl, s3, eW3, eL3, pr3⟩
    rw [List.length_map, List.take_of_length_le (Nat.le_refl _)] at pr3
    exact ⟨_, rfl, k L us _ hL eL3 pr3 s3⟩
theorem ok_partsX (F : FunN K mg "read_parts" s_read_parts P_read_parts) (T : Bu mg) (XI_NoText : ExcI P w K mg base 0 "NoText" d.NoText "number") (c_read_part : Cal P w K mg base 3 "read_part" P_read_part spRPt) (c_length_of : Cal P w K mg base 1 "length_of" P_length_of spLen) : CalX P w K mg base 4 "read_parts" P_read_parts (spPartsX d) := by
  refine calX_of F sc_read_parts (fun vs H Q E h => ?_) (fun f cdv A outer s H vs Q E hr h => ?_)
  · obtain ⟨x, n, rfl, _⟩ := h
    rfl
  obtain ⟨x, n, rfl, hx, hbad, k⟩ := h
  have hS : sizeLine = 16777216 := szl
  have hnl := bad_in hbad
  obtain ⟨tk, h_MOST_SIGNS⟩ := T.c_MOST_SIGNS
  have e1 : Str.ofString " " = spS := by decide +kernel
  refine ⟨_, (@pss_cons _ _ _ _ _ (@ps_set _ _ (1) _ _ _ _ sc_read_parts.nd rfl (Or.inl rfl) (@pe_lst _ _ _ _ pa_nil) (by rfl) (by first | exact .inl rfl | exact .inr rfl)) (@pss_cons _ _ _ _ _ (@ps_set _ _ (2) _ _ _ _ sc_read_parts.nd rfl (Or.inl rfl) pe_int (by rfl) (by first | exact .inl rfl | exact .inr rfl)) (@pss_cons _ _ _ _ _ (@ps_set _ _ (3) _ _ _ _ sc_read_parts.nd rfl (Or.inl rfl) (@pe_ifExp _ _ _ _ _ _ _ _ (@pt_truth _ _ _ (@pv _ 0 _ _ (by rfl) (by first | exact Or.inl rfl | exact Or.inr (Or.inl rfl) | exact Or.inr (Or.inr rfl)) (by decide) (by decide)) (by intro _; rfl)) (pe_split (@pv _ 0 _ _ (by rfl) (by first | exact Or.inl rfl | exact Or.inr (Or.inl rfl) | exact Or.inr (Or.inr rfl)) (by decide) (by decide)) pe_str) (@pe_lst _ _ _ _ pa_nil)) (by rfl) (by first | exact .inl rfl | exact .inr rfl)) (@pss_cons _ _ _ _ _ (@ps_for _ _ _ _ _ _ _ _ PassesOwn.leaving rfl (@pi_enum _ _ _ _ _ _ _ _ (by rfl) T.n_enumerate (@pa_cons _ _ _ _ _ (@pv _ 3 _ _ (by rfl) (by first | exact Or.inl rfl | exact Or.inr (Or.inl rfl) | exact Or.inr (Or.inr rfl)) (by decide) (by decide)) pa_nil (by rfl)) (by rfl)) (@pg_tup _ _ _ _ _ _ (by rfl) (@pgs_cons _ _ _ _ _ (@pg_name _ _ (4) _ sc_read_parts.nd rfl (Or.inl rfl) (by first | exact .inl rfl | exact .inr rfl)) (@pgs_cons _ _ _ _ _ (@pg_name _ _ (5) _ sc_read_parts.nd rfl (Or.inl rfl) (by first | exact .inl rfl | exact .inr rfl)) pgs_nil (by rfl)) (by rfl)) (by rfl) (by rfl)) (@pss_cons _ _ _ _ _ (@ps_set _ _ (6) _ _ _ _ sc_read_parts.nd rfl (Or.inl rfl) (@pe_cal _ _ _ _ _ _ _ _ _ _ c_read_part (hr.mono (by decide)) (by rfl) (@pa_cons _ _ _ _ _ (@pv _ 5 _ _ (by rfl) (by first | exact Or.inl rfl | exact Or.inr (Or.inl rfl) | exact Or.inr (Or.inr rfl)) (by decide) (by decide)) pa_nil (by rfl)) (by decide) (by rfl) (by rfl)) (by rfl) (by first | exact .inl rfl | exact .inr rfl)) (@pss_cons _ _ _ _ _ (@ps_if _ _ _ _ _ _ _ _ (@PW.pt _ _ _ (@pw_or _ _ _ _ _ _ _ (@pt_cmpR _ _ _ _ _ _ _ _ op_isN (@pv _ 6 _ _ (by rfl) (by first | exact Or.inl rfl | exact Or.inr (Or.inl rfl) | exact Or.inr (Or.inr rfl)) (by decide) (by decide)) pe_non (nomark _)) (@pw_or1 _ _ _ _ (@pt_cmpR _ _ _ _ _ _ _ _ op_gt (@pe_op _ _ _ _ _ _ _ _ op_add (@pv _ 2 _ _ (by rfl) (by first | exact Or.inl rfl | exact Or.inr (Or.inl rfl) | exact Or.inr (Or.inr rfl)) (by decide) (by decide)) (@pe_cal _ _ _ _ _ _ _ _ _ _ c_length_of (hr.mono (by decide)) (by rfl) (@pa_cons _ _ _ _ _ (@pv _ 6 _ _ (by rfl) (by first | exact Or.inl rfl | exact Or.inr (Or.inl rfl) | exact Or.inr (Or.inr rfl)) (by decide) (by decide)) pa_nil (by rfl)) (by decide) (by rfl) (by rfl))) (@pe_glob _ _ (V.int 300) _ _ (by rfl) h_MOST_SIGNS ⟨_, rfl⟩ (by decide)) (nomark _))))) (@pss_one _ _ _ (@ps_raiseX _ _ _ _ _ _ _ _ _ _ _ _ flies_cx rfl rfl XI_NoText (hr.mono (by decide)) (by rfl) (@pa_cons _ _ _ _ _ (@pv _ 4 _ _ (by rfl) (by first | exact Or.inl rfl | exact Or.inr (Or.inl rfl) | exact Or.inr (Or.inr rfl)) (by decide) (by decide)) pa_nil (by rfl)) (by decide) (by rfl) (by rfl))) pss_nil) (@pss_cons _ _ _ _ _ (@ps_aug _ _ (2) _ _ _ _ _ _ sc_read_parts.nd rfl (Or.inl rfl) (@pe_cal _ _ _ _ _ _ _ _ _ _ c_length_of (hr.mono (by decide)) (by rfl) (@pa_cons _ _ _ _ _ (@pv _ 6 _ _ (by rfl) (by first | exact Or.inl rfl | exact Or.inr (Or.inl rfl) | exact Or.inr (Or.inr rfl)) (by decide) (by decide)) pa_nil (by rfl)) (by decide) (by rfl) (by rfl)) ip_add (by first | exact .inl rfl | exact .inr rfl)) (@pss_one _ _ _ (@ps_expr _ _ _ _ (@pe_bm _ _ _ _ _ _ _ _ _ _ _ _ PySem.F.plainAttrs_list PySem.F.slot_list_append PySem.F.type_list_append mt_append (@pv _ 1 _ _ (by rfl) (by first | exact Or.inl rfl | exact Or.inr (Or.inl rfl) | exact Or.inr (Or.inr rfl)) (by decide) (by decide)) (@pa_cons _ _ _ _ _ (@pv _ 6 _ _ (by rfl) (by first | exact Or.inl rfl | exact Or.inr (Or.inl rfl) | exact Or.inr (Or.inr rfl)) (by decide) (by decide)) pa_nil (by rfl)) (by rfl) (by rfl) (by rfl) (by rfl) (by rfl)) (by rfl)))))) (by intro _; rfl)) pss_never)))), ?_⟩
  rw [e1]
  refine ⟨by rw [hS]; show 0 ≤ 16777216; decide, fun L hL => ?_⟩
  have sL := Same.upd_new (o := .lst ([] : List V)) hL
  have eL : (upd H L (.lst [])) L = some (.lst ([] : List V)) := upd_same
  generalize upd H L (.lst ([] : List V)) = H1 at sL eL
  try dsimp only
  refine if_words rfl hx fun W H2 hW sW eW => ?_
  have eL2 := sW _ _ eL
  have sH2 := sL.trans sW
  have nLW : L ≠ W := ne_of_none eL hW
  have hwc : (wdx x).length ≤ 50001 := by
    unfold wdx
    split
    · exact Nat.zero_le _
    · have h := split_len x 32
      have e : (wds x).length = (Txt.split x ⟨#[32]⟩).length := rfl
      omega
  have hwl : ∀ y ∈ wdx x, y.length ≤ 50000 := fun y hy => by
    unfold wdx at hy
    split at hy
    · cases hy
    · exact Nat.le_trans (wds_len hy) hx
  refine ⟨_, rfl, W, _, rfl, SqL.of eW, ?_⟩
  refine for_enum0 (K := K) (a := W) (xs := (wdx x).map V.str) (fun i σ H' => ∃ (us : List V) (v4 v5 v6 : Option V), σ = [some (.str x), some (.ref L), some (.int ((sumL (prs ((wdx x).take i)) : Nat) : Int)), some (.ref W), v4, v5, v6] ∧ Same H H' ∧ H' W = some (.lst ((wdx x).map V.str)) ∧ H' L = some (.lst us) ∧ Prts H' us (prs ((wdx x).take i)) ∧ i ≤ n) ⟨[], _, _, _, rfl, sH2, eW, eL2, .nil, by omega⟩ (fun i σ H' _ h => by
    obtain ⟨_, _, _, _, _, _, h, _⟩ := h
    exact SqL.of h) ?_ ?_
  · rintro i v _ H3 T0 hi ⟨us, v4, v5, v6, rfl, s3, eW3, eL3, pr3, hin⟩ hT0
    rw [List.getElem?_map] at hi
    obtain ⟨y, hy, rfl⟩ := Option.map_eq_some_iff.mp hi
    have hyl := hwl y (List.mem_of_getElem? hy)
    have hil := (List.getElem?_eq_some_iff.mp hy).1
    have sT := Same.upd_new (o := .tup [.int (i : Int), .str y]) hT0
    refine ⟨T0, _, rfl, SqT.of upd_same, rfl, _, _, rfl, _, _, rfl, rfl, ?_⟩
    have s4 := s3.trans sT
    have eW4 := sT _ _ eW3
    have eL4 := sT _ _ eL3
    have pr4 := pr3.kept fun r o e _ => sT _ _ e
    generalize upd H3 T0 (.tup [.int (i : Int), .str y]) = H4 at s4 eW4 eL4 pr4
    clear sT hT0 s3 eW3 eL3 pr3
    have hLH : H L = none := hL
    by_cases hlt : i < n
    · obtain ⟨p, hp1, hp2, hp3⟩ := okAt_some hy (hbad.2 i hlt)
      refine ⟨_, rfl, y, rfl, by omega, (fun e => by rw [hp1] at e; cases e), fun p' e' t H5 ht et s5 => ?_⟩
      obtain rfl : p = p' := by rw [hp1] at e'; exact Option.some.inj e'
      refine ⟨_, rfl, rfl, _, rfl, ?_⟩
      refine ite2 (fun h => absurd (of_decide_eq_true h) (by simp)) (fun _ => ?_)
      refine ⟨_, rfl, _, rfl, t, p, rfl, et, _, _, rfl, rfl, _, _, rfl, rfl, _, rfl, ?_⟩
      refine ite2 (fun h => absurd (of_decide_eq_true h) (by omega)) (fun _ => ?_)
      try unfold tNext
      try dsimp only
      refine ⟨_, rfl, _, rfl, t, p, rfl, et, _, _, rfl, rfl, ?_⟩
      have eL5 := s5 _ _ eL4
      have pr5 := pr4.kept fun r o e _ => s5 _ _ e
      have nLt : L ≠ t := ne_of_none eL4 ht
      refine ⟨_, rfl, .inl ⟨rfl, _, SqL.of eL5⟩, _, rfl, L, _, _, rfl, rfl, eL5, by have := pr5.len; unfold prs at this; rw [List.length_map, List.length_take] at this; omega, ?_⟩
      have e3 : prs ((wdx x).take (i + 1)) = prs ((wdx x).take i) ++ [p] := by rw [prs_succ hy, hp2]
      refine ⟨us ++ [.ref t], some (.int (i : Int)), some (.str y), some (.ref t), ?_, fun b ob hb => ?_, ?_, upd_same, ?_, by omega⟩
      · rw [e3, sumL_snoc]
        rfl
      · rw [upd_ne (ne_of_none hb hLH)]
        exact s5 _ _ (s4 _ _ hb)
      · rw [upd_ne (Ne.symm nLW)]
        exact s5 _ _ eW4
      · rw [e3]
        refine Prts.snoc (pr5.kept fun r ob e ⟨xs, ex⟩ => ?_) ?_
        · have nr : r ≠ L := fun er => by rw [er, eL5] at e; rw [ex] at e; cases e
          rw [upd_ne nr]
          exact e
        · rw [upd_ne (Ne.symm nLt)]
          exact et
    · obtain rfl : i = n := by omega
      have hno := okAt_bad hy hbad.1
      cases hp : prL (cs y) with
      | none =>
        refine ⟨_, rfl, y, rfl, by omega, (fun _ H5 s5 => ?_), fun p' e' => (by rw [hp] at e'; cases e')⟩
        refine ⟨_, rfl, rfl, _, rfl, ?_⟩
        refine ite2 (fun _ => ?_) (fun h => absurd (decide_eq_true rfl) h)
        exact ⟨_, rfl, _, rfl, fun dx hdx => k _ dx ((s4.trans s5).trans (Same.upd_new hdx)) upd_same⟩
      | some p =>
        have hgt := hno p hp
        refine ⟨_, rfl, y, rfl, by omega, (fun e => by rw [hp] at e; cases e), fun p' e' t H5 ht et s5 => ?_⟩
        obtain rfl : p = p' := by rw [hp] at e'; exact Option.some.inj e'
        refine ⟨_, rfl, rfl, _, rfl, ?_⟩
        refine ite2 (fun h => absurd (of_decide_eq_true h) (by simp)) (fun _ => ?_)
        refine ⟨_, rfl, _, rfl, t, p, rfl, et, _, _, rfl, rfl, _, _, rfl, rfl, _, rfl, ?_⟩
        refine ite2 (fun _ => ?_) (fun h => absurd (decide_eq_true (by omega)) h)
        exact ⟨_, rfl, _, rfl, fun dx hdx => k _ dx ((s4.trans s5).trans (Same.upd_new hdx)) upd_same⟩
  · rintro _ H3 ⟨us, v4, v5, v6, rfl, s3, eW3, eL3, pr3, hin⟩
    exfalso
    rw [List.length_map] at hin
    omega
end
end K55

set_option Elab.async false
set_option linter.all false
set_option maxRecDepth 100000
set_option maxHeartbeats 1000000
namespace K55
open PySem L2
def RchBad (ps : List Prt) (n : Nat) : Prop := (∃ (p : Prt), ps[n]? = some p ∧ sumL ps < rch p) ∧ ∀ (j : Nat), j < n → ∀ (q : Prt), ps[j]? = some q → rch q ≤ sumL ps
def Rd (x : Str) : Option Nat → Prop
  | none => AllOk (wdx x) ∧ ∀ (j : Nat) (q : Prt), (prs (wdx x))[j]? = some q → rch q ≤ sumL (prs (wdx x))
  | some n => FirstBad (wdx x) n ∨ (AllOk (wdx x) ∧ RchBad (prs (wdx x)) n)
theorem rd_ex (x : Str) : ∃ r, Rd x r := by
  rcases ok_or_bad (wdx x) with h | ⟨n, h⟩
  · by_cases g : ∀ (j : Nat) (q : Prt), (prs (wdx x))[j]? = some q → rch q ≤ sumL (prs (wdx x))
    · exact ⟨none, h, g⟩
    · obtain ⟨n, hn⟩ : ∃ (n : Nat) (p : Prt), (prs (wdx x))[n]? = some p ∧ sumL (prs (wdx x)) < rch p := by
        by_cases e : ∃ (n : Nat) (p : Prt), (prs (wdx x))[n]? = some p ∧ sumL (prs (wdx x)) < rch p
        · exact e
        · exact absurd (fun j q hq => by
            by_cases z : rch q ≤ sumL (prs (wdx x))
            · exact z
            · exact absurd ⟨j, q, hq, by omega⟩ e) g
      have : ∃ n, RchBad (prs (wdx x)) n := by
        induction n using Nat.strongRecOn with
        | _ n ih =>
          by_cases z : ∃ (j : Nat), j < n ∧ ∃ (q : Prt), (prs (wdx x))[j]? = some q ∧ sumL (prs (wdx x)) < rch q
          · obtain ⟨j, hj, hq⟩ := z
            exact ih j hj hq
          · exact ⟨n, hn, fun j hj q hq => by
              by_cases y : rch q ≤ sumL (prs (wdx x))
              · exact y
              · exact absurd ⟨j, hj, q, hq, by omega⟩ z⟩
      obtain ⟨n, hn⟩ := this
      exact ⟨some n, .inr ⟨h, hn⟩⟩
  · exact ⟨some n, .inl h⟩
def spForm : Sp := fun vs H Q _ => ∃ x : Str, vs = [.str x] ∧ x.length ≤ 50000 ∧ Rd x none ∧ ∀ (t : Addr) (us : List V) (H' : Hp), H t = none → H' t = some (.tup us) → Prts H' us (prs (wdx x)) → Same H H' → Q (.ref t) H'
def spFormX (d : Ads) : Sp := fun vs H _ E => ∃ (x : Str) (n : Nat), vs = [.str x] ∧ x.length ≤ 50000 ∧ Rd x (some n) ∧ ∀ (H' : Hp) (dx : Addr), Same H H' → H' dx = some (.xd [(Str.ofString "number", .int (n : Int))]) → E (.ref d.NoText) (some dx) H'
def lenI (ps : List Prt) : List Int := ps.map fun p => ((pLen p : Nat) : Int)
theorem lenI_sum : ∀ (ps : List Prt), (lenI ps).sum = ((sumL ps : Nat) : Int)
  | [] => rfl
  | p :: ps => by
    have ih := lenI_sum ps
    show ((pLen p : Nat) : Int) + (lenI ps).sum = _
    rw [ih]
    show _ = (((pLen p + sumL ps : Nat)) : Int)
    omega
section
variable {P : Program} {w : World} {K : PySem.W.Frag} {mg : Str → Option Value} {base : Heap} {d : Ads}
theorem ok_form (F : FunN K mg "read_form" s_read_form P_read_form) (T : Bu mg) (c_read_parts : Cal P w K mg base 4 "read_parts" P_read_parts spParts) (c_length_of : Cal P w K mg base 1 "length_of" P_length_of spLen) (c_reach_of : Cal P w K mg base 1 "reach_of" P_reach_of spRch) : Cal P w K mg base 5 "read_form" P_read_form spForm := by
  refine cal_of F sc_read_form (fun vs H Q E h => ?_) (fun f cdv A outer s H vs Q E hr h => ?_)
  · obtain ⟨x, rfl, _⟩ := h
    rfl
  obtain ⟨x, rfl, hx, ⟨hall, hrc⟩, k⟩ := h
  have hS : sizeLine = 16777216 := szl
  refine ⟨_, (@pss_cons _ _ _ _ _ (@ps_set _ _ (1) _ _ _ _ sc_read_form.nd rfl (Or.inl rfl) (@pe_cal _ _ _ _ _ _ _ _ _ _ c_read_parts (hr.mono (by decide)) (by rfl) (@pa_cons _ _ _ _ _ (@pv _ 0 _ _ (by rfl) (by first | exact Or.inl rfl | exact Or.inr (Or.inl rfl) | exact Or.inr (Or.inr rfl)) (by decide) (by decide)) pa_nil (by rfl)) (by decide) (by rfl) (by rfl)) (by rfl) (by first | exact .inl rfl | exact .inr rfl)) (@pss_cons _ _ _ _ _ (@ps_set _ _ (2) _ _ _ _ sc_read_form.nd rfl (Or.inl rfl) (@pe_callB _ _ _ _ _ _ _ _ _ (cr_sum rfl) (by rfl) T.n_sum (by decide +kernel) (@pa_cons _ _ _ _ _ (@pe_lc _ _ _ _ _ _ ([("part", 3)]) _ _ (gName 3) _ _ (by rfl) sc_read_form.nd (@pi_list _ _ _ _ (@pv _ 1 _ _ (by rfl) (by first | exact Or.inl rfl | exact Or.inr (Or.inl rfl) | exact Or.inr (Or.inr rfl)) (by decide) (by decide))) (@blkOk_by (N_read_form) (defScope s_read_form) _ ([("part", 3)]) (by decide +kernel)) (fun _ _ _ _ _ => pg_name (i := 3) sc_read_form.nd rfl (Or.inl rfl)) (fun _ _ _ _ _ => pts_nil) (fun _ _ _ _ _ => (@pe_cal _ _ _ _ _ _ _ _ _ _ c_length_of (hr.mono (by decide)) (by rfl) (@pa_cons _ _ _ _ _ (@pv _ 3 _ _ (by rfl) (by first | exact Or.inl rfl | exact Or.inr (Or.inl rfl) | exact Or.inr (Or.inr rfl)) (by decide) (by decide)) pa_nil (by rfl)) (by decide) (by rfl) (by rfl))) (by intro _; rfl)) pa_nil (by rfl)) (by decide) (by decide) (by rfl) (by rfl)) (by rfl) (by first | exact .inl rfl | exact .inr rfl)) (@pss_cons _ _ _ _ _ (@ps_for _ _ _ _ _ _ _ _ PassesOwn.never rfl (@pi_enum _ _ _ _ _ _ _ _ (by rfl) T.n_enumerate (@pa_cons _ _ _ _ _ (@pv _ 1 _ _ (by rfl) (by first | exact Or.inl rfl | exact Or.inr (Or.inl rfl) | exact Or.inr (Or.inr rfl)) (by decide) (by decide)) pa_nil (by rfl)) (by rfl)) (@pg_tup _ _ _ _ _ _ (by rfl) (@pgs_cons _ _ _ _ _ (@pg_name _ _ (4) _ sc_read_form.nd rfl (Or.inl rfl) (by first | exact .inl rfl | exact .inr rfl)) (@pgs_cons _ _ _ _ _ (@pg_name _ _ (3) _ sc_read_form.nd rfl (Or.inl rfl) (by first | exact .inl rfl | exact .inr rfl)) pgs_nil (by rfl)) (by rfl)) (by rfl) (by rfl)) (@pss_one _ _ _ (@ps_if _ _ _ _ _ _ _ _ (@pt_cmpR _ _ _ _ _ _ _ _ op_gt (@pe_cal _ _ _ _ _ _ _ _ _ _ c_reach_of (hr.mono (by decide)) (by rfl) (@pa_cons _ _ _ _ _ (@pv _ 3 _ _ (by rfl) (by first | exact Or.inl rfl | exact Or.inr (Or.inl rfl) | exact Or.inr (Or.inr rfl)) (by decide) (by decide)) pa_nil (by rfl)) (by decide) (by rfl) (by rfl)) (@pv _ 2 _ _ (by rfl) (by first | exact Or.inl rfl | exact Or.inr (Or.inl rfl) | exact Or.inr (Or.inr rfl)) (by decide) (by decide)) (nomark _)) (@pss_one _ _ _ ps_never) pss_nil)) (by intro _; rfl)) (@pss_one _ _ _ (@ps_ret _ _ _ _ (@pe_callTy _ _ _ _ _ _ _ _ _ call_tuple_of (by rfl) T.n_tuple (by decide +kernel) (@pa_cons _ _ _ _ _ (@pv _ 1 _ _ (by rfl) (by first | exact Or.inl rfl | exact Or.inr (Or.inl rfl) | exact Or.inr (Or.inr rfl)) (by decide) (by decide)) pa_nil (by rfl)) (by decide) (by decide) (by rfl) (by rfl))))))), ?_⟩
  refine ⟨_, rfl, x, rfl, hx, hall, fun l us H1 hl el pr s1 => ?_⟩
  have hul := pr.len
  have hpl : (prs (wdx x)).length ≤ 50001 := by
    unfold prs wdx
    rw [List.length_map]
    split
    · exact Nat.zero_le _
    · have h := split_len x 32
      have e : (wds x).length = (Txt.split x ⟨#[32]⟩).length := rfl
      omega
  refine ⟨_, rfl, l, rfl, ⟨_, SqL.of el⟩, fun D hD => ?_⟩
  refine lc_list (K := K) (a := l) (xs := us) (fun j H' => Same H1 H' ∧ H' D = some (.lst ((lenI ((prs (wdx x)).take j)).map V.int))) ⟨Same.upd_new hD, upd_same⟩ (fun j H' _ ⟨sm, _⟩ => SqL.of (sm _ _ el)) ?_ ?_
  · rintro j v H2 hj ⟨s2, hD2⟩
    obtain ⟨r, p, rfl, hp, hr2⟩ := Prts.at' pr hj
    refine ⟨rfl, _, rfl, r, p, rfl, s2 _ _ hr2, ?_⟩
    refine ⟨_, hD2, by unfold lenI; rw [List.length_map, List.length_map, List.length_take]; omega, fun c oc hc => ?_, ?_⟩
    · rw [upd_ne (ne_of_none hc hD)]
      exact s2 _ _ hc
    · rw [upd_same, List.take_succ, hp]
      unfold lenI
      rw [List.map_append, List.map_append]
      rfl
  rintro H2 ⟨s2, hD2⟩
  rw [hul, List.take_of_length_le (Nat.le_refl _)] at hD2
  refine ⟨D, lenI (prs (wdx x)), rfl, SqL.of hD2, ?_⟩
  rw [lenI_sum]
  have el2 := s2 _ _ el
  have pr2 := pr.kept fun r o e _ => s2 _ _ e
  have s12 := s1.trans s2
  refine ⟨_, rfl, l, _, rfl, SqL.of el2, ?_⟩
  refine for_enum0 (K := K) (a := l) (xs := us) (fun i σ H' => ∃ (v3 v4 : Option V), σ = [some (.str x), some (.ref l), some (.int ((sumL (prs (wdx x)) : Nat) : Int)), v3, v4] ∧ Same H2 H') ⟨_, _, rfl, .refl _⟩ (fun i σ H' _ h => by
    obtain ⟨_, _, _, h⟩ := h
    exact SqL.of (h _ _ el2)) ?_ ?_
  · rintro i v _ H3 T0 hi ⟨v3, v4, rfl, s3⟩ hT0
    obtain ⟨r, p, rfl, hp, hr2⟩ := Prts.at' pr2 hi
    have sT := Same.upd_new (o := .tup [.int (i : Int), V.ref r]) hT0
    refine ⟨T0, _, rfl, SqT.of upd_same, rfl, _, _, rfl, _, _, rfl, rfl, ?_⟩
    refine ⟨_, rfl, r, p, rfl, sT _ _ (s3 _ _ hr2), ?_⟩
    refine ⟨_, rfl, _, _, rfl, rfl, _, rfl, ?_⟩
    have := hrc i p hp
    refine ite2 (fun h => absurd (of_decide_eq_true h) (by omega)) (fun _ => ?_)
    exact ⟨_, _, rfl, s3.trans sT⟩
  · rintro _ H3 ⟨v3, v4, rfl, s3⟩
    refine ⟨_, rfl, l, _, rfl, .inl ⟨SqL.of (s3 _ _ el2), fun t ht => ?_⟩⟩
    have st := Same.upd_new (o := .tup us) ht
    exact k t us _ ((s12.trans s3).free ht) upd_same (pr2.kept fun r o e _ => st _ _ (s3 _ _ e)) ((s12.trans s3).trans st)
theorem ok_formX (F : FunN K mg "read_form" s_read_form P_read_form) (T : Bu mg) (XI_NoText : ExcI P w K mg base 0 "NoText" d.NoText "number") (c_read_parts : Cal P w K mg base 4 "read_parts" P_read_parts spParts) (x_read_parts : CalX P w K mg base 4 "read_parts" P_read_parts (spPartsX d)) (c_length_of : Cal P w K mg base 1 "length_of" P_length_of spLen) (c_reach_of : Cal P w K mg base 1 "reach_of" P_reach_of spRch) : CalX P w K mg base 5 "read_form" P_read_form (spFormX d) := by
  refine calX_of F sc_read_form (fun vs H Q E h => ?_) (fun f cdv A outer s H vs Q E hr h => ?_)
  · obtain ⟨x, n, rfl, _⟩ := h
    rfl
  obtain ⟨x, n, rfl, hx, hrd, k⟩ := h
  have hS : sizeLine = 16777216 := szl
  rcases hrd with hb | ⟨hall, ⟨pn, hpn, hgt⟩, hrc⟩
  · refine ⟨_, (@pss_cons _ _ _ _ _ (@ps_set _ _ (1) _ _ _ _ sc_read_form.nd rfl (Or.inl rfl) (@pe_calX _ _ _ _ _ _ _ _ _ _ _ flies_cx x_read_parts (hr.mono (by decide)) (by rfl) (@pa_cons _ _ _ _ _ (@pv _ 0 _ _ (by rfl) (by first | exact Or.inl rfl | exact Or.inr (Or.inl rfl) | exact Or.inr (Or.inr rfl)) (by decide) (by decide)) pa_nil (by rfl)) (by decide) (by rfl) (by rfl)) (by rfl) (by first | exact .inl rfl | exact .inr rfl)) pss_never), ?_⟩
    exact ⟨_, rfl, x, n, rfl, hx, hb, fun H' dx s1 e1 => k H' dx s1 e1⟩
  refine ⟨_, (@pss_cons _ _ _ _ _ (@ps_set _ _ (1) _ _ _ _ sc_read_form.nd rfl (Or.inl rfl) (@pe_cal _ _ _ _ _ _ _ _ _ _ c_read_parts (hr.mono (by decide)) (by rfl) (@pa_cons _ _ _ _ _ (@pv _ 0 _ _ (by rfl) (by first | exact Or.inl rfl | exact Or.inr (Or.inl rfl) | exact Or.inr (Or.inr rfl)) (by decide) (by decide)) pa_nil (by rfl)) (by decide) (by rfl) (by rfl)) (by rfl) (by first | exact .inl rfl | exact .inr rfl)) (@pss_cons _ _ _ _ _ (@ps_set _ _ (2) _ _ _ _ sc_read_form.nd rfl (Or.inl rfl) (@pe_callB _ _ _ _ _ _ _ _ _ (cr_sum rfl) (by rfl) T.n_sum (by decide +kernel) (@pa_cons _ _ _ _ _ (@pe_lc _ _ _ _ _ _ ([("part", 3)]) _ _ (gName 3) _ _ (by rfl) sc_read_form.nd (@pi_list _ _ _ _ (@pv _ 1 _ _ (by rfl) (by first | exact Or.inl rfl | exact Or.inr (Or.inl rfl) | exact Or.inr (Or.inr rfl)) (by decide) (by decide))) (@blkOk_by (N_read_form) (defScope s_read_form) _ ([("part", 3)]) (by decide +kernel)) (fun _ _ _ _ _ => pg_name (i := 3) sc_read_form.nd rfl (Or.inl rfl)) (fun _ _ _ _ _ => pts_nil) (fun _ _ _ _ _ => (@pe_cal _ _ _ _ _ _ _ _ _ _ c_length_of (hr.mono (by decide)) (by rfl) (@pa_cons _ _ _ _ _ (@pv _ 3 _ _ (by rfl) (by first | exact Or.inl rfl | exact Or.inr (Or.inl rfl) | exact Or.inr (Or.inr rfl)) (by decide) (by decide)) pa_nil (by rfl)) (by decide) (by rfl) (by rfl))) (by intro _; rfl)) pa_nil (by rfl)) (by decide) (by decide) (by rfl) (by rfl)) (by rfl) (by first | exact .inl rfl | exact .inr rfl)) (@pss_cons _ _ _ _ _ (@ps_for _ _ _ _ _ _ _ _ PassesOwn.leaving rfl (@pi_enum _ _ _ _ _ _ _ _ (by rfl) T.n_enumerate (@pa_cons _ _ _ _ _ (@pv _ 1 _ _ (by rfl) (by first | exact Or.inl rfl | exact Or.inr (Or.inl rfl) | exact Or.inr (Or.inr rfl)) (by decide) (by decide)) pa_nil (by rfl)) (by rfl)) (@pg_tup _ _ _ _ _ _ (by rfl) (@pgs_cons _ _ _ _ _ (@pg_name _ _ (4) _ sc_read_form.nd rfl (Or.inl rfl) (by first | exact .inl rfl | exact .inr rfl)) (@pgs_cons _ _ _ _ _ (@pg_name _ _ (3) _ sc_read_form.nd rfl (Or.inl rfl) (by first | exact .inl rfl | exact .inr rfl)) pgs_nil (by rfl)) (by rfl)) (by rfl) (by rfl)) (@pss_one _ _ _ (@ps_if _ _ _ _ _ _ _ _ (@pt_cmpR _ _ _ _ _ _ _ _ op_gt (@pe_cal _ _ _ _ _ _ _ _ _ _ c_reach_of (hr.mono (by decide)) (by rfl) (@pa_cons _ _ _ _ _ (@pv _ 3 _ _ (by rfl) (by first | exact Or.inl rfl | exact Or.inr (Or.inl rfl) | exact Or.inr (Or.inr rfl)) (by decide) (by decide)) pa_nil (by rfl)) (by decide) (by rfl) (by rfl)) (@pv _ 2 _ _ (by rfl) (by first | exact Or.inl rfl | exact Or.inr (Or.inl rfl) | exact Or.inr (Or.inr rfl)) (by decide) (by decide)) (nomark _)) (@pss_one _ _ _ (@ps_raiseX _ _ _ _ _ _ _ _ _ _ _ _ flies_cx rfl rfl XI_NoText (hr.mono (by decide)) (by rfl) (@pa_cons _ _ _ _ _ (@pv _ 4 _ _ (by rfl) (by first | exact Or.inl rfl | exact Or.inr (Or.inl rfl) | exact Or.inr (Or.inr rfl)) (by decide) (by decide)) pa_nil (by rfl)) (by decide) (by rfl) (by rfl))) pss_nil)) (by intro _; rfl)) pss_never))), ?_⟩
  refine ⟨_, rfl, x, rfl, hx, hall, fun l us H1 hl el pr s1 => ?_⟩
  have hul := pr.len
  have hpl : (prs (wdx x)).length ≤ 50001 := by
    unfold prs wdx
    rw [List.length_map]
    split
    · exact Nat.zero_le _
    · have h := split_len x 32
      have e : (wds x).length = (Txt.split x ⟨#[32]⟩).length := rfl
      omega
  refine ⟨_, rfl, l, rfl, ⟨_, SqL.of el⟩, fun D hD => ?_⟩
  refine lc_list (K := K) (a := l) (xs := us) (fun j H' => Same H1 H' ∧ H' D = some (.lst ((lenI ((prs (wdx x)).take j)).map V.int))) ⟨Same.upd_new hD, upd_same⟩ (fun j H' _ ⟨sm, _⟩ => SqL.of (sm _ _ el)) ?_ ?_
  · rintro j v H2 hj ⟨s2, hD2⟩
    obtain ⟨r, p, rfl, hp, hr2⟩ := Prts.at' pr hj
    refine ⟨rfl, _, rfl, r, p, rfl, s2 _ _ hr2, ?_⟩
    refine ⟨_, hD2, by unfold lenI; rw [List.length_map, List.length_map, List.length_take]; omega, fun c oc hc => ?_, ?_⟩
    · rw [upd_ne (ne_of_none hc hD)]
      exact s2 _ _ hc
    · rw [upd_same, List.take_succ, hp]
      unfold lenI
      rw [List.map_append, List.map_append]
      rfl
  rintro H2 ⟨s2, hD2⟩
  rw [hul, List.take_of_length_le (Nat.le_refl _)] at hD2
  refine ⟨D, lenI (prs (wdx x)), rfl, SqL.of hD2, ?_⟩
  rw [lenI_sum]
  have el2 := s2 _ _ el
  have pr2 := pr.kept fun r o e _ => s2 _ _ e
  have s12 := s1.trans s2
  refine ⟨_, rfl, l, _, rfl, SqL.of el2, ?_⟩
  refine for_enum0 (K := K) (a := l) (xs := us) (fun i σ H' => ∃ (v3 v4 : Option V), σ = [some (.str x), some (.ref l), some (.int ((sumL (prs (wdx x)) : Nat) : Int)), v3, v4] ∧ Same H2 H' ∧ i ≤ n) ⟨_, _, rfl, .refl _, Nat.zero_le _⟩ (fun i σ H' _ h => by
    obtain ⟨_, _, _, h, _⟩ := h
    exact SqL.of (h _ _ el2)) ?_ ?_
  · rintro i v _ H3 T0 hi ⟨v3, v4, rfl, s3, hin⟩ hT0
    obtain ⟨r, p, rfl, hp, hr2⟩ := Prts.at' pr2 hi
    have sT := Same.upd_new (o := .tup [.int (i : Int), V.ref r]) hT0
    refine ⟨T0, _, rfl, SqT.of upd_same, rfl, _, _, rfl, _, _, rfl, rfl, ?_⟩
    refine ⟨_, rfl, r, p, rfl, sT _ _ (s3 _ _ hr2), ?_⟩
    by_cases hlt : i < n
    · refine ⟨_, rfl, _, _, rfl, rfl, _, rfl, ?_⟩
      have := hrc i hlt p hp
      refine ite2 (fun h => absurd (of_decide_eq_true h) (by omega)) (fun _ => ?_)
      exact ⟨_, _, rfl, s3.trans sT, by omega⟩
    · obtain rfl : i = n := by omega
      obtain rfl : p = pn := by rw [hp] at hpn; exact Option.some.inj hpn
      refine ⟨_, rfl, _, _, rfl, rfl, _, rfl, ?_⟩
      refine ite2 (fun _ => ?_) (fun h => absurd (decide_eq_true (by omega)) h)
      exact ⟨_, rfl, _, rfl, fun dx hdx => k _ dx (((s12.trans s3).trans sT).trans (Same.upd_new hdx)) upd_same⟩
  · rintro _ H3 ⟨v3, v4, rfl, s3, hin⟩
    exfalso
    have := (List.getElem?_eq_some_iff.mp hpn).1
    omega
end
end K55

set_option Elab.async false
set_option linter.all false
set_option maxRecDepth 100000
set_option maxHeartbeats 1000000
namespace K55
open PySem L2
def spTold : Sp := fun vs H Q _ => ∃ x : Str, vs = [.str x] ∧ x.length ≤ 50000 ∧ (∀ n, Rd x (some n) → ∀ H', Same H H' → Q (.int (n : Int)) H') ∧ (Rd x none → ∀ (a : Addr) (us : List V) (H' : Hp), H a = none → H' a = some (.tup us) → Prts H' us (prs (wdx x)) → Same H H' → Q (.ref a) H')
section
variable {P : Program} {w : World} {K : PySem.W.Frag} {mg : Str → Option Value} {base : Heap} {d : Ads}
theorem ok_initN {C B : Addr} (F : FunX K mg "NoText" C "number" "NoText.__init__" s_NoText___init__ P_NoText___init__) (hb : ExB K mg "PinError" B) : ExcI P w K mg base 0 "NoText" C "number" := by
  refine excI_of F sc_NoText___init__ rfl (fun n => rfl) fun f c hf => ?_
  intro cdv A outer s s1 H e t0 v hr hH I he
  have hX : e ∈ (cxI P w K mg base N_NoText___init__ "NoText.__init__" (defScope s_NoText___init__) f cdv A outer s H e).ex := List.mem_cons_self
  refine wpAny_execs_cons ?_
  refine thn (st_init (x := Str.ofString "this word or line writes nothing") I hb (by rfl) (c.at I.ok.mod.kin) hX (fun p hp => nomatch hp) hH he (pa_cons (pv 0) (pa_cons pe_str pa_nil)) ?_ (by decide) rfl rfl rfl rfl) fun fl s2 h2 => ?_
  · exact ⟨_, rfl, rfl, rfl⟩
  obtain ⟨rfl, I2, t1, he2⟩ := h2
  refine wpAny_execs_cons ?_
  refine thn (st_fld (v := v) I2 hf hX (fun p hp => nomatch hp) hH he2 (pv 1) (pv 0) ⟨_, rfl, rfl, rfl⟩ ⟨_, rfl, rfl, rfl⟩ ⟨rfl, rfl⟩ rfl rfl) fun fl s3 h3 => ?_
  obtain ⟨rfl, dx, h1, h4, I3, he3⟩ := h3
  exact wpAny_execs_nil ⟨rfl, dx, t1, _, h1, h4, I3, he3⟩
theorem ok_told (F : FunN K mg "_law_told" s_law_told P_law_told) (T : Bu mg) (GX : ExG mg d) (XR : ExR K d.NoText d.PinError [d.GoesRound, d.Missed, d.NoRow, d.NoTurned, d.TooMany]) (X1 : ExR1 K d.NoText "number") (c_read_form : Cal P w K mg base 5 "read_form" P_read_form spForm) (x_read_form : CalX P w K mg base 5 "read_form" P_read_form (spFormX d)) : Cal P w K mg base 6 "_law_told" P_law_told spTold := by
  refine cal_of F sc_law_told (fun vs H Q E h => ?_) (fun f cdv A outer s H vs Q E hr h => ?_)
  · obtain ⟨x, rfl, _⟩ := h
    rfl
  obtain ⟨x, rfl, hx, k1, k2⟩ := h
  have hS : sizeLine = 16777216 := szl
  obtain ⟨rd, hb⟩ := rd_ex x
  cases rd with
  | some n =>
    refine ⟨_, (@pss_cons _ _ _ _ _ (@ps_set _ _ (1) _ _ _ _ sc_law_told.nd rfl (Or.inl rfl) pe_non (by rfl) (by first | exact .inl rfl | exact .inr rfl)) (@pss_cons _ _ _ _ _ (@ps_set _ _ (2) _ _ _ _ sc_law_told.nd rfl (Or.inl rfl) pe_non (by rfl) (by first | exact .inl rfl | exact .inr rfl)) (@pss_cons _ _ _ _ _ (@ps_try _ (d.PinError) (3) _ _ _ _ _ _ _ _ _ _ rfl rfl sc_law_told.nd rfl rfl (by rfl) GX.g_PinError (fun _ _ => (@pssp_one _ _ _ _ (@psp_set _ _ (2) _ _ _ _ _ sc_law_told.nd rfl (Or.inl rfl) (@pep_call _ _ _ _ _ _ _ _ _ _ _ _ x_read_form (hr.mono (by decide)) (by rfl) (@pa_cons _ _ _ _ _ (@pv _ 0 _ _ (by rfl) (by first | exact Or.inl rfl | exact Or.inr (Or.inl rfl) | exact Or.inr (Or.inr rfl)) (by decide) (by decide)) pa_nil (by rfl)) (by decide) (by rfl) (by rfl)) (by rfl) (by first | exact .inl rfl | exact .inr rfl)))) (fun _ => (@pss_one _ _ _ (@ps_set _ _ (1) _ _ _ _ sc_law_told.nd rfl (Or.inl rfl) (@pv _ 3 _ _ (by rfl) (by first | exact Or.inl rfl | exact Or.inr (Or.inl rfl) | exact Or.inr (Or.inr rfl)) (by decide) (by decide)) (by rfl) (by first | exact .inl rfl | exact .inr rfl)))) (by decide)) (@pss_cons _ _ _ _ _ (@ps_if _ _ _ _ _ _ _ _ (@pt_cmpR _ _ _ _ _ _ _ _ op_isN (@pv _ 1 _ _ (by rfl) (by first | exact Or.inl rfl | exact Or.inr (Or.inl rfl) | exact Or.inr (Or.inr rfl)) (by decide) (by decide)) pe_non (nomark _)) (@pss_one _ _ _ (@ps_ret _ _ _ _ (@pv _ 2 _ _ (by rfl) (by first | exact Or.inl rfl | exact Or.inr (Or.inl rfl) | exact Or.inr (Or.inr rfl)) (by decide) (by decide)))) pss_nil) (@pss_cons _ _ _ _ _ (@ps_if _ _ _ _ _ _ _ _ (@PW.pt _ _ _ (@pw_or _ _ _ _ _ _ _ (@pt_val _ _ _ (@pe_callB _ _ _ _ _ _ _ _ _ call_isiX (by rfl) T.n_isinstance (by decide +kernel) (@pa_cons _ _ _ _ _ (@pv _ 1 _ _ (by rfl) (by first | exact Or.inl rfl | exact Or.inr (Or.inl rfl) | exact Or.inr (Or.inr rfl)) (by decide) (by decide)) (@pa_cons _ _ _ _ _ (@pe_tup _ _ _ _ _ (@pa_cons _ _ _ _ _ (@pe_glob _ _ (V.ref d.GoesRound) _ _ (by rfl) GX.g_GoesRound rfl (by decide)) (@pa_cons _ _ _ _ _ (@pe_glob _ _ (V.ref d.Missed) _ _ (by rfl) GX.g_Missed rfl (by decide)) (@pa_cons _ _ _ _ _ (@pe_glob _ _ (V.ref d.NoRow) _ _ (by rfl) GX.g_NoRow rfl (by decide)) (@pa_cons _ _ _ _ _ (@pe_glob _ _ (V.ref d.NoTurned) _ _ (by rfl) GX.g_NoTurned rfl (by decide)) (@pa_cons _ _ _ _ _ (@pe_glob _ _ (V.ref d.TooMany) _ _ (by rfl) GX.g_TooMany rfl (by decide)) pa_nil (by rfl)) (by rfl)) (by rfl)) (by rfl)) (by rfl))) pa_nil (by rfl)) (by rfl)) (by decide) (by decide) (by rfl) (by rfl)) (by intro _; rfl)) (@pw_or1 _ _ _ _ (@pt_not _ _ _ _ (@pt_val _ _ _ (@pe_callB _ _ _ _ _ _ _ _ _ call_isiX (by rfl) T.n_isinstance (by decide +kernel) (@pa_cons _ _ _ _ _ (@pv _ 1 _ _ (by rfl) (by first | exact Or.inl rfl | exact Or.inr (Or.inl rfl) | exact Or.inr (Or.inr rfl)) (by decide) (by decide)) (@pa_cons _ _ _ _ _ (@pe_bltn _ _ (V.ty "ValueError") _ _ (by rfl) T.n_ValueError (by decide +kernel) rfl (by decide) (by decide)) pa_nil (by rfl)) (by rfl)) (by decide) (by decide) (by rfl) (by rfl)) (by intro _; rfl)))))) (@pss_one _ _ _ (@ps_ret _ _ _ _ pe_str)) pss_nil) (@pss_one _ _ _ (@ps_ret _ _ _ _ (@pe_excF _ _ _ _ _ (@pv _ 1 _ _ (by rfl) (by first | exact Or.inl rfl | exact Or.inr (Or.inl rfl) | exact Or.inr (Or.inr rfl)) (by decide) (by decide)) (by rfl))))))))), ?_⟩
    try dsimp only
    refine seq_c ?_
    try dsimp only
    refine seq_c ?_
    try dsimp only
    refine seq_after (fun σ' H' => ∃ (e dx : Addr), σ' = [some (.str x), some (.ref e), some .non, none] ∧ Same H H' ∧ H' e = some (excO e (.ref d.NoText) (some dx)) ∧ H' dx = some (.xd [(Str.ofString "number", .int (n : Int))])) ?_ (fun cont => ?_)
    · rintro _ H2 ⟨e, dx, rfl, s2, he, hdx⟩
      refine ⟨_, rfl, rfl, _, rfl, ?_⟩
      refine ite2 (fun h => absurd (of_decide_eq_true h) (by simp)) (fun _ => ?_)
      unfold tNext
      dsimp only
      refine ⟨_, rfl, by rw [hS]; show 5 ≤ 16777216; decide, fun tp htp => ?_⟩
      have s3 := Same.upd_new (o := .tup [V.ref d.GoesRound, V.ref d.Missed, V.ref d.NoRow, V.ref d.NoTurned, V.ref d.TooMany]) htp
      have et : (upd H2 tp (.tup [V.ref d.GoesRound, V.ref d.Missed, V.ref d.NoRow, V.ref d.NoTurned, V.ref d.TooMany])) tp = some (.tup [V.ref d.GoesRound, V.ref d.Missed, V.ref d.NoRow, V.ref d.NoTurned, V.ref d.TooMany]) := upd_same
      generalize upd H2 tp (.tup [V.ref d.GoesRound, V.ref d.Missed, V.ref d.NoRow, V.ref d.NoTurned, V.ref d.TooMany]) = H3 at s3 et
      have he3 := s3 _ _ he
      have hd3 := s3 _ _ hdx
      have ev : ExV K H3 (.ref e) (.ref d.NoText) := .exc XR.k he3 (.inr ⟨dx, _, rfl, hd3⟩)
      refine ⟨_, _, _, ev, .inr (.inr ⟨tp, [d.GoesRound, d.Missed, d.NoRow, d.NoTurned, d.TooMany], rfl, et, XR.no⟩), _, rfl, ?_⟩
      refine ite2 (fun h => by cases h) (fun _ => ?_)
      refine ⟨_, rfl, _, _, _, ev, .inr (.inl ⟨_, rfl, XR.v⟩), _, rfl, ?_⟩
      refine ite2 (fun h => by cases h) (fun _ => ?_)
      try unfold tNext
      try dsimp only
      refine ⟨_, rfl, e, _, dx, _, _, rfl, he3, hd3, X1, rfl, ?_⟩
      exact k1 n hb _ (s2.trans s3)
    · refine ⟨_, rfl, x, n, rfl, hx, hb, fun H2 dx s2 hdx e he => ?_⟩
      have s3 := Same.upd_new (o := excO e (.ref d.NoText) (some dx)) he
      exact ⟨XR.m, _, rfl, ⟨_, rfl⟩, cont _ _ ⟨e, dx, rfl, s2.trans s3, upd_same, s3 _ _ hdx⟩⟩
  | none =>
    refine ⟨_, (@pss_cons _ _ _ _ _ (@ps_set _ _ (1) _ _ _ _ sc_law_told.nd rfl (Or.inl rfl) pe_non (by rfl) (by first | exact .inl rfl | exact .inr rfl)) (@pss_cons _ _ _ _ _ (@ps_set _ _ (2) _ _ _ _ sc_law_told.nd rfl (Or.inl rfl) pe_non (by rfl) (by first | exact .inl rfl | exact .inr rfl)) (@pss_cons _ _ _ _ _ (@ps_try0 _ _ _ _ _ _ (@pss_one _ _ _ (@ps_set _ _ (2) _ _ _ _ sc_law_told.nd rfl (Or.inl rfl) (@pe_cal _ _ _ _ _ _ _ _ _ _ c_read_form (hr.mono (by decide)) (by rfl) (@pa_cons _ _ _ _ _ (@pv _ 0 _ _ (by rfl) (by first | exact Or.inl rfl | exact Or.inr (Or.inl rfl) | exact Or.inr (Or.inr rfl)) (by decide) (by decide)) pa_nil (by rfl)) (by decide) (by rfl) (by rfl)) (by rfl) (by first | exact .inl rfl | exact .inr rfl)))) (@pss_cons _ _ _ _ _ (@ps_if _ _ _ _ _ _ _ _ (@pt_cmpR _ _ _ _ _ _ _ _ op_isN (@pv _ 1 _ _ (by rfl) (by first | exact Or.inl rfl | exact Or.inr (Or.inl rfl) | exact Or.inr (Or.inr rfl)) (by decide) (by decide)) pe_non (nomark _)) (@pss_one _ _ _ (@ps_ret _ _ _ _ (@pv _ 2 _ _ (by rfl) (by first | exact Or.inl rfl | exact Or.inr (Or.inl rfl) | exact Or.inr (Or.inr rfl)) (by decide) (by decide)))) pss_nil) (@pss_cons _ _ _ _ _ (@ps_if _ _ _ _ _ _ _ _ (@PW.pt _ _ _ (@pw_or _ _ _ _ _ _ _ (@pt_val _ _ _ (@pe_callB _ _ _ _ _ _ _ _ _ call_isiX (by rfl) T.n_isinstance (by decide +kernel) (@pa_cons _ _ _ _ _ (@pv _ 1 _ _ (by rfl) (by first | exact Or.inl rfl | exact Or.inr (Or.inl rfl) | exact Or.inr (Or.inr rfl)) (by decide) (by decide)) (@pa_cons _ _ _ _ _ (@pe_tup _ _ _ _ _ (@pa_cons _ _ _ _ _ (@pe_glob _ _ (V.ref d.GoesRound) _ _ (by rfl) GX.g_GoesRound rfl (by decide)) (@pa_cons _ _ _ _ _ (@pe_glob _ _ (V.ref d.Missed) _ _ (by rfl) GX.g_Missed rfl (by decide)) (@pa_cons _ _ _ _ _ (@pe_glob _ _ (V.ref d.NoRow) _ _ (by rfl) GX.g_NoRow rfl (by decide)) (@pa_cons _ _ _ _ _ (@pe_glob _ _ (V.ref d.NoTurned) _ _ (by rfl) GX.g_NoTurned rfl (by decide)) (@pa_cons _ _ _ _ _ (@pe_glob _ _ (V.ref d.TooMany) _ _ (by rfl) GX.g_TooMany rfl (by decide)) pa_nil (by rfl)) (by rfl)) (by rfl)) (by rfl)) (by rfl))) pa_nil (by rfl)) (by rfl)) (by decide) (by decide) (by rfl) (by rfl)) (by intro _; rfl)) (@pw_or1 _ _ _ _ (@pt_not _ _ _ _ (@pt_val _ _ _ (@pe_callB _ _ _ _ _ _ _ _ _ call_isiX (by rfl) T.n_isinstance (by decide +kernel) (@pa_cons _ _ _ _ _ (@pv _ 1 _ _ (by rfl) (by first | exact Or.inl rfl | exact Or.inr (Or.inl rfl) | exact Or.inr (Or.inr rfl)) (by decide) (by decide)) (@pa_cons _ _ _ _ _ (@pe_bltn _ _ (V.ty "ValueError") _ _ (by rfl) T.n_ValueError (by decide +kernel) rfl (by decide) (by decide)) pa_nil (by rfl)) (by rfl)) (by decide) (by decide) (by rfl) (by rfl)) (by intro _; rfl)))))) (@pss_one _ _ _ (@ps_ret _ _ _ _ pe_str)) pss_nil) (@pss_one _ _ _ (@ps_ret _ _ _ _ (@pe_excF _ _ _ _ _ (@pv _ 1 _ _ (by rfl) (by first | exact Or.inl rfl | exact Or.inr (Or.inl rfl) | exact Or.inr (Or.inr rfl)) (by decide) (by decide)) (by rfl))))))))), ?_⟩
    try dsimp only
    refine seq_c ?_
    try dsimp only
    refine seq_c ?_
    try dsimp only
    refine ⟨_, rfl, x, rfl, hx, hb, fun a us H2 ha ha2 rw2 s2 => ?_⟩
    refine ⟨_, rfl, rfl, _, rfl, ?_⟩
    refine ite2 (fun _ => ?_) (fun h => absurd (decide_eq_true rfl) h)
    exact ⟨_, rfl, k2 hb a us H2 ha ha2 rw2 s2⟩
end
end K55

set_option Elab.async false
set_option linter.all false
set_option maxRecDepth 100000
set_option maxHeartbeats 1000000
namespace K55
open PySem L2
def wP : Prt → Str
  | .inl c => ⟨#[c]⟩
  | .inr (o, m) => Str.ofString (toString ((o : Nat) : Int)) ++ colS ++ Str.ofString (toString ((m : Nat) : Int))
def PB : Prt → Prop
  | .inl c => isl c = true
  | .inr (o, m) => o < 1000 ∧ m < 1000 ∧ 1 ≤ m
theorem numS0 : ∀ n : Fin 1000, (decide (numW (cs (Str.ofString (toString ((n.val : Nat) : Int)))) = some n.val) && (decide ((cs (Str.ofString (toString ((n.val : Nat) : Int)))).length ≤ 3) && (cs (Str.ofString (toString ((n.val : Nat) : Int)))).all isDg)) = true := by decide +kernel
theorem numS {n : Nat} (h : n < 1000) : numW (cs (Str.ofString (toString (n : Int)))) = some n ∧ (Str.ofString (toString (n : Int))).length ≤ 3 ∧ ∀ c ∈ cs (Str.ofString (toString (n : Int))), isDg c = true := by
  have := numS0 ⟨n, h⟩
  simp only [Bool.and_eq_true, decide_eq_true_iff, List.all_eq_true] at this
  exact ⟨this.1, this.2.1, this.2.2⟩
theorem wP_sg {p : Prt} (h : PB p) : (∀ c ∈ cs (wP p), c ≤ 127 ∧ c ≠ 32) ∧ (wP p).length ≤ 7 := by
  match p, h with
  | .inl c, h =>
    refine ⟨fun d hd => ?_, Nat.le_trans (Nat.le_refl 1) (by decide)⟩
    obtain rfl : d = c := List.mem_singleton.mp hd
    have h : isl d = true := h
    unfold isl at h
    simp at h
    omega
  | .inr (o, m), ⟨h1, h2, _⟩ =>
    obtain ⟨_, l1, c1⟩ := numS h1
    obtain ⟨_, l2, c2⟩ := numS h2
    have dg : ∀ c, isDg c = true → c ≤ 127 ∧ c ≠ 32 := fun c hc => by
      have := of_decide_eq_true hc
      omega
    refine ⟨fun d hd => ?_, ?_⟩
    · unfold wP at hd
      rw [cs_app, cs_app] at hd
      rcases List.mem_append.mp hd with hd | hd
      · rcases List.mem_append.mp hd with hd | hd
        · exact dg d (c1 d hd)
        · obtain rfl : d = 58 := List.mem_singleton.mp hd
          decide
      · exact dg d (c2 d hd)
    · unfold wP
      rw [len_app, len_app]
      show _ + 1 + _ ≤ 7
      omega
theorem wP_prL {p : Prt} (h : PB p) : prL (cs (wP p)) = some p := by
  match p, h with
  | .inl c, h =>
    unfold prL
    rw [if_pos (show letL (cs (wP (.inl c))) = true from h)]
    rfl
  | .inr (o, m), ⟨h1, h2, h3⟩ =>
    obtain ⟨n1, l1, c1⟩ := numS h1
    obtain ⟨n2, l2, c2⟩ := numS h2
    have no : ∀ l : List Nat, (∀ c ∈ l, isDg c = true) → 58 ∉ l := fun l h hc => absurd (h 58 hc) (by decide)
    have e : cs (wP (.inr (o, m))) = cs (Str.ofString (toString (o : Int))) ++ 58 :: cs (Str.ofString (toString (m : Int))) := by
      unfold wP
      rw [cs_app, cs_app]
      show _ ++ [58] ++ _ = _
      simp
    have hl : letL (cs (wP (.inr (o, m)))) = false := by
      rw [e]
      cases q : cs (Str.ofString (toString (o : Int))) with
      | nil => rw [q] at n1; cases n1
      | cons a r => cases r <;> rfl
    unfold prL
    rw [if_neg (by rw [hl]; decide), e, splL_app (no _ c1), splL_free (no _ c2)]
    show twoN _ _ = _
    unfold twoN
    rw [n1, n2]
    exact if_pos h3
def formT (ps : List Prt) : Str := Txt.join spS (ps.map wP)
end K55

set_option Elab.async false
set_option linter.all false
set_option maxRecDepth 100000
set_option maxHeartbeats 1000000
namespace K55
open PySem L2
theorem wP_pos (p : Prt) : 1 ≤ (wP p).length := by
  match p with
  | .inl c => exact Nat.le_refl 1
  | .inr (o, m) =>
    unfold wP
    rw [len_app, len_app]
    show 1 ≤ _ + 1 + _
    omega
theorem formT_words {ps : List Prt} (h : ∀ p ∈ ps, PB p) : wdx (formT ps) = ps.map wP := by
  cases ps with
  | nil => rfl
  | cons p ps =>
    have hl : (formT (p :: ps)).length ≠ 0 := by
      have e := join_len 32 ((p :: ps).map wP)
      have e0 : (formT (p :: ps)).length = (Txt.join ⟨#[32]⟩ ((p :: ps).map wP)).length := rfl
      have e1 := wP_pos p
      rw [List.map_cons, List.map_cons, List.sum_cons, List.length_cons] at e
      rw [List.map_cons] at e0
      rw [e0]
      omega
    unfold wdx
    rw [if_neg hl]
    refine split_join (by simp) fun y hy => ?_
    obtain ⟨q, hq, rfl⟩ := List.mem_map.mp hy
    exact fun hc => ((wP_sg (h q hq)).1 32 hc).2 rfl
theorem sumL_app (a b : List Prt) : sumL (a ++ b) = sumL a + sumL b := by
  unfold sumL
  rw [List.map_append, List.sum_append]
theorem sumL_take (ps : List Prt) (i : Nat) : sumL (ps.take i) ≤ sumL ps := by
  have := sumL_app (ps.take i) (ps.drop i)
  rw [List.take_append_drop] at this
  omega
theorem prs_wP {ps : List Prt} (h : ∀ p ∈ ps, PB p) : prs (ps.map wP) = ps := by
  unfold prs
  rw [List.map_map]
  conv => rhs; rw [← List.map_id ps]
  refine List.map_congr_left fun p hp => ?_
  show (prL (cs (wP p))).getD _ = p
  rw [wP_prL (h p hp)]
  rfl
theorem form_ok {ps : List Prt} (h : ∀ p ∈ ps, PB p) (hs : sumL ps ≤ 300) (hr : ∀ p ∈ ps, rch p ≤ sumL ps) : Rd (formT ps) none ∧ prs (wdx (formT ps)) = ps := by
  have hw := formT_words h
  have hp := prs_wP h
  refine ⟨⟨fun i => ?_, fun j q hq => ?_⟩, by rw [hw, hp]⟩
  · rw [hw]
    cases e : (ps.map wP)[i]? with
    | none => unfold okAt; rw [e]
    | some y =>
      rw [okAt_eq e]
      rw [List.getElem?_map] at e
      obtain ⟨p, hpi, rfl⟩ := Option.map_eq_some_iff.mp e
      have hm := List.mem_of_getElem? hpi
      unfold okP
      rw [wP_prL (h p hm)]
      refine decide_eq_true ?_
      rw [← List.map_take, prs_wP fun q hq => h q (List.mem_of_mem_take hq)]
      have e1 := sumL_take ps (i + 1)
      rw [List.take_succ, hpi] at e1
      have e2 := sumL_app (ps.take i) [p]
      have e3 : sumL [p] = pLen p := by show pLen p + 0 = _; omega
      have e4 : sumL (ps.take i ++ (some p).toList) = sumL (ps.take i ++ [p]) := rfl
      omega
  · rw [hw, hp] at hq ⊢
    exact hr q (List.mem_of_getElem? hq)
def spWord : Sp := fun vs H Q _ => ∃ (a : Addr) (p : Prt), vs = [.ref a] ∧ H a = some (.tup (pV p)) ∧ PB p ∧ Q (.str (wP p)) H
def spFT : Sp := fun vs H Q _ => ∃ (a : Addr) (us : List V) (ps : List Prt), vs = [.ref a] ∧ H a = some (.tup us) ∧ Prts H us ps ∧ (∀ p ∈ ps, PB p) ∧ ps.length ≤ 300 ∧ ∀ H', Same H H' → Q (.str (formT ps)) H'
theorem log_s {n : Nat} (h : n < 1000) : ((n : Nat) : Int).natAbs.log2 < 1920 := log_small n h
theorem wp_sum {ps : List Prt} (h : ∀ p ∈ ps, PB p) : ((ps.map wP).map fun x => x.length).sum ≤ 7 * ps.length := by
  induction ps with
  | nil => exact Nat.le_refl 0
  | cons p ps ih =>
    have h1 := ih fun q hq => h q (List.mem_cons_of_mem _ hq)
    have h2 := (wP_sg (h p List.mem_cons_self)).2
    rw [List.map_cons, List.map_cons, List.sum_cons, List.length_cons]
    omega
section
variable {P : Program} {w : World} {K : PySem.W.Frag} {mg : Str → Option Value} {base : Heap} {d : Ads}
theorem ok_word (F : FunN K mg "part_word" s_part_word P_part_word) (T : Bu mg) : Cal P w K mg base 1 "part_word" P_part_word spWord := by
  refine cal_of F sc_part_word (fun vs H Q E h => ?_) (fun f cdv A outer s H vs Q E hr h => ?_)
  · obtain ⟨a, p, rfl, _⟩ := h
    rfl
  · obtain ⟨a, p, rfl, ha, hb, k⟩ := h
    have e1 : Str.ofString ":" = colS := by decide +kernel
    refine ⟨_, (@pss_one _ _ _ (@ps_ret _ _ _ _ (@pe_ifExp _ _ _ _ _ _ _ _ (@pt_cmpR _ _ _ _ _ _ _ _ op_eq (@pe_ix _ _ _ _ _ _ _ ix_tup (@pv _ 0 _ _ (by rfl) (by first | exact Or.inl rfl | exact Or.inr (Or.inl rfl) | exact Or.inr (Or.inr rfl)) (by decide) (by decide)) pe_int (fun _ _ => rfl)) pe_str (nomark _)) (@pe_ix _ _ _ _ _ _ _ ix_tup (@pv _ 0 _ _ (by rfl) (by first | exact Or.inl rfl | exact Or.inr (Or.inl rfl) | exact Or.inr (Or.inr rfl)) (by decide) (by decide)) pe_int (fun _ _ => rfl)) (@pe_fII _ _ _ _ _ _ _ _ _ _ _ (@pe_ix _ _ _ _ _ _ _ ix_tup (@pv _ 0 _ _ (by rfl) (by first | exact Or.inl rfl | exact Or.inr (Or.inl rfl) | exact Or.inr (Or.inr rfl)) (by decide) (by decide)) pe_int (fun _ _ => rfl)) (@pe_ix _ _ _ _ _ _ _ ix_tup (@pv _ 0 _ _ (by rfl) (by first | exact Or.inl rfl | exact Or.inr (Or.inl rfl) | exact Or.inr (Or.inr rfl)) (by decide) (by decide)) pe_int (fun _ _ => rfl)))))), ?_⟩
    rw [e1]
    match p, ha, hb, k with
    | .inl c, ha, hb, k =>
      refine ⟨_, rfl, a, _, 0, _, rfl, rfl, SqT.of ha, rfl, rfl, _, rfl, ?_⟩
      refine ite2 (fun _ => ?_) (fun h => absurd (decide_eq_true rfl) h)
      exact ⟨_, rfl, a, _, 1, _, rfl, rfl, SqT.of ha, rfl, k⟩
    | .inr (o, m), ha, ⟨h1, h2, _⟩, k =>
      refine ⟨_, rfl, a, _, 0, _, rfl, rfl, SqT.of ha, rfl, rfl, _, rfl, ?_⟩
      refine ite2 (fun h => absurd h (by decide +kernel)) (fun _ => ?_)
      have l1 := (numS h1).2.1
      have l2 := (numS h2).2.1
      refine ⟨_, rfl, a, _, 1, _, rfl, rfl, SqT.of ha, rfl, (o : Int), rfl, log_s h1, (by show _ + 1 ≤ _; omega), _, rfl, a, _, 2, _, rfl, rfl, SqT.of ha, rfl, (m : Int), rfl, log_s h2, (by show _ + 1 + _ ≤ _; omega), k⟩
theorem ok_ftext (F : FunN K mg "form_text" s_form_text P_form_text) (T : Bu mg) (c_part_word : Cal P w K mg base 1 "part_word" P_part_word spWord) : Cal P w K mg base 2 "form_text" P_form_text spFT := by
  refine cal_of F sc_form_text (fun vs H Q E h => ?_) (fun f cdv A outer s H vs Q E hr h => ?_)
  · obtain ⟨a, us, ps, rfl, _⟩ := h
    rfl
  · obtain ⟨a, us, ps, rfl, ha, pr, hb, hl, k⟩ := h
    have e1 : Str.ofString " " = spS := by decide +kernel
    have hul := pr.len
    have hS : sizeLine = 16777216 := szl
    refine ⟨_, (@pss_one _ _ _ (@ps_ret _ _ _ _ (@pe_join _ _ _ _ _ _ _ pe_str (@pe_lc _ _ _ _ _ _ ([("part", 1)]) _ _ (gName 1) _ _ (by rfl) sc_form_text.nd (@pi_tup _ _ _ _ (@pv _ 0 _ _ (by rfl) (by first | exact Or.inl rfl | exact Or.inr (Or.inl rfl) | exact Or.inr (Or.inr rfl)) (by decide) (by decide))) (@blkOk_by (N_form_text) (defScope s_form_text) _ ([("part", 1)]) (by decide +kernel)) (fun _ _ _ _ _ => pg_name (i := 1) sc_form_text.nd rfl (Or.inl rfl)) (fun _ _ _ _ _ => pts_nil) (fun _ _ _ _ _ => (@pe_cal _ _ _ _ _ _ _ _ _ _ c_part_word (hr.mono (by decide)) (by rfl) (@pa_cons _ _ _ _ _ (@pv _ 1 _ _ (by rfl) (by first | exact Or.inl rfl | exact Or.inr (Or.inl rfl) | exact Or.inr (Or.inr rfl)) (by decide) (by decide)) pa_nil (by rfl)) (by decide) (by rfl) (by rfl))) (by intro _; rfl)) (by rfl) (by rfl) (by rfl)))), ?_⟩
    rw [e1]
    refine ⟨⟨_, rfl⟩, _, rfl, a, rfl, ⟨_, SqT.of ha⟩, fun D hD => ?_⟩
    refine lc_tup (K := K) (a := a) (xs := us) (fun j H' => Same H H' ∧ H' D = some (.lst (((ps.take j).map wP).map V.str))) ⟨Same.upd_new hD, upd_same⟩ (fun j H' _ ⟨sm, _⟩ => SqT.of (sm _ _ ha)) ?_ ?_
    · rintro j v H2 hj ⟨s2, hD2⟩
      obtain ⟨r, p, rfl, hp, hr2⟩ := Prts.at' pr hj
      refine ⟨rfl, _, rfl, r, p, rfl, s2 _ _ hr2, hb p (List.mem_of_getElem? hp), ?_⟩
      refine ⟨_, hD2, by rw [List.length_map, List.length_map, List.length_take]; omega, fun c oc hc => ?_, ?_⟩
      · rw [upd_ne (ne_of_none hc hD)]
        exact s2 _ _ hc
      · rw [upd_same, List.take_succ, hp, List.map_append, List.map_append]
        rfl
    rintro H2 ⟨s2, hD2⟩
    rw [hul, List.take_of_length_le (Nat.le_refl _)] at hD2
    have ws := wp_sum hb
    refine ⟨spS, D, ps.map wP, rfl, rfl, .inl (SqL.of hD2), (by rw [List.length_map]; show _ + _ * 1 ≤ _; omega), ?_⟩
    exact k _ s2
theorem ok_lftext (F : FunN K mg "_law_form_text" s_law_form_text P_law_form_text) (T : Bu mg) : Cal P w K mg base 1 "_law_form_text" P_law_form_text spFT := by
  refine cal_of F sc_law_form_text (fun vs H Q E h => ?_) (fun f cdv A outer s H vs Q E hr h => ?_)
  · obtain ⟨a, us, ps, rfl, _⟩ := h
    rfl
  · obtain ⟨a, us, ps, rfl, ha, pr, hb, hl, k⟩ := h
    have hS : sizeLine = 16777216 := szl
    have e1 : Str.ofString " " = spS := by decide +kernel
    have e2 : Str.ofString ":" = colS := by decide +kernel
    have hul := pr.len
    refine ⟨_, (@pss_cons _ _ _ _ _ (@ps_set _ _ (1) _ _ _ _ sc_law_form_text.nd rfl (Or.inl rfl) (@pe_lst _ _ _ _ pa_nil) (by rfl) (by first | exact .inl rfl | exact .inr rfl)) (@pss_cons _ _ _ _ _ (@ps_for _ _ _ _ _ _ _ _ PassesOwn.never rfl (@pi_tup _ _ _ _ (@pv _ 0 _ _ (by rfl) (by first | exact Or.inl rfl | exact Or.inr (Or.inl rfl) | exact Or.inr (Or.inr rfl)) (by decide) (by decide))) (@pg_name _ _ (2) _ sc_law_form_text.nd rfl (Or.inl rfl) (by first | exact .inl rfl | exact .inr rfl)) (@pss_one _ _ _ (@ps_expr _ _ _ _ (@pe_bm _ _ _ _ _ _ _ _ _ _ _ _ PySem.F.plainAttrs_list PySem.F.slot_list_append PySem.F.type_list_append mt_append (@pv _ 1 _ _ (by rfl) (by first | exact Or.inl rfl | exact Or.inr (Or.inl rfl) | exact Or.inr (Or.inr rfl)) (by decide) (by decide)) (@pa_cons _ _ _ _ _ (@pe_ifExp _ _ _ _ _ _ _ _ (@pt_cmpR _ _ _ _ _ _ _ _ op_eq (@pe_ix _ _ _ _ _ _ _ ix_tup (@pv _ 2 _ _ (by rfl) (by first | exact Or.inl rfl | exact Or.inr (Or.inl rfl) | exact Or.inr (Or.inr rfl)) (by decide) (by decide)) pe_int (fun _ _ => rfl)) pe_str (nomark _)) (@pe_ix _ _ _ _ _ _ _ ix_tup (@pv _ 2 _ _ (by rfl) (by first | exact Or.inl rfl | exact Or.inr (Or.inl rfl) | exact Or.inr (Or.inr rfl)) (by decide) (by decide)) pe_int (fun _ _ => rfl)) (@pe_op _ _ _ _ _ _ _ _ op_add_str (@pe_op _ _ _ _ _ _ _ _ op_add_str (@pe_callTy _ _ _ _ _ _ _ _ _ call_strA (by rfl) T.n_str (by decide +kernel) (@pa_cons _ _ _ _ _ (@pe_ix _ _ _ _ _ _ _ ix_tup (@pv _ 2 _ _ (by rfl) (by first | exact Or.inl rfl | exact Or.inr (Or.inl rfl) | exact Or.inr (Or.inr rfl)) (by decide) (by decide)) pe_int (fun _ _ => rfl)) pa_nil (by rfl)) (by decide) (by decide) (by rfl) (by rfl)) pe_str) (@pe_callTy _ _ _ _ _ _ _ _ _ call_strA (by rfl) T.n_str (by decide +kernel) (@pa_cons _ _ _ _ _ (@pe_ix _ _ _ _ _ _ _ ix_tup (@pv _ 2 _ _ (by rfl) (by first | exact Or.inl rfl | exact Or.inr (Or.inl rfl) | exact Or.inr (Or.inr rfl)) (by decide) (by decide)) pe_int (fun _ _ => rfl)) pa_nil (by rfl)) (by decide) (by decide) (by rfl) (by rfl)))) pa_nil (by rfl)) (by rfl) (by rfl) (by rfl) (by rfl) (by rfl)) (by rfl))) (by intro _; rfl)) (@pss_one _ _ _ (@ps_ret _ _ _ _ (@pe_join _ _ _ _ _ _ _ pe_str (@pv _ 1 _ _ (by rfl) (by first | exact Or.inl rfl | exact Or.inr (Or.inl rfl) | exact Or.inr (Or.inr rfl)) (by decide) (by decide)) (by rfl) (by rfl) (by rfl)))))), ?_⟩
    rw [e1, e2]
    refine ⟨by rw [hS]; show 0 ≤ 16777216; decide, fun L hL => ?_⟩
    have sL := Same.upd_new (o := .lst ([] : List V)) hL
    have eL : (upd H L (.lst [])) L = some (.lst ([] : List V)) := upd_same
    generalize upd H L (.lst ([] : List V)) = H1 at sL eL
    try dsimp only
    refine ⟨_, rfl, a, rfl, ⟨_, SqT.of (sL _ _ ha)⟩, ?_⟩
    have pr1 := pr.kept fun r o e _ => sL _ _ e
    refine for_tup (K := K) (a := a) (xs := us) (fun j σ H' => ∃ v2 : Option V, σ = [some (.ref a), some (.ref L), v2] ∧ Same H H' ∧ H' L = some (.lst (((ps.take j).map wP).map V.str))) ⟨_, rfl, sL, eL⟩ (fun j σ H' _ h => by
      obtain ⟨_, _, h, _⟩ := h
      exact SqT.of (h _ _ ha)) ?_ ?_
    · rintro j v _ H2 hj ⟨v2, rfl, s2, hD2⟩
      obtain ⟨r, p, rfl, hp, hr2⟩ := Prts.at' pr hj
      have hr3 := s2 _ _ hr2
      have hbp := hb p (List.mem_of_getElem? hp)
      have fin : ∀ H3 : Hp, H3 = upd H2 L (.lst (((ps.take j).map wP).map V.str ++ [.str (wP p)])) → Same H H3 ∧ H3 L = some (.lst (((ps.take (j + 1)).map wP).map V.str)) := fun H3 e => by
        subst e
        refine ⟨fun b ob hb => ?_, ?_⟩
        · rw [upd_ne (ne_of_none hb hL)]
          exact s2 _ _ hb
        · rw [upd_same, List.take_succ, hp, List.map_append, List.map_append]
          rfl
      have hlen : (((ps.take j).map wP).map V.str).length < sizeLine := by
        rw [List.length_map, List.length_map, List.length_take]
        omega
      refine ⟨_, rfl, .inl ⟨rfl, _, SqL.of hD2⟩, ?_⟩
      match p, hr3, hbp, fin with
      | .inl c, hr3, _, fin =>
        refine ⟨_, rfl, r, _, 0, _, rfl, rfl, SqT.of hr3, rfl, rfl, _, rfl, ?_⟩
        refine ite2 (fun _ => ?_) (fun h => absurd (decide_eq_true rfl) h)
        refine ⟨_, rfl, r, _, 1, _, rfl, rfl, SqT.of hr3, rfl, L, _, _, rfl, rfl, hD2, hlen, ?_⟩
        obtain ⟨f1, f2⟩ := fin _ rfl
        exact ⟨_, rfl, f1, f2⟩
      | .inr (o, m), hr3, ⟨h1, h2, _⟩, fin =>
        have l1 := (numS h1).2.1
        have l2 := (numS h2).2.1
        refine ⟨_, rfl, r, _, 0, _, rfl, rfl, SqT.of hr3, rfl, rfl, _, rfl, ?_⟩
        refine ite2 (fun h => absurd h (by decide +kernel)) (fun _ => ?_)
        refine ⟨_, rfl, r, _, 1, _, rfl, rfl, SqT.of hr3, rfl, .inl ⟨_, rfl, log_s h1, ?_⟩⟩
        refine ⟨_, _, rfl, rfl, (by rw [hS]; show _ + 1 ≤ _; omega), ?_⟩
        refine ⟨_, rfl, r, _, 2, _, rfl, rfl, SqT.of hr3, rfl, .inl ⟨_, rfl, log_s h2, ?_⟩⟩
        refine ⟨_, _, rfl, rfl, (by rw [hS, len_app]; show _ + 1 + _ ≤ _; omega), ?_⟩
        refine ⟨L, _, _, rfl, rfl, hD2, hlen, ?_⟩
        obtain ⟨f1, f2⟩ := fin _ rfl
        exact ⟨_, rfl, f1, f2⟩
    · rintro _ H2 ⟨v2, rfl, s2, hD2⟩
      rw [hul, List.take_of_length_le (Nat.le_refl _)] at hD2
      have ws := wp_sum hb
      refine ⟨⟨_, rfl⟩, _, rfl, spS, L, ps.map wP, rfl, rfl, .inl (SqL.of hD2), (by rw [List.length_map]; show _ + _ * 1 ≤ _; omega), ?_⟩
      exact k _ s2
end
end K55

set_option Elab.async false
set_option linter.all false
set_option maxRecDepth 100000
set_option maxHeartbeats 1000000
namespace K55
open PySem L2
def cl (x : Str) : List Str := Txt.split x colS
theorem prL_cl {x : Str} (h : letL (cs x) = false) : prL (cs x) = (match cl x with | [a, b] => twoN (cs a) (cs b) | _ => none) := by
  unfold prL
  rw [if_neg (by rw [h]; decide), ← split_cs x 58]
  show (match (cl x).map cs with | [a, b] => _ | _ => _) = _
  match cl x with
  | [] => rfl
  | [a] => rfl
  | [a, b] => rfl
  | a :: b :: c :: r => rfl
theorem cl_mem {x y : Str} (h : y ∈ cl x) : ∀ c ∈ cs y, c ∈ cs x := fun c hc => by
  have e : jnL 58 ((cl x).map cs) = cs x := by
    have := cs_joinC 58 (cl x)
    rw [← this]
    exact congrArg cs (join_split x colS)
  rw [← e]
  have : ∀ ws : List (List Nat), cs y ∈ ws → c ∈ jnL 58 ws := fun ws => by
    induction ws with
    | nil => intro h; cases h
    | cons w ws ih =>
      intro hm
      by_cases hw : ws = []
      · subst hw
        rw [jnL_one]
        rcases List.mem_cons.mp hm with rfl | hm
        · exact hc
        · cases hm
      · rw [jnL_cons hw]
        rcases List.mem_cons.mp hm with rfl | hm
        · exact List.mem_append_left _ hc
        · exact List.mem_append_right _ (List.mem_cons_of_mem _ (ih hm))
  exact this _ (List.mem_map_of_mem h)
theorem cl_len {x y : Str} (h : y ∈ cl x) : y.length ≤ x.length ∧ (cl x).length ≤ x.length + 1 := by
  have h1 := split_len x 58
  have h2 : ∀ (ws : List Str), y ∈ ws → y.length + 1 ≤ (ws.map (·.length)).sum + ws.length := fun ws => by
    induction ws with
    | nil => intro h; cases h
    | cons z ws ih =>
      intro h
      rw [List.map_cons, List.sum_cons, List.length_cons]
      rcases List.mem_cons.mp h with rfl | h
      · omega
      · have := ih h
        omega
  have h3 := h2 _ h
  have e1 : (cl x).length = (Txt.split x ⟨#[58]⟩).length := rfl
  have e2 : ((cl x).map (·.length)).sum = ((Txt.split x ⟨#[58]⟩).map (·.length)).sum := rfl
  omega
def spLPt : Sp := fun vs H Q _ => ∃ x : Str, vs = [.str x] ∧ x.length ≤ 50000 ∧ Asc x ∧ (prL (cs x) = none → ∀ H', Same H H' → Q .non H') ∧ (∀ p, prL (cs x) = some p → ∀ (t : Addr) (H' : Hp), H t = none → H' t = some (.tup (pV p)) → Same H H' → Q (.ref t) H')
section
variable {P : Program} {w : World} {K : PySem.W.Frag} {mg : Str → Option Value} {base : Heap} {d : Ads}
theorem ok_lpart (F : FunN K mg "_law_part" s_law_part P_law_part) (T : Bu mg) (c__law_number : Cal P w K mg base 1 "_law_number" P_law_number spLNum) : Cal P w K mg base 2 "_law_part" P_law_part spLPt := by
  refine cal_of F sc_law_part (fun vs H Q E h => ?_) (fun f cdv A outer s H vs Q E hr h => ?_)
  · obtain ⟨x, rfl, _⟩ := h
    rfl
  obtain ⟨x, rfl, hx, hax, k1, k2⟩ := h
  have hS : sizeLine = 16777216 := szl
  have e1 : Str.ofString ":" = colS := by decide +kernel
  refine ⟨_, (@pss_cons _ _ _ _ _ (@ps_if _ _ _ _ _ _ _ _ (@PW.pt _ _ _ (@pw_and _ _ _ _ _ _ _ (@pt_cmpR _ _ _ _ _ _ _ _ op_eq (@pe_callB _ _ _ _ _ _ _ _ _ call_len_str (by rfl) T.n_len (by decide +kernel) (@pa_cons _ _ _ _ _ (@pv _ 0 _ _ (by rfl) (by first | exact Or.inl rfl | exact Or.inr (Or.inl rfl) | exact Or.inr (Or.inr rfl)) (by decide) (by decide)) pa_nil (by rfl)) (by decide) (by decide) (by rfl) (by rfl)) pe_int (nomark _)) (@pw_and1 _ _ _ _ (@pt_chain _ _ _ _ _ _ _ _ _ _ _ _ op_le_str op_le_str pe_str (@pv _ 0 _ _ (by rfl) (by first | exact Or.inl rfl | exact Or.inr (Or.inl rfl) | exact Or.inr (Or.inr rfl)) (by decide) (by decide)) pe_str (by with_unfolding_all rfl))))) (@pss_one _ _ _ (@ps_ret _ _ _ _ (@pe_tup _ _ _ _ _ (@pa_cons _ _ _ _ _ pe_str (@pa_cons _ _ _ _ _ (@pv _ 0 _ _ (by rfl) (by first | exact Or.inl rfl | exact Or.inr (Or.inl rfl) | exact Or.inr (Or.inr rfl)) (by decide) (by decide)) pa_nil (by rfl)) (by rfl))))) pss_nil) (@pss_cons _ _ _ _ _ (@ps_setLc _ (1) _ _ _ _ _ _ _ ([("one", 2)]) _ _ _ (gName 2) _ _ (by rfl) sc_law_part.nd rfl rfl (@sw_true _ _ _ _ _ _ _ _ rfl rfl rfl (by decide +kernel)) (@pi_list _ _ _ _ (pe_split (@pv _ 0 _ _ (by rfl) (by first | exact Or.inl rfl | exact Or.inr (Or.inl rfl) | exact Or.inr (Or.inr rfl)) (by decide) (by decide)) pe_str)) (@blkOk_by (N_law_part) (defScope s_law_part) _ ([("one", 2)]) (by decide +kernel)) (fun _ _ _ _ _ => pg_name (i := 2) sc_law_part.nd rfl (Or.inl rfl)) (fun _ _ _ _ _ => pts_nil) (fun _ _ _ _ _ => (@pe_cal _ _ _ _ _ _ _ _ _ _ c__law_number (hr.mono (by decide)) (by rfl) (@pa_cons _ _ _ _ _ (@pv _ 2 _ _ (by rfl) (by first | exact Or.inl rfl | exact Or.inr (Or.inl rfl) | exact Or.inr (Or.inr rfl)) (by decide) (by decide)) pa_nil (by rfl)) (by decide) (by rfl) (by rfl))) (by intro _; rfl)) (@pss_cons _ _ _ _ _ (@ps_if _ _ _ _ _ _ _ _ (@PW.pt _ _ _ (@pw_or _ _ _ _ _ _ _ (@pt_cmpR _ _ _ _ _ _ _ _ op_ne (@pe_callB _ _ _ _ _ _ _ _ _ call_len_seq (by rfl) T.n_len (by decide +kernel) (@pa_cons _ _ _ _ _ (@pv _ 1 _ _ (by rfl) (by first | exact Or.inl rfl | exact Or.inr (Or.inl rfl) | exact Or.inr (Or.inr rfl)) (by decide) (by decide)) pa_nil (by rfl)) (by decide) (by decide) (by rfl) (by rfl)) pe_int (nomark _)) (@pw_or _ _ _ _ _ _ _ (@pt_cmpR _ _ _ _ _ _ _ _ op_isN (@pe_ix _ _ _ _ _ _ _ ix_list (@pv _ 1 _ _ (by rfl) (by first | exact Or.inl rfl | exact Or.inr (Or.inl rfl) | exact Or.inr (Or.inr rfl)) (by decide) (by decide)) pe_int (fun _ _ => rfl)) pe_non (nomark _)) (@pw_or _ _ _ _ _ _ _ (@pt_cmpR _ _ _ _ _ _ _ _ op_isN (@pe_ix _ _ _ _ _ _ _ ix_list (@pv _ 1 _ _ (by rfl) (by first | exact Or.inl rfl | exact Or.inr (Or.inl rfl) | exact Or.inr (Or.inr rfl)) (by decide) (by decide)) pe_int (fun _ _ => rfl)) pe_non (nomark _)) (@pw_or1 _ _ _ _ (@pt_cmpR _ _ _ _ _ _ _ _ op_lt (@pe_ix _ _ _ _ _ _ _ ix_list (@pv _ 1 _ _ (by rfl) (by first | exact Or.inl rfl | exact Or.inr (Or.inl rfl) | exact Or.inr (Or.inr rfl)) (by decide) (by decide)) pe_int (fun _ _ => rfl)) pe_int (nomark _))))))) (@pss_one _ _ _ (@ps_ret _ _ _ _ pe_non)) pss_nil) (@pss_one _ _ _ (@ps_ret _ _ _ _ (@pe_tup _ _ _ _ _ (@pa_cons _ _ _ _ _ pe_str (@pa_cons _ _ _ _ _ (@pe_ix _ _ _ _ _ _ _ ix_list (@pv _ 1 _ _ (by rfl) (by first | exact Or.inl rfl | exact Or.inr (Or.inl rfl) | exact Or.inr (Or.inr rfl)) (by decide) (by decide)) pe_int (fun _ _ => rfl)) (@pa_cons _ _ _ _ _ (@pe_ix _ _ _ _ _ _ _ ix_list (@pv _ 1 _ _ (by rfl) (by first | exact Or.inl rfl | exact Or.inr (Or.inl rfl) | exact Or.inr (Or.inr rfl)) (by decide) (by decide)) pe_int (fun _ _ => rfl)) pa_nil (by rfl)) (by rfl)) (by rfl)))))))), ?_⟩
  rw [e1]
  cases hl : letL (cs x) with
  | true =>
    obtain ⟨c, hc, rfl, _⟩ := ori_let hl
    have ea := az c
    refine ⟨_, rfl, _, rfl, by omega, rfl, _, rfl, ?_⟩
    refine ite2 (fun _ => ?_) (fun h => absurd (decide_eq_true rfl) h)
    refine ⟨_, rfl, _, _, rfl, rfl, _, rfl, ?_⟩
    have hp : prL (cs (⟨#[c]⟩ : Str)) = some (.inl c) := by
      unfold prL
      rw [if_pos hl]
      rfl
    refine ite2 (fun g => ?_) (fun g => ?_)
    · rw [if_pos g] at ea
      refine ⟨_, _, rfl, rfl, _, rfl, ?_⟩
      refine ite2 (fun g2 => ?_) (fun g2 => ?_)
      · exact ⟨_, rfl, by rw [hS]; show 2 ≤ 16777216; decide, fun t ht => k2 _ hp t _ ht upd_same (Same.upd_new ht)⟩
      · exact absurd (ea.trans hc) g2
    · rw [if_neg g, hc] at ea
      cases ea
  | false =>
    refine seq_after (fun σ' H' => σ' = [some (V.str x), none, none] ∧ H' = H) ?_ (fun cont => ?_)
    · rintro _ H0 ⟨rfl, rfl⟩
      refine ⟨_, rfl, ⟨_, rfl⟩, x, colS, rfl, rfl, by decide, by omega, fun q0 hq0 => ?_⟩
      have sq := Same.upd_new (o := .lst ((Txt.split x colS).map V.str)) hq0
      have eq0 : (upd H0 q0 (.lst ((Txt.split x colS).map V.str))) q0 = some (.lst ((cl x).map V.str)) := upd_same
      generalize upd H0 q0 (.lst ((Txt.split x colS).map V.str)) = H5 at sq eq0
      have hcl : (cl x).length ≤ 50001 := by
        have h := split_len x 58
        have e : (cl x).length = (Txt.split x ⟨#[58]⟩).length := rfl
        omega
      refine ⟨q0, rfl, ⟨_, SqL.of eq0⟩, fun D hD => ?_⟩
      refine lc_list (K := K) (a := q0) (xs := (cl x).map V.str) (fun j H' => Same H5 H' ∧ H' D = some (.lst (((cl x).take j).map nmV))) ⟨Same.upd_new hD, upd_same⟩ (fun j H' _ ⟨sm, _⟩ => SqL.of (sm _ _ eq0)) ?_ ?_
      · rintro j v H6 hj ⟨s6, hD6⟩
        rw [List.getElem?_map] at hj
        obtain ⟨y, hy, rfl⟩ := Option.map_eq_some_iff.mp hj
        have hym := List.mem_of_getElem? hy
        have hyl := (cl_len hym).1
        refine ⟨rfl, _, rfl, y, rfl, by omega, fun c hc => hax c (cl_mem hym c hc), fun H7 s7 => ?_⟩
        refine ⟨_, s7 _ _ hD6, by rw [List.length_map, List.length_take]; omega, fun c oc hc => ?_, ?_⟩
        · rw [upd_ne (ne_of_none hc hD)]
          exact s7 _ _ (s6 _ _ hc)
        · rw [upd_same, List.take_succ, hy, List.map_append]
          rfl
      rintro H6 ⟨s6, hD6⟩
      rw [List.length_map, List.take_of_length_le (Nat.le_refl _)] at hD6
      have s7 := sq.trans s6
      have hpr := prL_cl hl
      try dsimp only
      refine ⟨_, rfl, D, _, rfl, .inl (SqL.of hD6), rfl, _, rfl, ?_⟩
      rw [List.length_map]
      match hc : cl x, hpr, hcl, hD6 with
      | [], hpr, _, hD6 =>
        refine ite2 (fun _ => ?_) (fun h => absurd (by decide) h)
        exact k1 hpr _ s7
      | [a], hpr, _, hD6 =>
        refine ite2 (fun _ => ?_) (fun h => absurd rfl h)
        exact k1 hpr _ s7
      | a :: b :: c :: r, hpr, _, hD6 =>
        refine ite2 (fun _ => ?_) (fun h => absurd ?_ h)
        · exact k1 hpr _ s7
        · simp
          omega
      | [a, b], hpr, _, hD6 =>
        refine ite2 (fun h => by cases h) (fun _ => ?_)
        have hpr : prL (cs x) = twoN (cs a) (cs b) := hpr
        refine ⟨_, rfl, D, _, 0, _, rfl, rfl, SqL.of hD6, rfl, rfl, _, rfl, ?_⟩
        cases ea : numW (cs a) with
        | none =>
          have na : nmV a = .non := by unfold nmV; rw [ea]
          have hp : prL (cs x) = none := by rw [hpr]; unfold twoN; rw [ea]
          rw [na]
          exact ite2 (fun _ => k1 hp _ s7) (fun h => absurd (decide_eq_true rfl) h)
        | some o =>
          have na : nmV a = .int (o : Int) := by unfold nmV; rw [ea]
          rw [na]
          refine ite2 (fun h => absurd (of_decide_eq_true h) (by simp)) (fun _ => ?_)
          refine ⟨_, rfl, D, _, 1, _, rfl, rfl, SqL.of hD6, rfl, rfl, _, rfl, ?_⟩
          cases ec : numW (cs b) with
          | none =>
            have nc : nmV b = .non := by unfold nmV; rw [ec]
            have hp : prL (cs x) = none := by rw [hpr]; unfold twoN; rw [ea, ec]
            rw [nc]
            exact ite2 (fun _ => k1 hp _ s7) (fun h => absurd (decide_eq_true rfl) h)
          | some m =>
            have nc : nmV b = .int (m : Int) := by unfold nmV; rw [ec]
            rw [nc]
            refine ite2 (fun h => absurd (of_decide_eq_true h) (by simp)) (fun _ => ?_)
            refine ⟨_, rfl, D, _, 1, _, rfl, rfl, SqL.of hD6, rfl, ?_⟩
            rw [nc]
            refine ⟨_, _, rfl, rfl, _, rfl, ?_⟩
            refine ite2 (fun h => ?_) (fun h => ?_)
            · have hm := of_decide_eq_true h
              have hp : prL (cs x) = none := by rw [hpr]; unfold twoN; rw [ea, ec]; exact if_neg (by omega)
              exact k1 hp _ s7
            · have hm : 1 ≤ m := by
                have : ¬ (m : Int) < 1 := fun q => h (decide_eq_true q)
                omega
              have hp : prL (cs x) = some (.inr (o, m)) := by rw [hpr]; unfold twoN; rw [ea, ec]; exact if_pos hm
              try unfold tNext
              try dsimp only
              refine ⟨_, rfl, D, _, 0, _, rfl, rfl, SqL.of hD6, rfl, _, rfl, D, _, 1, _, rfl, rfl, SqL.of hD6, rfl, by rw [hS]; show 3 ≤ 16777216; decide, fun t ht => ?_⟩
              refine k2 _ hp t _ (s7.free ht) ?_ (s7.trans (Same.upd_new ht))
              rw [upd_same, na, nc]
              rfl
    · refine ⟨_, rfl, x, rfl, by omega, rfl, _, rfl, ?_⟩
      refine ite2 (fun h => ?_) (fun h => ?_)
      · have h1 : x.length = 1 := by have := V.int.inj (of_decide_eq_true h); omega
        obtain ⟨c, rfl⟩ := one_of h1
        have ea := az c
        have hl : isl c = false := hl
        refine ⟨_, rfl, _, _, rfl, rfl, _, rfl, ?_⟩
        refine ite2 (fun g => ?_) (fun g => ?_)
        · rw [if_pos g] at ea
          refine ⟨_, _, rfl, rfl, _, rfl, ?_⟩
          refine ite2 (fun g2 => ?_) (fun g2 => ?_)
          · rw [ea, hl] at g2; cases g2
          · exact cont _ _ ⟨rfl, rfl⟩
        · refine ⟨_, rfl, ?_⟩
          refine ite2 (fun g2 => by cases g2) (fun _ => ?_)
          exact cont _ _ ⟨rfl, rfl⟩
      · exact cont _ _ ⟨rfl, rfl⟩
end
end K55

set_option Elab.async false
set_option linter.all false
set_option maxRecDepth 100000
set_option maxHeartbeats 1000000
namespace K55
open PySem L2
theorem wds_asc {l : Str} (h : Asc l) : ∀ y ∈ wds l, Asc y := fun y hy c hc => by
  refine h c ?_
  have e : jnL 32 ((wds l).map cs) = cs l := by
    have := cs_joinC 32 (wds l)
    rw [← this]
    exact congrArg cs (join_split l spS)
  rw [← e]
  have : ∀ ws : List (List Nat), cs y ∈ ws → c ∈ jnL 32 ws := fun ws => by
    induction ws with
    | nil => intro h; cases h
    | cons w ws ih =>
      intro hm
      by_cases hw : ws = []
      · subst hw
        rw [jnL_one]
        rcases List.mem_cons.mp hm with rfl | hm
        · exact hc
        · cases hm
      · rw [jnL_cons hw]
        rcases List.mem_cons.mp hm with rfl | hm
        · exact List.mem_append_left _ hc
        · exact List.mem_append_right _ (List.mem_cons_of_mem _ (ih hm))
  exact this _ (List.mem_map_of_mem hy)
def spDue : Sp := fun vs H Q _ => ∃ x : Str, vs = [.str x] ∧ x.length ≤ 50000 ∧ Asc x ∧ (∀ n, Rd x (some n) → ∀ H', Same H H' → Q (.int (n : Int)) H') ∧ (Rd x none → ∀ (a : Addr) (us : List V) (H' : Hp), H a = none → H' a = some (.tup us) → Prts H' us (prs (wdx x)) → Same H H' → Q (.ref a) H')
section
variable {P : Program} {w : World} {K : PySem.W.Frag} {mg : Str → Option Value} {base : Heap} {d : Ads}
theorem ok_due (F : FunN K mg "_law_due" s_law_due P_law_due) (T : Bu mg) (c__law_part : Cal P w K mg base 2 "_law_part" P_law_part spLPt) : Cal P w K mg base 3 "_law_due" P_law_due spDue := by
  refine cal_of F sc_law_due (fun vs H Q E h => ?_) (fun f cdv A outer s H vs Q E hr h => ?_)
  · obtain ⟨x, rfl, _⟩ := h
    rfl
  obtain ⟨x, rfl, hx, hax, k1, k2⟩ := h
  have hS : sizeLine = 16777216 := szl
  have e1 : Str.ofString " " = spS := by decide +kernel
  refine ⟨_, (@pss_cons _ _ _ _ _ (@ps_if _ _ _ _ _ _ _ _ (@pt_cmpR _ _ _ _ _ _ _ _ op_eq (@pv _ 0 _ _ (by rfl) (by first | exact Or.inl rfl | exact Or.inr (Or.inl rfl) | exact Or.inr (Or.inr rfl)) (by decide) (by decide)) pe_str (nomark _)) (@pss_one _ _ _ (@ps_ret _ _ _ _ (@pe_tup _ _ _ _ _ pa_nil))) pss_nil) (@pss_cons _ _ _ _ _ (@ps_set _ _ (1) _ _ _ _ sc_law_due.nd rfl (Or.inl rfl) (@pe_lst _ _ _ _ pa_nil) (by rfl) (by first | exact .inl rfl | exact .inr rfl)) (@pss_cons _ _ _ _ _ (@ps_set _ _ (2) _ _ _ _ sc_law_due.nd rfl (Or.inl rfl) pe_int (by rfl) (by first | exact .inl rfl | exact .inr rfl)) (@pss_cons _ _ _ _ _ (@ps_for _ _ _ _ _ _ _ _ PassesOwn.never rfl (@pi_enum _ _ _ _ _ _ _ _ (by rfl) T.n_enumerate (@pa_cons _ _ _ _ _ (pe_split (@pv _ 0 _ _ (by rfl) (by first | exact Or.inl rfl | exact Or.inr (Or.inl rfl) | exact Or.inr (Or.inr rfl)) (by decide) (by decide)) pe_str) pa_nil (by rfl)) (by rfl)) (@pg_tup _ _ _ _ _ _ (by rfl) (@pgs_cons _ _ _ _ _ (@pg_name _ _ (3) _ sc_law_due.nd rfl (Or.inl rfl) (by first | exact .inl rfl | exact .inr rfl)) (@pgs_cons _ _ _ _ _ (@pg_name _ _ (4) _ sc_law_due.nd rfl (Or.inl rfl) (by first | exact .inl rfl | exact .inr rfl)) pgs_nil (by rfl)) (by rfl)) (by rfl) (by rfl)) (@pss_cons _ _ _ _ _ (@ps_set _ _ (5) _ _ _ _ sc_law_due.nd rfl (Or.inl rfl) (@pe_cal _ _ _ _ _ _ _ _ _ _ c__law_part (hr.mono (by decide)) (by rfl) (@pa_cons _ _ _ _ _ (@pv _ 4 _ _ (by rfl) (by first | exact Or.inl rfl | exact Or.inr (Or.inl rfl) | exact Or.inr (Or.inr rfl)) (by decide) (by decide)) pa_nil (by rfl)) (by decide) (by rfl) (by rfl)) (by rfl) (by first | exact .inl rfl | exact .inr rfl)) (@pss_cons _ _ _ _ _ (@ps_if _ _ _ _ _ _ _ _ (@pt_cmpR _ _ _ _ _ _ _ _ op_notN (@pv _ 5 _ _ (by rfl) (by first | exact Or.inl rfl | exact Or.inr (Or.inl rfl) | exact Or.inr (Or.inr rfl)) (by decide) (by decide)) pe_non (nomark _)) (@pss_one _ _ _ (@ps_set _ _ (2) _ _ _ _ sc_law_due.nd rfl (Or.inl rfl) (@pe_op _ _ _ _ _ _ _ _ op_add (@pv _ 2 _ _ (by rfl) (by first | exact Or.inl rfl | exact Or.inr (Or.inl rfl) | exact Or.inr (Or.inr rfl)) (by decide) (by decide)) (@pe_ix _ _ _ _ _ _ _ ix_list (@pe_lst _ _ _ _ (@pa_cons _ _ _ _ _ pe_int (@pa_cons _ _ _ _ _ (@pe_ix _ _ _ _ _ _ _ ix_tup (@pv _ 5 _ _ (by rfl) (by first | exact Or.inl rfl | exact Or.inr (Or.inl rfl) | exact Or.inr (Or.inr rfl)) (by decide) (by decide)) (@pe_un _ _ _ _ _ _ un_neg pe_int) (fun _ _ => rfl)) pa_nil (by rfl)) (by rfl))) (@pe_callTy _ _ _ _ _ _ _ _ _ call_int1 (by rfl) T.n_int (by decide +kernel) (@pa_cons _ _ _ _ _ (@pe_cmpR _ _ _ _ _ _ _ _ op_eq (@pe_ix _ _ _ _ _ _ _ ix_tup (@pv _ 5 _ _ (by rfl) (by first | exact Or.inl rfl | exact Or.inr (Or.inl rfl) | exact Or.inr (Or.inr rfl)) (by decide) (by decide)) pe_int (fun _ _ => rfl)) pe_str (nomark _)) pa_nil (by rfl)) (by decide) (by decide) (by rfl) (by rfl)) (fun _ _ => rfl))) (by rfl) (by first | exact .inl rfl | exact .inr rfl))) pss_nil) (@pss_cons _ _ _ _ _ (@ps_if _ _ _ _ _ _ _ _ (@PW.pt _ _ _ (@pw_or _ _ _ _ _ _ _ (@pt_cmpR _ _ _ _ _ _ _ _ op_isN (@pv _ 5 _ _ (by rfl) (by first | exact Or.inl rfl | exact Or.inr (Or.inl rfl) | exact Or.inr (Or.inr rfl)) (by decide) (by decide)) pe_non (nomark _)) (@pw_or1 _ _ _ _ (@pt_cmpR _ _ _ _ _ _ _ _ op_gt (@pv _ 2 _ _ (by rfl) (by first | exact Or.inl rfl | exact Or.inr (Or.inl rfl) | exact Or.inr (Or.inr rfl)) (by decide) (by decide)) pe_int (nomark _))))) (@pss_one _ _ _ (@ps_ret _ _ _ _ (@pv _ 3 _ _ (by rfl) (by first | exact Or.inl rfl | exact Or.inr (Or.inl rfl) | exact Or.inr (Or.inr rfl)) (by decide) (by decide)))) pss_nil) (@pss_one _ _ _ (@ps_expr _ _ _ _ (@pe_bm _ _ _ _ _ _ _ _ _ _ _ _ PySem.F.plainAttrs_list PySem.F.slot_list_append PySem.F.type_list_append mt_append (@pv _ 1 _ _ (by rfl) (by first | exact Or.inl rfl | exact Or.inr (Or.inl rfl) | exact Or.inr (Or.inr rfl)) (by decide) (by decide)) (@pa_cons _ _ _ _ _ (@pv _ 5 _ _ (by rfl) (by first | exact Or.inl rfl | exact Or.inr (Or.inl rfl) | exact Or.inr (Or.inr rfl)) (by decide) (by decide)) pa_nil (by rfl)) (by rfl) (by rfl) (by rfl) (by rfl) (by rfl)) (by rfl)))))) (by intro _; rfl)) (@pss_cons _ _ _ _ _ (@ps_for _ _ _ _ _ _ _ _ PassesOwn.never rfl (@pi_enum _ _ _ _ _ _ _ _ (by rfl) T.n_enumerate (@pa_cons _ _ _ _ _ (@pv _ 1 _ _ (by rfl) (by first | exact Or.inl rfl | exact Or.inr (Or.inl rfl) | exact Or.inr (Or.inr rfl)) (by decide) (by decide)) pa_nil (by rfl)) (by rfl)) (@pg_tup _ _ _ _ _ _ (by rfl) (@pgs_cons _ _ _ _ _ (@pg_name _ _ (3) _ sc_law_due.nd rfl (Or.inl rfl) (by first | exact .inl rfl | exact .inr rfl)) (@pgs_cons _ _ _ _ _ (@pg_name _ _ (5) _ sc_law_due.nd rfl (Or.inl rfl) (by first | exact .inl rfl | exact .inr rfl)) pgs_nil (by rfl)) (by rfl)) (by rfl) (by rfl)) (@pss_one _ _ _ (@ps_if _ _ _ _ _ _ _ _ (@PW.pt _ _ _ (@pw_and _ _ _ _ _ _ _ (@pt_cmpR _ _ _ _ _ _ _ _ op_eq (@pe_ix _ _ _ _ _ _ _ ix_tup (@pv _ 5 _ _ (by rfl) (by first | exact Or.inl rfl | exact Or.inr (Or.inl rfl) | exact Or.inr (Or.inr rfl)) (by decide) (by decide)) pe_int (fun _ _ => rfl)) pe_str (nomark _)) (@pw_and1 _ _ _ _ (@pt_cmpR _ _ _ _ _ _ _ _ op_gt (@pe_op _ _ _ _ _ _ _ _ op_add (@pe_ix _ _ _ _ _ _ _ ix_tup (@pv _ 5 _ _ (by rfl) (by first | exact Or.inl rfl | exact Or.inr (Or.inl rfl) | exact Or.inr (Or.inr rfl)) (by decide) (by decide)) pe_int (fun _ _ => rfl)) (@pe_ix _ _ _ _ _ _ _ ix_tup (@pv _ 5 _ _ (by rfl) (by first | exact Or.inl rfl | exact Or.inr (Or.inl rfl) | exact Or.inr (Or.inr rfl)) (by decide) (by decide)) pe_int (fun _ _ => rfl))) (@pv _ 2 _ _ (by rfl) (by first | exact Or.inl rfl | exact Or.inr (Or.inl rfl) | exact Or.inr (Or.inr rfl)) (by decide) (by decide)) (nomark _))))) (@pss_one _ _ _ (@ps_ret _ _ _ _ (@pv _ 3 _ _ (by rfl) (by first | exact Or.inl rfl | exact Or.inr (Or.inl rfl) | exact Or.inr (Or.inr rfl)) (by decide) (by decide)))) pss_nil)) (by intro _; rfl)) (@pss_one _ _ _ (@ps_ret _ _ _ _ (@pe_callTy _ _ _ _ _ _ _ _ _ call_tuple_of (by rfl) T.n_tuple (by decide +kernel) (@pa_cons _ _ _ _ _ (@pv _ 1 _ _ (by rfl) (by first | exact Or.inl rfl | exact Or.inr (Or.inl rfl) | exact Or.inr (Or.inr rfl)) (by decide) (by decide)) pa_nil (by rfl)) (by decide) (by decide) (by rfl) (by rfl))))))))), ?_⟩
  rw [e1]
  refine ⟨_, rfl, rfl, _, rfl, ?_⟩
  refine ite2 (fun h => ?_) (fun h => ?_)
  · have h0 : wdx x = [] := by
      have := V.str.inj (of_decide_eq_true h)
      subst this
      rfl
    refine ⟨by rw [hS]; show 0 ≤ 16777216; decide, fun t ht => ?_⟩
    refine k2 ⟨?_, ?_⟩ t [] _ ht upd_same ?_ (Same.upd_new ht)
    · rw [h0]
      intro i
      rfl
    · rw [h0]
      intro j q hq
      cases hq
    · rw [h0]
      exact .nil
  have hx0 : x.length ≠ 0 := fun e => h (decide_eq_true (congrArg V.str (cs_inj (List.eq_nil_of_length_eq_zero (by rw [cs_len]; exact e)))))
  have hw : wdx x = wds x := by unfold wdx; exact if_neg hx0
  try unfold tNext
  try dsimp only
  refine ⟨by rw [hS]; show 0 ≤ 16777216; decide, fun L hL => ?_⟩
  have sL := Same.upd_new (o := .lst ([] : List V)) hL
  have eL : (upd H L (.lst [])) L = some (.lst ([] : List V)) := upd_same
  generalize upd H L (.lst ([] : List V)) = H1 at sL eL
  try dsimp only
  refine ⟨_, rfl, ⟨_, rfl⟩, x, spS, rfl, rfl, by decide, by omega, fun W hW => ?_⟩
  have sW := Same.upd_new (o := .lst ((Txt.split x spS).map V.str)) hW
  have eW : (upd H1 W (.lst ((Txt.split x spS).map V.str))) W = some (.lst ((wdx x).map V.str)) := by rw [upd_same, hw]; rfl
  generalize upd H1 W (.lst ((Txt.split x spS).map V.str)) = H2 at sW eW
  have eL2 := sW _ _ eL
  have sH2 := sL.trans sW
  have nLW : L ≠ W := ne_of_none eL hW
  have hwc : (wdx x).length ≤ 50001 := by
    rw [hw]
    have h := split_len x 32
    have e : (wds x).length = (Txt.split x ⟨#[32]⟩).length := rfl
    omega
  have hwl : ∀ y ∈ wdx x, y.length ≤ 50000 ∧ Asc y := fun y hy => by
    rw [hw] at hy
    exact ⟨Nat.le_trans (wds_len hy) hx, wds_asc hax y hy⟩
  refine ⟨W, _, rfl, SqL.of eW, ?_⟩
  refine for_enum0 (K := K) (a := W) (xs := (wdx x).map V.str) (fun i σ H' => ∃ (us : List V) (v3 v4 v5 : Option V), σ = [some (.str x), some (.ref L), some (.int ((sumL (prs ((wdx x).take i)) : Nat) : Int)), v3, v4, v5] ∧ Same H H' ∧ H' W = some (.lst ((wdx x).map V.str)) ∧ H' L = some (.lst us) ∧ Prts H' us (prs ((wdx x).take i)) ∧ ∀ j, j < i → okAt (wdx x) j = true) ⟨[], _, _, _, rfl, sH2, eW, eL2, .nil, fun j hj => by omega⟩ (fun i σ H' _ h => by
    obtain ⟨_, _, _, _, _, _, h, _⟩ := h
    exact SqL.of h) ?_ ?_
  · rintro i v _ H3 T0 hi ⟨us, v3, v4, v5, rfl, s3, eW3, eL3, pr3, hin⟩ hT0
    rw [List.getElem?_map] at hi
    obtain ⟨y, hy, rfl⟩ := Option.map_eq_some_iff.mp hi
    obtain ⟨hyl, hya⟩ := hwl y (List.mem_of_getElem? hy)
    have hil := (List.getElem?_eq_some_iff.mp hy).1
    have sT := Same.upd_new (o := .tup [.int (i : Int), .str y]) hT0
    refine ⟨T0, _, rfl, SqT.of upd_same, rfl, _, _, rfl, _, _, rfl, rfl, ?_⟩
    have s4 := s3.trans sT
    have eW4 := sT _ _ eW3
    have eL4 := sT _ _ eL3
    have pr4 := pr3.kept fun r o e _ => sT _ _ e
    generalize upd H3 T0 (.tup [.int (i : Int), .str y]) = H4 at s4 eW4 eL4 pr4
    clear sT hT0 s3 eW3 eL3 pr3
    have hLH : H L = none := hL
    refine ⟨_, rfl, y, rfl, hyl, hya, (fun hp H5 s5 => ?_), fun p hp t H5 ht et s5 => ?_⟩
    · refine ⟨_, rfl, rfl, _, rfl, ?_⟩
      refine ite2 (fun h => by cases h) (fun _ => ?_)
      try unfold tNext
      try dsimp only
      refine ⟨_, rfl, rfl, _, rfl, ?_⟩
      refine ite2 (fun _ => ?_) (fun h => absurd (decide_eq_true rfl) h)
      refine ⟨_, rfl, k1 i (.inl ⟨?_, hin⟩) _ (s4.trans s5)⟩
      rw [okAt_eq hy]
      unfold okP
      rw [hp]
    · refine ⟨_, rfl, rfl, _, rfl, ?_⟩
      refine ite2 (fun _ => ?_) (fun h => absurd rfl h)
      obtain ⟨kd, lst, hk, hlst, hc⟩ : ∃ (kd : Str) (lst : V), atI (pV p) 0 = some (.str kd) ∧ atI (pV p) (-1) = some lst ∧ atI [V.int 1, lst] (if decide (V.str kd = V.str (Str.ofString "copy")) = true then 1 else 0) = some (.int ((pLen p : Nat) : Int)) := by
        match p with
        | .inl c => exact ⟨_, _, rfl, rfl, by rw [show decide (V.str (Str.ofString "sign") = V.str (Str.ofString "copy")) = false by decide +kernel]; rfl⟩
        | .inr (o, m) => exact ⟨_, _, rfl, rfl, by rw [decide_eq_true rfl]; rfl⟩
      refine ⟨_, rfl, _, rfl, _, rfl, t, _, -1, _, rfl, rfl, SqT.of et, hlst, by rw [hS]; show 2 ≤ 16777216; decide, fun U hU => ?_⟩
      have sU := Same.upd_new (o := .lst [V.int 1, lst]) hU
      have eU : (upd H5 U (.lst [V.int 1, lst])) U = some (.lst [V.int 1, lst]) := upd_same
      generalize upd H5 U (.lst [V.int 1, lst]) = H6 at sU eU
      refine ⟨_, rfl, t, _, 0, _, rfl, rfl, SqT.of (sU _ _ et), hk, rfl, .inr ⟨_, rfl, ?_⟩⟩
      refine ⟨U, _, _, _, rfl, rfl, SqL.of eU, hc, _, _, rfl, rfl, ?_⟩
      try dsimp only
      have s6 := (s4.trans s5).trans sU
      refine ⟨_, rfl, rfl, _, rfl, ?_⟩
      refine ite2 (fun h => absurd (of_decide_eq_true h) (by simp)) (fun _ => ?_)
      refine ⟨_, rfl, _, _, rfl, rfl, _, rfl, ?_⟩
      have hpp : prt y = p := by unfold prt; rw [hp]; rfl
      refine ite2 (fun h => ?_) (fun h => ?_)
      · have h300 := of_decide_eq_true h
        refine ⟨_, rfl, k1 i (.inl ⟨?_, hin⟩) _ s6⟩
        rw [okAt_eq hy]
        unfold okP
        rw [hp]
        exact decide_eq_false (by omega)
      · have h300 : ¬ (300 : Int) < ((sumL (prs ((wdx x).take i)) : Nat) : Int) + ((pLen p : Nat) : Int) := fun q => h (decide_eq_true q)
        have eL6 := sU _ _ (s5 _ _ eL4)
        have pr6 := pr4.kept fun r o e _ => sU _ _ (s5 _ _ e)
        have nLt : L ≠ t := ne_of_none eL4 ht
        try unfold tNext
        try dsimp only
        refine ⟨_, rfl, .inl ⟨rfl, _, SqL.of eL6⟩, _, rfl, L, _, _, rfl, rfl, eL6, by have := pr6.len; unfold prs at this; rw [List.length_map, List.length_take] at this; omega, ?_⟩
        have e3 : prs ((wdx x).take (i + 1)) = prs ((wdx x).take i) ++ [p] := by rw [prs_succ hy, hpp]
        refine ⟨us ++ [.ref t], some (.int (i : Int)), some (.str y), some (.ref t), ?_, fun b ob hb => ?_, ?_, upd_same, ?_, fun j hj => ?_⟩
        · rw [e3, sumL_snoc]
          rfl
        · rw [upd_ne (ne_of_none hb hLH)]
          exact s6 _ _ hb
        · rw [upd_ne (Ne.symm nLW)]
          exact sU _ _ (s5 _ _ eW4)
        · rw [e3]
          refine Prts.snoc (pr6.kept fun r ob e ⟨xs, ex⟩ => ?_) ?_
          · have nr : r ≠ L := fun er => by rw [er, eL6] at e; rw [ex] at e; cases e
            rw [upd_ne nr]
            exact e
          · rw [upd_ne (Ne.symm nLt)]
            exact sU _ _ et
        · by_cases g : j < i
          · exact hin j g
          · obtain rfl : j = i := by omega
            rw [okAt_eq hy]
            unfold okP
            rw [hp]
            exact decide_eq_true (by omega)
  · rintro _ H3 ⟨us, v3, v4, v5, rfl, s3, eW3, eL3, pr3, hin⟩
    rw [List.length_map, List.take_of_length_le (Nat.le_refl _)] at pr3
    rw [List.length_map] at hin
    have hall : AllOk (wdx x) := fun j => by
      by_cases g : j < (wdx x).length
      · exact hin j g
      · unfold okAt
        rw [List.getElem?_eq_none (by omega)]
    have hul := pr3.len
    refine ⟨_, rfl, L, _, rfl, SqL.of eL3, ?_⟩
    refine for_enum0 (K := K) (a := L) (xs := us) (fun i σ H' => ∃ (v3 v4 v5 : Option V), σ = [some (.str x), some (.ref L), some (.int ((sumL (prs (wdx x)) : Nat) : Int)), v3, v4, v5] ∧ Same H3 H' ∧ ∀ (j : Nat), j < i → ∀ (q : Prt), (prs (wdx x))[j]? = some q → rch q ≤ sumL (prs (wdx x))) ⟨_, _, _, by rw [List.length_map, List.take_of_length_le (Nat.le_refl _)], .refl _, fun j hj => by omega⟩ (fun i σ H' _ h => by
      obtain ⟨_, _, _, _, h, _⟩ := h
      exact SqL.of (h _ _ eL3)) ?_ ?_
    · rintro i v _ H4 T0 hi ⟨v3, v4, v5, rfl, s4, hrc⟩ hT0
      obtain ⟨r, p, rfl, hp, hr2⟩ := Prts.at' pr3 hi
      have sT := Same.upd_new (o := .tup [.int (i : Int), V.ref r]) hT0
      refine ⟨T0, _, rfl, SqT.of upd_same, rfl, _, _, rfl, _, _, rfl, rfl, ?_⟩
      have s5 := s4.trans sT
      generalize upd H4 T0 (.tup [.int (i : Int), V.ref r]) = H5 at s5 sT
      have hr5 := s5 _ _ hr2
      have ext : rch p ≤ sumL (prs (wdx x)) → ∀ (j : Nat), j < i + 1 → ∀ (q : Prt), (prs (wdx x))[j]? = some q → rch q ≤ sumL (prs (wdx x)) := fun hq j hj q hjq => by
        by_cases g : j < i
        · exact hrc j g q hjq
        · obtain rfl : j = i := by omega
          obtain rfl : q = p := by rw [hp] at hjq; exact (Option.some.inj hjq).symm
          exact hq
      match p, hp, hr5, ext with
      | .inl c, hp, hr5, ext =>
        refine ⟨_, rfl, r, _, 0, _, rfl, rfl, SqT.of hr5, rfl, rfl, _, rfl, ?_⟩
        refine ite2 (fun h => absurd h (by decide +kernel)) (fun _ => ?_)
        exact ⟨_, _, _, rfl, s5, ext (Nat.zero_le _)⟩
      | .inr (o, m), hp, hr5, ext =>
        refine ⟨_, rfl, r, _, 0, _, rfl, rfl, SqT.of hr5, rfl, rfl, _, rfl, ?_⟩
        refine ite2 (fun _ => ?_) (fun h => absurd (decide_eq_true rfl) h)
        refine ⟨_, rfl, r, _, 1, _, rfl, rfl, SqT.of hr5, rfl, _, rfl, r, _, 2, _, rfl, rfl, SqT.of hr5, rfl, _, _, rfl, rfl, _, rfl, _, _, rfl, rfl, _, rfl, ?_⟩
        refine ite2 (fun h => ?_) (fun h => ?_)
        · have h300 := of_decide_eq_true h
          refine ⟨_, rfl, k1 i (.inr ⟨hall, ⟨_, hp, ?_⟩, hrc⟩) _ (s3.trans s5)⟩
          show sumL (prs (wdx x)) < o + m
          omega
        · have h300 : ¬ ((sumL (prs (wdx x)) : Nat) : Int) < (o : Int) + (m : Int) := fun q => h (decide_eq_true q)
          exact ⟨_, _, _, rfl, s5, ext (by show o + m ≤ _; omega)⟩
    · rintro _ H4 ⟨v3, v4, v5, rfl, s4, hrc⟩
      rw [hul] at hrc
      refine ⟨_, rfl, L, _, rfl, .inl ⟨SqL.of (s4 _ _ eL3), fun t ht => ?_⟩⟩
      have st := Same.upd_new (o := .tup us) ht
      refine k2 ⟨hall, fun j q hq => hrc j (List.getElem?_eq_some_iff.mp hq).1 q hq⟩ t us _ ((s3.trans s4).free ht) upd_same (pr3.kept fun r o e _ => st _ _ (s4 _ _ e)) ((s3.trans s4).trans st)
end
end K55

set_option Elab.async false
set_option linter.all false
set_option maxRecDepth 100000
set_option maxHeartbeats 1000000
namespace K55
open PySem L2
/-- a form of the law's own: letters and copies within the text -/
def FG (ps : List Prt) : Prop := (∀ p ∈ ps, PB p) ∧ sumL ps ≤ 300 ∧ (∀ p ∈ ps, rch p ≤ sumL ps) ∧ ps.length ≤ 9
def spAF : Sp := fun vs H Q _ => ∃ (p q : Addr), vs = [.ref p] ∧ Pen H p q ∧ ∀ (a : Addr) (us : List V) (ps : List Prt) (H' : Hp), H a = none → H' a = some (.tup us) → Prts H' us ps → FG ps → Pen H' p q → Off p H H' → Q (.ref a) H'
def G0 : Prt → Prop
  | .inl c => isl c = true
  | .inr (o, m) => o = 0 ∧ 1 ≤ m ∧ m ≤ 300
theorem isl_of {c : Nat} (h1 : 97 ≤ c) (h2 : c ≤ 122) : isl c = true := by
  unfold isl
  simp
  omega
theorem Pen.tup {H H' : Hp} {p q a : Addr} {xs : List V} (pn : Pen H p q) (ha : H a = some (.tup xs)) (o : Off p H H') : H' a = some (.tup xs) := o _ _ ha fun e => by
  obtain ⟨ns, z, n, hp, _⟩ := pn.ex
  rw [e, hp] at ha
  cases ha
section
variable {P : Program} {w : World} {K : PySem.W.Frag} {mg : Str → Option Value} {base : Heap} {d : Ads}
theorem ok_af (F : FunN K mg "_law_any_form" s_law_any_form P_law_any_form) (T : Bu mg) (c__law_take : Cal P w K mg base 1 "_law_take" P_law_take spTake) (c__law_letter : Cal P w K mg base 2 "_law_letter" P_law_letter spLetter) : Cal P w K mg base 3 "_law_any_form" P_law_any_form spAF := by
  refine cal_of F sc_law_any_form (fun vs H Q E h => ?_) (fun f cdv A outer s H vs Q E hr h => ?_)
  · obtain ⟨p, q, rfl, _⟩ := h
    rfl
  obtain ⟨p, q, rfl, pn, k⟩ := h
  have hS : sizeLine = 16777216 := szl
  refine ⟨_, (@pss_cons _ _ _ _ _ (@ps_set _ _ (1) _ _ _ _ sc_law_any_form.nd rfl (Or.inl rfl) (@pe_lst _ _ _ _ pa_nil) (by rfl) (by first | exact .inl rfl | exact .inr rfl)) (@pss_cons _ _ _ _ _ (@ps_set _ _ (2) _ _ _ _ sc_law_any_form.nd rfl (Or.inl rfl) pe_int (by rfl) (by first | exact .inl rfl | exact .inr rfl)) (@pss_cons _ _ _ _ _ (@ps_for _ _ _ _ _ _ _ _ PassesOwn.never rfl (@pi_range1 _ _ _ _ _ _ rfl T.n_range (@pa_cons _ _ _ _ _ (@pe_cal _ _ _ _ _ _ _ _ _ _ c__law_take (hr.mono (by decide)) (by rfl) (@pa_cons _ _ _ _ _ (@pv _ 0 _ _ (by rfl) (by first | exact Or.inl rfl | exact Or.inr (Or.inl rfl) | exact Or.inr (Or.inr rfl)) (by decide) (by decide)) (@pa_cons _ _ _ _ _ pe_int pa_nil (by rfl)) (by rfl)) (by decide) (by rfl) (by rfl)) pa_nil (by rfl)) (by rfl)) (@pg_name _ _ (3) _ sc_law_any_form.nd rfl (Or.inl rfl) (by first | exact .inl rfl | exact .inr rfl)) (@pss_cons _ _ _ _ _ (@ps_set _ _ (4) _ _ _ _ sc_law_any_form.nd rfl (Or.inl rfl) (@pe_callB _ _ _ _ _ _ _ _ _ (call_min2 rfl) (by rfl) T.n_min (by decide +kernel) (@pa_cons _ _ _ _ _ (@pe_op _ _ _ _ _ _ _ _ op_sub pe_int (@pv _ 2 _ _ (by rfl) (by first | exact Or.inl rfl | exact Or.inr (Or.inl rfl) | exact Or.inr (Or.inr rfl)) (by decide) (by decide))) (@pa_cons _ _ _ _ _ (@pe_op _ _ _ _ _ _ _ _ op_add pe_int (@pe_cal _ _ _ _ _ _ _ _ _ _ c__law_take (hr.mono (by decide)) (by rfl) (@pa_cons _ _ _ _ _ (@pv _ 0 _ _ (by rfl) (by first | exact Or.inl rfl | exact Or.inr (Or.inl rfl) | exact Or.inr (Or.inr rfl)) (by decide) (by decide)) (@pa_cons _ _ _ _ _ (@pe_ix _ _ _ _ _ _ _ ix_list (@pe_lst _ _ _ _ (@pa_cons _ _ _ _ _ pe_int (@pa_cons _ _ _ _ _ pe_int (@pa_cons _ _ _ _ _ pe_int pa_nil (by rfl)) (by rfl)) (by rfl))) (@pe_cal _ _ _ _ _ _ _ _ _ _ c__law_take (hr.mono (by decide)) (by rfl) (@pa_cons _ _ _ _ _ (@pv _ 0 _ _ (by rfl) (by first | exact Or.inl rfl | exact Or.inr (Or.inl rfl) | exact Or.inr (Or.inr rfl)) (by decide) (by decide)) (@pa_cons _ _ _ _ _ pe_int pa_nil (by rfl)) (by rfl)) (by decide) (by rfl) (by rfl)) (fun _ _ => rfl)) pa_nil (by rfl)) (by rfl)) (by decide) (by rfl) (by rfl))) pa_nil (by rfl)) (by rfl)) (by decide) (by decide) (by rfl) (by rfl)) (by rfl) (by first | exact .inl rfl | exact .inr rfl)) (@pss_cons _ _ _ _ _ (@ps_if _ _ _ _ _ _ _ _ (@PW.pt _ _ _ (@pw_and _ _ _ _ _ _ _ (@pt_cmpR _ _ _ _ _ _ _ _ op_gt (@pv _ 4 _ _ (by rfl) (by first | exact Or.inl rfl | exact Or.inr (Or.inl rfl) | exact Or.inr (Or.inr rfl)) (by decide) (by decide)) pe_int (nomark _)) (@pw_and1 _ _ _ _ (@pt_cmpR _ _ _ _ _ _ _ _ op_eq (@pe_cal _ _ _ _ _ _ _ _ _ _ c__law_take (hr.mono (by decide)) (by rfl) (@pa_cons _ _ _ _ _ (@pv _ 0 _ _ (by rfl) (by first | exact Or.inl rfl | exact Or.inr (Or.inl rfl) | exact Or.inr (Or.inr rfl)) (by decide) (by decide)) (@pa_cons _ _ _ _ _ pe_int pa_nil (by rfl)) (by rfl)) (by decide) (by rfl) (by rfl)) pe_int (nomark _))))) (@pss_cons _ _ _ _ _ (@ps_set _ _ (4) _ _ _ _ sc_law_any_form.nd rfl (Or.inl rfl) pe_int (by rfl) (by first | exact .inl rfl | exact .inr rfl)) (@pss_one _ _ _ (@ps_expr _ _ _ _ (@pe_bm _ _ _ _ _ _ _ _ _ _ _ _ PySem.F.plainAttrs_list PySem.F.slot_list_append PySem.F.type_list_append mt_append (@pv _ 1 _ _ (by rfl) (by first | exact Or.inl rfl | exact Or.inr (Or.inl rfl) | exact Or.inr (Or.inr rfl)) (by decide) (by decide)) (@pa_cons _ _ _ _ _ (@pe_tup _ _ _ _ _ (@pa_cons _ _ _ _ _ pe_str (@pa_cons _ _ _ _ _ (@pe_cal _ _ _ _ _ _ _ _ _ _ c__law_letter (hr.mono (by decide)) (by rfl) (@pa_cons _ _ _ _ _ (@pv _ 0 _ _ (by rfl) (by first | exact Or.inl rfl | exact Or.inr (Or.inl rfl) | exact Or.inr (Or.inr rfl)) (by decide) (by decide)) (@pa_cons _ _ _ _ _ pe_int pa_nil (by rfl)) (by rfl)) (by decide) (by rfl) (by rfl)) pa_nil (by rfl)) (by rfl))) pa_nil (by rfl)) (by rfl) (by rfl) (by rfl) (by rfl) (by rfl)) (by rfl)))) (@pss_one _ _ _ (@ps_if _ _ _ _ _ _ _ _ (@pt_cmpR _ _ _ _ _ _ _ _ op_gt (@pv _ 4 _ _ (by rfl) (by first | exact Or.inl rfl | exact Or.inr (Or.inl rfl) | exact Or.inr (Or.inr rfl)) (by decide) (by decide)) pe_int (nomark _)) (@pss_one _ _ _ (@ps_expr _ _ _ _ (@pe_bm _ _ _ _ _ _ _ _ _ _ _ _ PySem.F.plainAttrs_list PySem.F.slot_list_append PySem.F.type_list_append mt_append (@pv _ 1 _ _ (by rfl) (by first | exact Or.inl rfl | exact Or.inr (Or.inl rfl) | exact Or.inr (Or.inr rfl)) (by decide) (by decide)) (@pa_cons _ _ _ _ _ (@pe_tup _ _ _ _ _ (@pa_cons _ _ _ _ _ pe_str (@pa_cons _ _ _ _ _ pe_int (@pa_cons _ _ _ _ _ (@pv _ 4 _ _ (by rfl) (by first | exact Or.inl rfl | exact Or.inr (Or.inl rfl) | exact Or.inr (Or.inr rfl)) (by decide) (by decide)) pa_nil (by rfl)) (by rfl)) (by rfl))) pa_nil (by rfl)) (by rfl) (by rfl) (by rfl) (by rfl) (by rfl)) (by rfl))) pss_nil))) (@pss_one _ _ _ (@ps_set _ _ (2) _ _ _ _ sc_law_any_form.nd rfl (Or.inl rfl) (@pe_op _ _ _ _ _ _ _ _ op_add (@pv _ 2 _ _ (by rfl) (by first | exact Or.inl rfl | exact Or.inr (Or.inl rfl) | exact Or.inr (Or.inr rfl)) (by decide) (by decide)) (@pv _ 4 _ _ (by rfl) (by first | exact Or.inl rfl | exact Or.inr (Or.inl rfl) | exact Or.inr (Or.inr rfl)) (by decide) (by decide))) (by rfl) (by first | exact .inl rfl | exact .inr rfl))))) (by intro _; rfl)) (@pss_cons _ _ _ _ _ (@ps_set _ _ (5) _ _ _ _ sc_law_any_form.nd rfl (Or.inl rfl) (@pe_lst _ _ _ _ pa_nil) (by rfl) (by first | exact .inl rfl | exact .inr rfl)) (@pss_cons _ _ _ _ _ (@ps_for _ _ _ _ _ _ _ _ PassesOwn.never rfl (@pi_list _ _ _ _ (@pv _ 1 _ _ (by rfl) (by first | exact Or.inl rfl | exact Or.inr (Or.inl rfl) | exact Or.inr (Or.inr rfl)) (by decide) (by decide))) (@pg_name _ _ (6) _ sc_law_any_form.nd rfl (Or.inl rfl) (by first | exact .inl rfl | exact .inr rfl)) (@pss_cons _ _ _ _ _ (@ps_if _ _ _ _ _ _ _ _ (@pt_cmpR _ _ _ _ _ _ _ _ op_eq (@pe_ix _ _ _ _ _ _ _ ix_tup (@pv _ 6 _ _ (by rfl) (by first | exact Or.inl rfl | exact Or.inr (Or.inl rfl) | exact Or.inr (Or.inr rfl)) (by decide) (by decide)) pe_int (fun _ _ => rfl)) pe_str (nomark _)) (@pss_one _ _ _ (@ps_set _ _ (6) _ _ _ _ sc_law_any_form.nd rfl (Or.inl rfl) (@pe_tup _ _ _ _ _ (@pa_cons _ _ _ _ _ pe_str (@pa_cons _ _ _ _ _ (@pe_cal _ _ _ _ _ _ _ _ _ _ c__law_take (hr.mono (by decide)) (by rfl) (@pa_cons _ _ _ _ _ (@pv _ 0 _ _ (by rfl) (by first | exact Or.inl rfl | exact Or.inr (Or.inl rfl) | exact Or.inr (Or.inr rfl)) (by decide) (by decide)) (@pa_cons _ _ _ _ _ (@pe_op _ _ _ _ _ _ _ _ op_add (@pe_op _ _ _ _ _ _ _ _ op_sub (@pv _ 2 _ _ (by rfl) (by first | exact Or.inl rfl | exact Or.inr (Or.inl rfl) | exact Or.inr (Or.inr rfl)) (by decide) (by decide)) (@pe_ix _ _ _ _ _ _ _ ix_tup (@pv _ 6 _ _ (by rfl) (by first | exact Or.inl rfl | exact Or.inr (Or.inl rfl) | exact Or.inr (Or.inr rfl)) (by decide) (by decide)) pe_int (fun _ _ => rfl))) pe_int) pa_nil (by rfl)) (by rfl)) (by decide) (by rfl) (by rfl)) (@pa_cons _ _ _ _ _ (@pe_ix _ _ _ _ _ _ _ ix_tup (@pv _ 6 _ _ (by rfl) (by first | exact Or.inl rfl | exact Or.inr (Or.inl rfl) | exact Or.inr (Or.inr rfl)) (by decide) (by decide)) pe_int (fun _ _ => rfl)) pa_nil (by rfl)) (by rfl)) (by rfl))) (by rfl) (by first | exact .inl rfl | exact .inr rfl))) pss_nil) (@pss_one _ _ _ (@ps_expr _ _ _ _ (@pe_bm _ _ _ _ _ _ _ _ _ _ _ _ PySem.F.plainAttrs_list PySem.F.slot_list_append PySem.F.type_list_append mt_append (@pv _ 5 _ _ (by rfl) (by first | exact Or.inl rfl | exact Or.inr (Or.inl rfl) | exact Or.inr (Or.inr rfl)) (by decide) (by decide)) (@pa_cons _ _ _ _ _ (@pv _ 6 _ _ (by rfl) (by first | exact Or.inl rfl | exact Or.inr (Or.inl rfl) | exact Or.inr (Or.inr rfl)) (by decide) (by decide)) pa_nil (by rfl)) (by rfl) (by rfl) (by rfl) (by rfl) (by rfl)) (by rfl)))) (by intro _; rfl)) (@pss_one _ _ _ (@ps_ret _ _ _ _ (@pe_callTy _ _ _ _ _ _ _ _ _ call_tuple_of (by rfl) T.n_tuple (by decide +kernel) (@pa_cons _ _ _ _ _ (@pv _ 5 _ _ (by rfl) (by first | exact Or.inl rfl | exact Or.inr (Or.inl rfl) | exact Or.inr (Or.inr rfl)) (by decide) (by decide)) pa_nil (by rfl)) (by decide) (by decide) (by rfl) (by rfl))))))))), ?_⟩
  refine ⟨by rw [hS]; show 0 ≤ 16777216; decide, fun L hL => ?_⟩
  have sL := Same.upd_new (o := .lst ([] : List V)) hL
  have eL : (upd H L (.lst [])) L = some (.lst ([] : List V)) := upd_same
  have pn1 := pn.same sL
  have nL := (pn.ne hL).1
  generalize upd H L (.lst ([] : List V)) = H1 at sL eL pn1
  try dsimp only
  refine ⟨_, rfl, p, q, 9, rfl, by decide, by decide, pn1, fun kk H2 k0 k9 pn2 o2 => ?_⟩
  refine ⟨_, rfl, by omega, by omega, ?_⟩
  refine for_range (lo := 0) (n := kk.toNat) (fun i σ H' => ∃ (us : List V) (ps : List Prt) (v3 v4 v5 v6 : Option V), σ = [some (.ref p), some (.ref L), some (.int ((sumL ps : Nat) : Int)), v3, v4, v5, v6] ∧ Off p H H' ∧ Pen H' p q ∧ H' L = some (.lst us) ∧ Prts H' us ps ∧ (∀ x ∈ ps, G0 x) ∧ sumL ps ≤ 300 ∧ ps.length ≤ i) ⟨[], [], _, _, _, _, rfl, sL.off.trans o2, pn2, o2 _ _ eL nL, .nil, fun x hx => (by cases hx), Nat.zero_le _, Nat.zero_le _⟩ ?_ ?_
  · rintro i _ H3 hi ⟨us, ps, v3, v4, v5, v6, rfl, o3, pn3, eL3, pr3, hg, hs, hlen⟩
    have hLH : H L = none := hL
    refine ⟨_, rfl, _, _, rfl, rfl, _, rfl, by rw [hS]; show 3 ≤ 16777216; decide, fun W hW => ?_⟩
    have sW := Same.upd_new (o := .lst [V.int 3, V.int 12, V.int 90]) hW
    have eW : (upd H3 W (.lst [V.int 3, V.int 12, V.int 90])) W = some (.lst [V.int 3, V.int 12, V.int 90]) := upd_same
    have nW := (pn3.ne hW).1
    refine ⟨_, rfl, p, q, 3, rfl, by decide, by decide, pn3.same sW, fun g H4 g0 g1 pn4 o4 => ?_⟩
    obtain ⟨mm, hmm, mm0, mm1⟩ : ∃ mm : Int, atI [V.int 3, V.int 12, V.int 90] g = some (V.int mm) ∧ 0 < mm ∧ mm ≤ 90 := by
      rcases (by omega : g = 0 ∨ g = 1 ∨ g = 2) with e | e | e <;> (subst e; exact ⟨_, rfl, by decide, by decide⟩)
    refine ⟨W, _, g, _, rfl, rfl, SqL.of (o4 _ _ eW nW), hmm, p, q, mm, rfl, mm0, by omega, pn4, fun z H5 z0 z1 pn5 o5 => ?_⟩
    refine ⟨_, _, rfl, rfl, _, _, rfl, ?_⟩
    obtain ⟨mn, hmn, hm0, hm1⟩ : ∃ mn : Nat, (if (1 + z : Int) < 300 - ((sumL ps : Nat) : Int) then (1 + z : Int) else 300 - ((sumL ps : Nat) : Int)) = (mn : Int) ∧ sumL ps + mn ≤ 300 ∧ mn ≤ 300 := by
      split
      · exact ⟨(1 + z).toNat, by omega, by omega, by omega⟩
      · exact ⟨300 - sumL ps, by omega, by omega, by omega⟩
    rw [hmn]
    have o35 : Off p H3 H5 := (sW.off.trans o4).trans o5
    have o05 : Off p H H5 := o3.trans o35
    have eL5 := o35 _ _ eL3 nL
    have prs5 : ∀ {Ha Hb : Hp}, Pen Ha p q → Off p Ha Hb → Prts Ha us ps → Prts Hb us ps := fun {Ha Hb} pna oab pra => pra.kept fun r ob e ⟨xs, ex⟩ => oab r ob e (fun er => by
      obtain ⟨ns, z, n, hp, _⟩ := pna.ex
      rw [er, hp, ex] at e
      cases e)
    have pr5 := prs5 pn3 o35 pr3
    have hul := pr5.len
    try dsimp only
    refine seq_after (fun σ' H' => ∃ (us : List V) (ps' : List Prt) (mn : Nat) (v3 v5 v6 : Option V), σ' = [some (.ref p), some (.ref L), some (.int ((sumL ps : Nat) : Int)), v3, some (.int (mn : Int)), v5, v6] ∧ Off p H H' ∧ Pen H' p q ∧ H' L = some (.lst us) ∧ Prts H' us ps' ∧ (∀ x ∈ ps', G0 x) ∧ sumL ps' = sumL ps + mn ∧ sumL ps' ≤ 300 ∧ ps'.length ≤ i + 1) ?_ (fun cont => ?_)
    · rintro _ H6 ⟨us', ps', mn, v3, v5, v6, rfl, o6, pn6, eL6, pr6, hg6, hsm, hs6, hl6⟩
      refine ⟨_, rfl, _, rfl, _, _, rfl, rfl, us', ps', v3, some (.int (mn : Int)), v5, v6, ?_, o6, pn6, eL6, pr6, hg6, hs6, hl6⟩
      have e : ((sumL ps : Nat) : Int) + (mn : Int) = ((sumL ps' : Nat) : Int) := by omega
      show [some (V.ref p), some (V.ref L), some (V.int (((sumL ps : Nat) : Int) + (mn : Int))), v3, some (V.int (mn : Int)), v5, v6] = _
      rw [e]
    · have app : ∀ (t : Addr) (H6 : Hp) (x : Prt), Off p H5 H6 → Pen H6 p q → H6 L = some (.lst us) → Prts H6 us ps → H6 t = none → G0 x → ∀ H7, H7 = upd (upd H6 t (.tup (pV x))) L (.lst (us ++ [.ref t])) → Off p H H7 ∧ Pen H7 p q ∧ H7 L = some (.lst (us ++ [.ref t])) ∧ Prts H7 (us ++ [.ref t]) (ps ++ [x]) ∧ (∀ y ∈ ps ++ [x], G0 y) := fun t H6 x o6 pn6 e6 p6 ht gx H7 e => by
        subst e
        have nLt : L ≠ t := ne_of_none e6 ht
        have hLq : L ≠ q := by
          intro e
          exact (pn.ne hL).2 e
        refine ⟨fun b ob hb nb => ?_, (pn6.upd_new ht).upd_ne nL hLq, upd_same, ?_, fun y hy => ?_⟩
        · rw [upd_ne (ne_of_none hb hLH), upd_ne (ne_of_none (o6 _ _ (o05 _ _ hb nb) nb) ht)]
          exact o6 _ _ (o05 _ _ hb nb) nb
        · refine Prts.snoc (p6.kept fun r ob e ⟨xs, ex⟩ => ?_) ?_
          · have nr : r ≠ L := fun er => by rw [er, e6] at e; rw [ex] at e; cases e
            rw [upd_ne nr, upd_ne (ne_of_none e ht)]
            exact e
          · rw [upd_ne (Ne.symm nLt), upd_same]
        · rcases List.mem_append.mp hy with hy | hy
          · exact hg y hy
          · rw [List.mem_singleton.mp hy]
            exact gx
      have big : (us.length : Nat) ≤ 100 := by
        have : i < kk.toNat := hi
        omega
      refine ⟨_, rfl, _, _, rfl, rfl, _, rfl, ?_⟩
      refine ite2 (fun hpos => ?_) (fun hneg => ?_)
      · have hpos : 0 < mn := by have := of_decide_eq_true hpos; omega
        refine ⟨_, rfl, p, q, 2, rfl, by decide, by decide, pn5, fun y H6 y0 y1 pn6 o6 => ⟨rfl, _, rfl, ?_⟩⟩
        have e6 := o6 _ _ eL5 nL
        have p6 := prs5 pn5 o6 pr5
        refine ite2 (fun _ => ?_) (fun _ => ?_)
        · refine ⟨_, rfl, .inl ⟨rfl, _, SqL.of e6⟩, _, rfl, p, q, 26, rfl, by decide, by decide, pn6, fun c H7 c1 c2 pn7 o7 => ?_⟩
          refine ⟨by rw [hS]; show 2 ≤ 16777216; decide, fun t ht => ?_⟩
          have e7 := o7 _ _ e6 nL
          have nLt : L ≠ t := ne_of_none e7 ht
          refine ⟨L, _, _, rfl, rfl, by rw [upd_ne nLt]; exact e7, by rw [hS]; omega, ?_⟩
          obtain ⟨f1, f2, f3, f4, f5⟩ := app t H7 (.inl c) (o6.trans o7) pn7 e7 (prs5 pn6 o7 p6) ht (isl_of c1 c2) _ rfl
          refine cont _ _ ⟨us ++ [V.ref t], ps ++ [(Sum.inl c : Prt)], 1, _, _, _, rfl, f1, f2, f3, f4, f5, ?_, ?_, ?_⟩
          · rw [sumL_app]; rfl
          · rw [sumL_app]; show sumL ps + 1 ≤ 300; omega
          · rw [List.length_append]; show _ + 1 ≤ _; omega
        · refine ⟨_, rfl, _, _, rfl, rfl, _, rfl, ?_⟩
          refine ite2 (fun _ => ?_) (fun h => absurd (decide_eq_true (by omega)) h)
          refine ⟨_, rfl, .inl ⟨rfl, _, SqL.of e6⟩, _, rfl, by rw [hS]; show 3 ≤ 16777216; decide, fun t ht => ?_⟩
          have nLt : L ≠ t := ne_of_none e6 ht
          refine ⟨L, _, _, rfl, rfl, by rw [upd_ne nLt]; exact e6, by rw [hS]; omega, ?_⟩
          obtain ⟨f1, f2, f3, f4, f5⟩ := app t H6 (.inr (0, mn)) o6 pn6 e6 p6 ht ⟨rfl, hpos, hm1⟩ _ rfl
          refine cont _ _ ⟨us ++ [V.ref t], ps ++ [(Sum.inr (0, mn) : Prt)], mn, _, _, _, rfl, f1, f2, f3, f4, f5, ?_, ?_, ?_⟩
          · rw [sumL_app]; rfl
          · rw [sumL_app]; show sumL ps + mn ≤ 300; omega
          · rw [List.length_append]; show _ + 1 ≤ _; omega
      · have hneg : mn = 0 := by
          have : ¬ (0 : Int) < (mn : Int) := fun q => hneg (decide_eq_true q)
          omega
        subst hneg
        refine ⟨_, rfl, _, _, rfl, rfl, _, rfl, ?_⟩
        refine ite2 (fun h => absurd (of_decide_eq_true h) (by omega)) (fun _ => ?_)
        try unfold tNext
        try dsimp only
        exact cont _ _ ⟨us, ps, 0, _, _, _, rfl, o05, pn5, eL5, pr5, hg, rfl, hs, by omega⟩
  · rintro _ H3 ⟨us, ps, v3, v4, v5, v6, rfl, o3, pn3, eL3, pr3, hg, hs, hlen⟩
    refine ⟨by rw [hS]; show 0 ≤ 16777216; decide, fun F5 hF5 => ?_⟩
    have sF := Same.upd_new (o := .lst ([] : List V)) hF5
    have eF : (upd H3 F5 (.lst [])) F5 = some (.lst ([] : List V)) := upd_same
    have nF := (pn3.ne hF5).1
    have nFq := (pn3.ne hF5).2
    have pn4 := pn3.same sF
    generalize upd H3 F5 (.lst ([] : List V)) = H4 at sF eF pn4
    have eL4 := sF _ _ eL3
    have pr4 := pr3.kept fun r o e _ => sF _ _ e
    have nFL : L ≠ F5 := ne_of_none eL3 hF5
    have o4 : Off p H H4 := o3.trans sF.off
    have hul := pr4.len
    have hF : H F5 = none := by
      cases hH : H F5 with
      | none => rfl
      | some o =>
        have := o3 _ _ hH nF
        rw [hF5] at this
        cases this
    have hlen9 : ps.length ≤ 9 := by omega
    try dsimp only
    refine ⟨_, rfl, L, rfl, ⟨_, SqL.of eL4⟩, ?_⟩
    refine for_list (K := K) (a := L) (xs := us) (fun j σ H' => ∃ (us2 : List V) (ps2 : List Prt) (v6 : Option V), σ = [some (.ref p), some (.ref L), some (.int ((sumL ps : Nat) : Int)), v3, v4, some (.ref F5), v6] ∧ Off p H H' ∧ True ∧ Pen H' p q ∧ H' L = some (.lst us) ∧ Prts H' us ps ∧ H' F5 = some (.lst us2) ∧ Prts H' us2 ps2 ∧ (∀ x ∈ ps2, PB x ∧ rch x ≤ sumL ps) ∧ ps2.map pLen = (ps.take j).map pLen) ⟨[], [], _, rfl, o4, trivial, pn4, eL4, pr4, eF, .nil, fun x hx => (by cases hx), rfl⟩ (fun j σ H' _ h => by
      obtain ⟨_, _, _, _, _, _, _, h, _⟩ := h
      exact SqL.of h) ?_ ?_
    · rintro j v _ H5 hj ⟨us2, ps2, v6, rfl, o5, _, pn5, eL5, pr5, eF5, pr25, hg2, hm2⟩
      obtain ⟨r, x, rfl, hx, hr⟩ := Prts.at' pr5 hj
      have hjl := (List.getElem?_eq_some_iff.mp hx).1
      have hxm := List.mem_of_getElem? hx
      have hxs : pLen x ≤ sumL ps := by
        have e1 := sumL_take ps (j + 1)
        rw [List.take_succ, hx] at e1
        have e2 := sumL_app (ps.take j) [x]
        have e3 : sumL [x] = pLen x := by show pLen x + 0 = _; omega
        have e4 : sumL (ps.take j ++ (some x).toList) = sumL (ps.take j ++ [x]) := rfl
        omega
      have l2 : ps2.length = j := by
        have := congrArg List.length hm2
        rw [List.length_map, List.length_map, List.length_take] at this
        omega
      have hul2 := pr25.len
      have keepP : ∀ {Ha Hb : Hp} {us : List V} {ps : List Prt}, Pen Ha p q → Off p Ha Hb → Prts Ha us ps → Prts Hb us ps := fun {Ha Hb us ps} pna oab pra => pra.kept fun r ob e ⟨xs, ex⟩ => oab r ob e (fun er => by
        obtain ⟨ns, z, n, hp, _⟩ := pna.ex
        rw [er, hp, ex] at e
        cases e)
      try dsimp only
      refine seq_after (fun σ' H' => ∃ (t : Addr) (x' : Prt), σ' = [some (.ref p), some (.ref L), some (.int ((sumL ps : Nat) : Int)), v3, v4, some (.ref F5), some (.ref t)] ∧ H' t = some (.tup (pV x')) ∧ PB x' ∧ rch x' ≤ sumL ps ∧ pLen x' = pLen x ∧ Off p H H' ∧ Pen H' p q ∧ H' L = some (.lst us) ∧ Prts H' us ps ∧ H' F5 = some (.lst us2) ∧ Prts H' us2 ps2) ?_ (fun cont => ?_)
      · rintro _ H6 ⟨t, x', rfl, et, hb, hrx, hlx, o6, pn6, eL6, pr6, eF6, pr26⟩
        refine ⟨_, rfl, .inl ⟨rfl, _, SqL.of eF6⟩, _, rfl, F5, _, _, rfl, rfl, eF6, by rw [hS]; omega, ?_⟩
        have nt : ∀ {a : Addr} {o : HO}, H6 a = some o → (∃ xs, o = .tup xs) → a ≠ F5 := fun {a o} e ⟨xs, ex⟩ er => by rw [er, eF6] at e; rw [ex] at e; cases e
        refine ⟨us2 ++ [V.ref t], ps2 ++ [x'], _, rfl, fun b ob hb nb => ?_, trivial, pn6.upd_ne nF nFq, ?_, ?_, upd_same, ?_, fun y hy => ?_, ?_⟩
        · rw [upd_ne (ne_of_none hb hF)]
          exact o6 _ _ hb nb
        · rw [upd_ne nFL]
          exact eL6
        · exact pr6.kept fun r ob e ex => by rw [upd_ne (nt e ex)]; exact e
        · refine Prts.snoc (pr26.kept fun r ob e ex => by rw [upd_ne (nt e ex)]; exact e) ?_
          rw [upd_ne (nt et ⟨_, rfl⟩)]
          exact et
        · rcases List.mem_append.mp hy with hy | hy
          · exact hg2 y hy
          · rw [List.mem_singleton.mp hy]
            exact ⟨hb, hrx⟩
        · rw [List.take_succ, hx, List.map_append, List.map_append, hm2]
          show _ ++ [pLen x'] = _ ++ [pLen x]
          rw [hlx]
      · match x, hx, hr, hxm, hxs, cont with
        | .inl c, hx, hr, hxm, hxs, cont =>
          refine ⟨_, rfl, r, _, 0, _, rfl, rfl, SqT.of hr, rfl, rfl, _, rfl, ?_⟩
          refine ite2 (fun h => absurd h (by decide +kernel)) (fun _ => ?_)
          exact cont _ _ ⟨r, .inl c, rfl, hr, hg _ hxm, Nat.zero_le _, rfl, o5, pn5, eL5, pr5, eF5, pr25⟩
        | .inr (o, m), hx, hr, hxm, hxs, cont =>
          obtain ⟨g0, g1, g2⟩ := hg _ hxm
          have hxs : m ≤ sumL ps := hxs
          refine ⟨_, rfl, r, _, 0, _, rfl, rfl, SqT.of hr, rfl, rfl, _, rfl, ?_⟩
          refine ite2 (fun _ => ?_) (fun h => absurd (decide_eq_true rfl) h)
          refine ⟨_, rfl, _, rfl, _, rfl, r, _, 2, _, rfl, rfl, SqT.of hr, rfl, _, _, rfl, rfl, _, _, rfl, rfl, p, q, _, rfl, by omega, by omega, pn5, fun z H6 z0 z1 pn6 o6 => ?_⟩
          obtain ⟨z, rfl⟩ := Int.eq_ofNat_of_zero_le z0
          have hr6 : H6 r = some (.tup (pV (.inr (o, m)))) := Pen.tup pn5 hr o6
          refine ⟨_, rfl, r, _, 2, _, rfl, rfl, SqT.of hr6, rfl, by rw [hS]; show 3 ≤ 16777216; decide, fun t ht => ?_⟩
          have st := Same.upd_new (o := .tup [V.str (Str.ofString "copy"), V.int (z : Int), V.int (m : Int)]) ht
          refine cont _ _ ⟨t, .inr (z, m), rfl, upd_same, ⟨by omega, by omega, g1⟩, by show z + m ≤ _; omega, rfl, (o5.trans o6).trans st.off, pn6.same st, st _ _ (o6 _ _ eL5 nL), (keepP pn5 o6 pr5).kept fun r o e _ => st _ _ e, st _ _ (o6 _ _ eF5 nF), (keepP pn5 o6 pr25).kept fun r o e _ => st _ _ e⟩
    · rintro _ H5 ⟨us2, ps2, v6, rfl, o5, _, pn5, eL5, pr5, eF5, pr25, hg2, hm2⟩
      rw [hul, List.take_of_length_le (Nat.le_refl _)] at hm2
      have hsum : sumL ps2 = sumL ps := by unfold sumL; rw [hm2]
      have hl2 : ps2.length = ps.length := by
        have := congrArg List.length hm2
        rwa [List.length_map, List.length_map] at this
      refine ⟨_, rfl, F5, _, rfl, .inl ⟨SqL.of eF5, fun t ht => ?_⟩⟩
      have st := Same.upd_new (o := .tup us2) ht
      have htH : H t = none := by
        cases e : H t with
        | none => rfl
        | some ob =>
          by_cases et : t = p
          · exact absurd et (pn5.ne ht).1
          · rw [o5 t ob e et] at ht; cases ht
      refine k t us2 ps2 _ htH upd_same (pr25.kept fun r o e _ => st _ _ e) ⟨fun x hx => (hg2 x hx).1, by omega, fun x hx => by rw [hsum]; exact (hg2 x hx).2, by omega⟩ (pn5.same st) (o5.trans st.off)
end
end K55

set_option Elab.async false
set_option linter.all false
set_option maxRecDepth 100000
set_option maxHeartbeats 1000000
namespace K55
open PySem L2
def spSame2 : Sp := fun vs H Q E => spSame0 vs H Q E ∨ spSameP vs H Q E
section
variable {P : Program} {w : World} {K : PySem.W.Frag} {mg : Str → Option Value} {base : Heap}
theorem ok_same2 (F : FunN K mg "_law_same" s_law_same P_law_same) (T : Bu mg) (c__law_same : Cal P w K mg base 2 "_law_same" P_law_same spSameT) : Cal P w K mg base 3 "_law_same" P_law_same spSame2 := by
  refine cal_of F sc_law_same (fun vs H Q E h => ?_) (fun f cdv A outer s H vs Q E hr h => ?_)
  · rcases h with h | h
    · obtain ⟨i, rfl, _⟩ := h
      rfl
    · obtain ⟨a, b, _, _, _, rfl, _⟩ := h
      rfl
  rcases h with h | h
  · obtain ⟨x, rfl, hs, k⟩ := h
    refine ⟨_, (@pss_cons _ _ _ _ _ (@ps_if _ _ _ _ _ _ _ _ (@pt_cmpR _ _ _ _ _ _ _ _ op_isN (@pv _ 1 _ _ (by rfl) (by first | exact Or.inl rfl | exact Or.inr (Or.inl rfl) | exact Or.inr (Or.inr rfl)) (by decide) (by decide)) pe_non (nomark _)) (@pss_one _ _ _ (@ps_ret _ _ _ _ (@pe_cmpR _ _ _ _ _ _ _ _ op_isN (@pv _ 0 _ _ (by rfl) (by first | exact Or.inl rfl | exact Or.inr (Or.inl rfl) | exact Or.inr (Or.inr rfl)) (by decide) (by decide)) pe_non (nomark _)))) pss_nil) (@pss_cons _ _ _ _ _ (@ps_if _ _ _ _ _ _ _ _ (@pt_val _ _ _ (@pe_callB _ _ _ _ _ _ _ _ _ call_isi (by rfl) T.n_isinstance (by decide +kernel) (@pa_cons _ _ _ _ _ (@pv _ 1 _ _ (by rfl) (by first | exact Or.inl rfl | exact Or.inr (Or.inl rfl) | exact Or.inr (Or.inr rfl)) (by decide) (by decide)) (@pa_cons _ _ _ _ _ (@pe_bltn _ _ (V.ty "str") _ _ (by rfl) T.n_str (by decide +kernel) rfl (by decide) (by decide)) pa_nil (by rfl)) (by rfl)) (by decide) (by decide) (by rfl) (by rfl)) (by intro _; rfl)) (@pss_one _ _ _ (@ps_ret _ _ _ _ (@pe_and _ _ _ _ _ _ _ (@pe_callB _ _ _ _ _ _ _ _ _ call_isi (by rfl) T.n_isinstance (by decide +kernel) (@pa_cons _ _ _ _ _ (@pv _ 0 _ _ (by rfl) (by first | exact Or.inl rfl | exact Or.inr (Or.inl rfl) | exact Or.inr (Or.inr rfl)) (by decide) (by decide)) (@pa_cons _ _ _ _ _ (@pe_bltn _ _ (V.ty "str") _ _ (by rfl) T.n_str (by decide +kernel) rfl (by decide) (by decide)) pa_nil (by rfl)) (by rfl)) (by decide) (by decide) (by rfl) (by rfl)) (@pe_one _ _ _ _ _ (@pe_cmpR _ _ _ _ _ _ _ _ op_eq (@pv _ 0 _ _ (by rfl) (by first | exact Or.inl rfl | exact Or.inr (Or.inl rfl) | exact Or.inr (Or.inr rfl)) (by decide) (by decide)) (@pv _ 1 _ _ (by rfl) (by first | exact Or.inl rfl | exact Or.inr (Or.inl rfl) | exact Or.inr (Or.inr rfl)) (by decide) (by decide)) (nomark _)))))) pss_nil) (@pss_cons _ _ _ _ _ (@ps_if _ _ _ _ _ _ _ _ (@pt_val _ _ _ (@pe_callB _ _ _ _ _ _ _ _ _ call_isi (by rfl) T.n_isinstance (by decide +kernel) (@pa_cons _ _ _ _ _ (@pv _ 1 _ _ (by rfl) (by first | exact Or.inl rfl | exact Or.inr (Or.inl rfl) | exact Or.inr (Or.inr rfl)) (by decide) (by decide)) (@pa_cons _ _ _ _ _ (@pe_bltn _ _ (V.ty "int") _ _ (by rfl) T.n_int (by decide +kernel) rfl (by decide) (by decide)) pa_nil (by rfl)) (by rfl)) (by decide) (by decide) (by rfl) (by rfl)) (by intro _; rfl)) (@pss_one _ _ _ (@ps_ret _ _ _ _ (@pe_and _ _ _ _ _ _ _ (@pe_callB _ _ _ _ _ _ _ _ _ call_isi (by rfl) T.n_isinstance (by decide +kernel) (@pa_cons _ _ _ _ _ (@pv _ 0 _ _ (by rfl) (by first | exact Or.inl rfl | exact Or.inr (Or.inl rfl) | exact Or.inr (Or.inr rfl)) (by decide) (by decide)) (@pa_cons _ _ _ _ _ (@pe_bltn _ _ (V.ty "int") _ _ (by rfl) T.n_int (by decide +kernel) rfl (by decide) (by decide)) pa_nil (by rfl)) (by rfl)) (by decide) (by decide) (by rfl) (by rfl)) (@pe_and _ _ _ _ _ _ _ (@pe_cmpR _ _ _ _ _ _ _ _ op_eq (@pe_callB _ _ _ _ _ _ _ _ _ call_isi (by rfl) T.n_isinstance (by decide +kernel) (@pa_cons _ _ _ _ _ (@pv _ 0 _ _ (by rfl) (by first | exact Or.inl rfl | exact Or.inr (Or.inl rfl) | exact Or.inr (Or.inr rfl)) (by decide) (by decide)) (@pa_cons _ _ _ _ _ (@pe_bltn _ _ (V.ty "bool") _ _ (by rfl) T.n_bool (by decide +kernel) rfl (by decide) (by decide)) pa_nil (by rfl)) (by rfl)) (by decide) (by decide) (by rfl) (by rfl)) (@pe_callB _ _ _ _ _ _ _ _ _ call_isi (by rfl) T.n_isinstance (by decide +kernel) (@pa_cons _ _ _ _ _ (@pv _ 1 _ _ (by rfl) (by first | exact Or.inl rfl | exact Or.inr (Or.inl rfl) | exact Or.inr (Or.inr rfl)) (by decide) (by decide)) (@pa_cons _ _ _ _ _ (@pe_bltn _ _ (V.ty "bool") _ _ (by rfl) T.n_bool (by decide +kernel) rfl (by decide) (by decide)) pa_nil (by rfl)) (by rfl)) (by decide) (by decide) (by rfl) (by rfl)) (nomark _)) (@pe_one _ _ _ _ _ (@pe_cmpR _ _ _ _ _ _ _ _ op_eq (@pv _ 0 _ _ (by rfl) (by first | exact Or.inl rfl | exact Or.inr (Or.inl rfl) | exact Or.inr (Or.inr rfl)) (by decide) (by decide)) (@pv _ 1 _ _ (by rfl) (by first | exact Or.inl rfl | exact Or.inr (Or.inl rfl) | exact Or.inr (Or.inr rfl)) (by decide) (by decide)) (nomark _))))))) pss_nil) pss_never))), ?_⟩
    cases x with
    | int i =>
      refine ⟨_, rfl, rfl, _, rfl, ?_⟩
      refine ite2 (fun h1 => absurd (of_decide_eq_true h1) (by simp)) (fun _ => ?_)
      refine ⟨_, rfl, _, _, _, _, rfl, .int i, kit_int_str, _, rfl, ?_⟩
      refine ⟨_, rfl, _, _, _, _, rfl, .int i, kit_int_int, _, rfl, ?_⟩
      refine ⟨_, rfl, _, _, _, _, rfl, .int i, kit_int_int, _, rfl, ?_⟩
      refine ⟨_, rfl, _, _, _, _, rfl, .int i, kit_int_bool, _, rfl, _, _, _, _, rfl, .int i, kit_int_bool, rfl, _, rfl, ?_⟩
      refine ite2 (fun _ => ?_) (fun h1 => absurd (decide_eq_true rfl) h1)
      refine ⟨_, rfl, _, rfl, rfl, ?_⟩
      rw [decide_eq_true rfl]
      exact k
    | str z =>
      refine ⟨_, rfl, rfl, _, rfl, ?_⟩
      refine ite2 (fun h1 => absurd (of_decide_eq_true h1) (by simp)) (fun _ => ?_)
      refine ⟨_, rfl, _, _, _, _, rfl, .str z, kit_str_str, _, rfl, ?_⟩
      refine ⟨_, rfl, _, _, _, _, rfl, .str z, kit_str_str, _, rfl, ?_⟩
      refine ⟨_, rfl, _, rfl, rfl, ?_⟩
      rw [decide_eq_true rfl]
      exact k
    | _ => exact False.elim hs
  · obtain ⟨a, b, us, us2, ps, rfl, hn, ha, hb, pa, pb, k⟩ := h
    have hS : sizeLine = 16777216 := szl
    have l1 := pa.len
    have l2 := pb.len
    refine ⟨_, (@pss_cons _ _ _ _ _ (@ps_if _ _ _ _ _ _ _ _ (@pt_cmpR _ _ _ _ _ _ _ _ op_isN (@pv _ 1 _ _ (by rfl) (by first | exact Or.inl rfl | exact Or.inr (Or.inl rfl) | exact Or.inr (Or.inr rfl)) (by decide) (by decide)) pe_non (nomark _)) (@pss_one _ _ _ (@ps_ret _ _ _ _ (@pe_cmpR _ _ _ _ _ _ _ _ op_isN (@pv _ 0 _ _ (by rfl) (by first | exact Or.inl rfl | exact Or.inr (Or.inl rfl) | exact Or.inr (Or.inr rfl)) (by decide) (by decide)) pe_non (nomark _)))) pss_nil) (@pss_cons _ _ _ _ _ (@ps_if _ _ _ _ _ _ _ _ (@pt_val _ _ _ (@pe_callB _ _ _ _ _ _ _ _ _ call_isi (by rfl) T.n_isinstance (by decide +kernel) (@pa_cons _ _ _ _ _ (@pv _ 1 _ _ (by rfl) (by first | exact Or.inl rfl | exact Or.inr (Or.inl rfl) | exact Or.inr (Or.inr rfl)) (by decide) (by decide)) (@pa_cons _ _ _ _ _ (@pe_bltn _ _ (V.ty "str") _ _ (by rfl) T.n_str (by decide +kernel) rfl (by decide) (by decide)) pa_nil (by rfl)) (by rfl)) (by decide) (by decide) (by rfl) (by rfl)) (by intro _; rfl)) (@pss_one _ _ _ (@ps_ret _ _ _ _ (@pe_and _ _ _ _ _ _ _ (@pe_callB _ _ _ _ _ _ _ _ _ call_isi (by rfl) T.n_isinstance (by decide +kernel) (@pa_cons _ _ _ _ _ (@pv _ 0 _ _ (by rfl) (by first | exact Or.inl rfl | exact Or.inr (Or.inl rfl) | exact Or.inr (Or.inr rfl)) (by decide) (by decide)) (@pa_cons _ _ _ _ _ (@pe_bltn _ _ (V.ty "str") _ _ (by rfl) T.n_str (by decide +kernel) rfl (by decide) (by decide)) pa_nil (by rfl)) (by rfl)) (by decide) (by decide) (by rfl) (by rfl)) (@pe_one _ _ _ _ _ (@pe_cmpR _ _ _ _ _ _ _ _ op_eq (@pv _ 0 _ _ (by rfl) (by first | exact Or.inl rfl | exact Or.inr (Or.inl rfl) | exact Or.inr (Or.inr rfl)) (by decide) (by decide)) (@pv _ 1 _ _ (by rfl) (by first | exact Or.inl rfl | exact Or.inr (Or.inl rfl) | exact Or.inr (Or.inr rfl)) (by decide) (by decide)) (nomark _)))))) pss_nil) (@pss_cons _ _ _ _ _ (@ps_if _ _ _ _ _ _ _ _ (@pt_val _ _ _ (@pe_callB _ _ _ _ _ _ _ _ _ call_isi (by rfl) T.n_isinstance (by decide +kernel) (@pa_cons _ _ _ _ _ (@pv _ 1 _ _ (by rfl) (by first | exact Or.inl rfl | exact Or.inr (Or.inl rfl) | exact Or.inr (Or.inr rfl)) (by decide) (by decide)) (@pa_cons _ _ _ _ _ (@pe_bltn _ _ (V.ty "int") _ _ (by rfl) T.n_int (by decide +kernel) rfl (by decide) (by decide)) pa_nil (by rfl)) (by rfl)) (by decide) (by decide) (by rfl) (by rfl)) (by intro _; rfl)) (@pss_one _ _ _ (@ps_ret _ _ _ _ (@pe_and _ _ _ _ _ _ _ (@pe_callB _ _ _ _ _ _ _ _ _ call_isi (by rfl) T.n_isinstance (by decide +kernel) (@pa_cons _ _ _ _ _ (@pv _ 0 _ _ (by rfl) (by first | exact Or.inl rfl | exact Or.inr (Or.inl rfl) | exact Or.inr (Or.inr rfl)) (by decide) (by decide)) (@pa_cons _ _ _ _ _ (@pe_bltn _ _ (V.ty "int") _ _ (by rfl) T.n_int (by decide +kernel) rfl (by decide) (by decide)) pa_nil (by rfl)) (by rfl)) (by decide) (by decide) (by rfl) (by rfl)) (@pe_and _ _ _ _ _ _ _ (@pe_cmpR _ _ _ _ _ _ _ _ op_eq (@pe_callB _ _ _ _ _ _ _ _ _ call_isi (by rfl) T.n_isinstance (by decide +kernel) (@pa_cons _ _ _ _ _ (@pv _ 0 _ _ (by rfl) (by first | exact Or.inl rfl | exact Or.inr (Or.inl rfl) | exact Or.inr (Or.inr rfl)) (by decide) (by decide)) (@pa_cons _ _ _ _ _ (@pe_bltn _ _ (V.ty "bool") _ _ (by rfl) T.n_bool (by decide +kernel) rfl (by decide) (by decide)) pa_nil (by rfl)) (by rfl)) (by decide) (by decide) (by rfl) (by rfl)) (@pe_callB _ _ _ _ _ _ _ _ _ call_isi (by rfl) T.n_isinstance (by decide +kernel) (@pa_cons _ _ _ _ _ (@pv _ 1 _ _ (by rfl) (by first | exact Or.inl rfl | exact Or.inr (Or.inl rfl) | exact Or.inr (Or.inr rfl)) (by decide) (by decide)) (@pa_cons _ _ _ _ _ (@pe_bltn _ _ (V.ty "bool") _ _ (by rfl) T.n_bool (by decide +kernel) rfl (by decide) (by decide)) pa_nil (by rfl)) (by rfl)) (by decide) (by decide) (by rfl) (by rfl)) (nomark _)) (@pe_one _ _ _ _ _ (@pe_cmpR _ _ _ _ _ _ _ _ op_eq (@pv _ 0 _ _ (by rfl) (by first | exact Or.inl rfl | exact Or.inr (Or.inl rfl) | exact Or.inr (Or.inr rfl)) (by decide) (by decide)) (@pv _ 1 _ _ (by rfl) (by first | exact Or.inl rfl | exact Or.inr (Or.inl rfl) | exact Or.inr (Or.inr rfl)) (by decide) (by decide)) (nomark _))))))) pss_nil) (@pss_cons _ _ _ _ _ (@ps_if _ _ _ _ _ _ _ _ (@pt_cmpR _ _ _ _ _ _ _ _ op_ne (@pe_callB _ _ _ _ _ _ _ _ _ call_isi (by rfl) T.n_isinstance (by decide +kernel) (@pa_cons _ _ _ _ _ (@pv _ 1 _ _ (by rfl) (by first | exact Or.inl rfl | exact Or.inr (Or.inl rfl) | exact Or.inr (Or.inr rfl)) (by decide) (by decide)) (@pa_cons _ _ _ _ _ (@pe_bltn _ _ (V.ty "tuple") _ _ (by rfl) T.n_tuple (by decide +kernel) rfl (by decide) (by decide)) pa_nil (by rfl)) (by rfl)) (by decide) (by decide) (by rfl) (by rfl)) (@pe_callB _ _ _ _ _ _ _ _ _ call_isi (by rfl) T.n_isinstance (by decide +kernel) (@pa_cons _ _ _ _ _ (@pv _ 0 _ _ (by rfl) (by first | exact Or.inl rfl | exact Or.inr (Or.inl rfl) | exact Or.inr (Or.inr rfl)) (by decide) (by decide)) (@pa_cons _ _ _ _ _ (@pe_bltn _ _ (V.ty "tuple") _ _ (by rfl) T.n_tuple (by decide +kernel) rfl (by decide) (by decide)) pa_nil (by rfl)) (by rfl)) (by decide) (by decide) (by rfl) (by rfl)) (nomark _)) (@pss_one _ _ _ (@ps_ret _ _ _ _ pe_bl)) pss_nil) (@pss_cons _ _ _ _ _ (@ps_if _ _ _ _ _ _ _ _ (@pt_cmpR _ _ _ _ _ _ _ _ op_ne (@pe_callB _ _ _ _ _ _ _ _ _ call_isi (by rfl) T.n_isinstance (by decide +kernel) (@pa_cons _ _ _ _ _ (@pv _ 1 _ _ (by rfl) (by first | exact Or.inl rfl | exact Or.inr (Or.inl rfl) | exact Or.inr (Or.inr rfl)) (by decide) (by decide)) (@pa_cons _ _ _ _ _ (@pe_bltn _ _ (V.ty "list") _ _ (by rfl) T.n_list (by decide +kernel) rfl (by decide) (by decide)) pa_nil (by rfl)) (by rfl)) (by decide) (by decide) (by rfl) (by rfl)) (@pe_callB _ _ _ _ _ _ _ _ _ call_isi (by rfl) T.n_isinstance (by decide +kernel) (@pa_cons _ _ _ _ _ (@pv _ 0 _ _ (by rfl) (by first | exact Or.inl rfl | exact Or.inr (Or.inl rfl) | exact Or.inr (Or.inr rfl)) (by decide) (by decide)) (@pa_cons _ _ _ _ _ (@pe_bltn _ _ (V.ty "list") _ _ (by rfl) T.n_list (by decide +kernel) rfl (by decide) (by decide)) pa_nil (by rfl)) (by rfl)) (by decide) (by decide) (by rfl) (by rfl)) (nomark _)) (@pss_one _ _ _ (@ps_ret _ _ _ _ pe_bl)) pss_nil) (@pss_cons _ _ _ _ _ (@ps_if _ _ _ _ _ _ _ _ (@pt_cmpR _ _ _ _ _ _ _ _ op_ne (@pe_callB _ _ _ _ _ _ _ _ _ call_len_seq (by rfl) T.n_len (by decide +kernel) (@pa_cons _ _ _ _ _ (@pv _ 0 _ _ (by rfl) (by first | exact Or.inl rfl | exact Or.inr (Or.inl rfl) | exact Or.inr (Or.inr rfl)) (by decide) (by decide)) pa_nil (by rfl)) (by decide) (by decide) (by rfl) (by rfl)) (@pe_callB _ _ _ _ _ _ _ _ _ call_len_seq (by rfl) T.n_len (by decide +kernel) (@pa_cons _ _ _ _ _ (@pv _ 1 _ _ (by rfl) (by first | exact Or.inl rfl | exact Or.inr (Or.inl rfl) | exact Or.inr (Or.inr rfl)) (by decide) (by decide)) pa_nil (by rfl)) (by decide) (by decide) (by rfl) (by rfl)) (nomark _)) (@pss_one _ _ _ (@ps_ret _ _ _ _ pe_bl)) pss_nil) (@pss_one _ _ _ (@ps_ret _ _ _ _ (@pe_cmpR _ _ _ _ _ _ _ _ op_notIn_seq pe_bl (@pe_lc _ _ _ _ _ _ ([("one", 2), ("other", 3)]) _ _ _ _ _ (by rfl) sc_law_same.nd (@pi_zipS true true _ _ _ _ _ _ _ _ _ (by rfl) T.n_zip (@pa_cons _ _ _ _ _ (@pv _ 0 _ _ (by rfl) (by first | exact Or.inl rfl | exact Or.inr (Or.inl rfl) | exact Or.inr (Or.inr rfl)) (by decide) (by decide)) (@pa_cons _ _ _ _ _ (@pv _ 1 _ _ (by rfl) (by first | exact Or.inl rfl | exact Or.inr (Or.inl rfl) | exact Or.inr (Or.inr rfl)) (by decide) (by decide)) pa_nil (by rfl)) (by rfl)) (by rfl) (by rfl)) (@blkOk_by (N_law_same) (defScope s_law_same) _ ([("one", 2), ("other", 3)]) (by decide +kernel)) (fun _ _ _ _ _ => (show PG _ _ (gTup K _ _) from (@pg_tup _ _ _ _ _ (2) (by rfl) (@pgs_cons _ _ _ _ _ (@pg_name _ _ (2) _ sc_law_same.nd rfl (Or.inl rfl) (by first | exact .inl rfl | exact .inr rfl)) (@pgs_cons _ _ _ _ _ (@pg_name _ _ (3) _ sc_law_same.nd rfl (Or.inl rfl) (by first | exact .inl rfl | exact .inr rfl)) pgs_nil (by rfl)) (by rfl)) (by rfl) (by rfl)))) (fun _ _ _ _ _ => pts_nil) (fun _ _ _ _ _ => (@pe_cal _ _ _ _ _ _ _ _ _ _ c__law_same (hr.mono (by decide)) (by rfl) (@pa_cons _ _ _ _ _ (@pv _ 2 _ _ (by rfl) (by first | exact Or.inl rfl | exact Or.inr (Or.inl rfl) | exact Or.inr (Or.inr rfl)) (by decide) (by decide)) (@pa_cons _ _ _ _ _ (@pv _ 3 _ _ (by rfl) (by first | exact Or.inl rfl | exact Or.inr (Or.inl rfl) | exact Or.inr (Or.inr rfl)) (by decide) (by decide)) pa_nil (by rfl)) (by rfl)) (by decide) (by rfl) (by rfl))) (by intro _; rfl)) (by with_unfolding_all rfl)))))))))), ?_⟩
    refine ⟨_, rfl, rfl, _, rfl, ?_⟩
    refine ite2 (fun h1 => absurd (of_decide_eq_true h1) (by simp)) (fun _ => ?_)
    refine ⟨_, rfl, _, _, _, _, rfl, .tup hb, kit_tuple_str, _, rfl, ?_⟩
    refine ⟨_, rfl, _, _, _, _, rfl, .tup hb, kit_tuple_int, _, rfl, ?_⟩
    refine ⟨_, rfl, _, _, _, _, rfl, .tup hb, kit_tuple_tuple, _, rfl, _, _, _, _, rfl, .tup ha, kit_tuple_tuple, rfl, _, rfl, ?_⟩
    refine iteNS rfl ?_
    refine ⟨_, rfl, _, _, _, _, rfl, .tup hb, kit_tuple_list, _, rfl, _, _, _, _, rfl, .tup ha, kit_tuple_list, rfl, _, rfl, ?_⟩
    refine iteNS rfl ?_
    refine ⟨_, rfl, a, _, rfl, .inr (SqT.of ha), _, rfl, b, _, rfl, .inr (SqT.of hb), rfl, _, rfl, ?_⟩
    rw [l1, l2]
    refine ite2 (fun h1 => by simp at h1) (fun _ => ?_)
    refine ⟨_, rfl, _, rfl, a, b, _, _, rfl, SqT.of ha, SqT.of hb, fun D hD => ?_⟩
    refine ⟨fun i m H' => m = ps.length - i ∧ i ≤ ps.length ∧ Same H H' ∧ H' D = some (.lst ((List.replicate i true).map V.bl)), ⟨_, rfl, Nat.zero_le _, Same.upd_new hD, upd_same⟩, ?_⟩
    rintro i m H1 ⟨rfl, hi, sm, hD1⟩
    have ha1 := sm _ _ ha
    have hb1 := sm _ _ hb
    by_cases hlt : i < ps.length
    · obtain ⟨v1, hv1⟩ : ∃ v, us[i]? = some v := ⟨_, List.getElem?_eq_getElem (by omega)⟩
      obtain ⟨v2, hv2⟩ : ∃ v, us2[i]? = some v := ⟨_, List.getElem?_eq_getElem (by omega)⟩
      obtain ⟨ra, p, ea, hp, hra⟩ := Prts.at' pa hv1
      obtain ⟨rb, p2, eb, hp2, hrb⟩ := Prts.at' pb hv2
      have epp : p2 = p := Option.some.inj (hp2.symm.trans hp)
      subst epp ea eb
      refine .inr ⟨⟨_, _, _, _, SqT.of ha1, SqT.of hb1, hv1, hv2⟩, fun H' => Same H H' ∧ H' D = some (.lst ((List.replicate (i + 1) true).map V.bl)), fun H' ⟨s', d'⟩ => ⟨_, by omega, rfl, hlt, s', d'⟩, ?_⟩
      rintro v _ ⟨U, x, y, rfl, hU, rfl, fx, fy⟩
      have ex : x = .ref ra := by
        have := fx _ (SqT.of ha1)
        rw [hv1] at this
        exact (Option.some.inj this).symm
      have ey : y = .ref rb := by
        have := fy _ (SqT.of hb1)
        rw [hv2] at this
        exact (Option.some.inj this).symm
      subst ex ey
      have nDU : D ≠ U := ne_of_none hD1 hU
      have sU := Same.upd_new (o := .tup [.ref ra, .ref rb]) hU
      obtain ⟨hs1, hs2⟩ := scl_pV p2
      refine ⟨U, _, rfl, SqT.of upd_same, rfl, _, _, rfl, _, _, rfl, rfl, rfl, ?_⟩
      refine ⟨_, rfl, _, rfl, ra, rb, pV p2, rfl, hs2, hs1, sU _ _ (sm _ _ hra), sU _ _ (sm _ _ hrb), fun H2 s2 => ⟨_, s2 _ _ (sU _ _ hD1), by rw [List.length_map, List.length_replicate]; omega, fun c o hc => ?_, ?_⟩⟩
      · rw [upd_ne (ne_of_none hc hD)]
        exact s2 _ _ (sU _ _ (sm c o hc))
      · rw [upd_same, List.replicate_succ', List.map_append]
        rfl
    · have ei : i = ps.length := by omega
      subst ei
      refine .inl ⟨⟨_, _, SqT.of ha1, SqT.of hb1, .inl (by omega)⟩, D, _, rfl, .inl (SqL.of hD1), rfl, ?_, ?_⟩
      · rw [List.all_eq_true]
        intro v mv
        obtain ⟨c, _, rfl⟩ := List.mem_map.mp mv
        rfl
      · have e : inV (V.bl false) ((List.replicate ps.length true).map V.bl) = false := by
          show ((List.replicate ps.length true).map V.bl).any (fun y => eqV y (V.bl false)) = false
          rw [List.any_eq_false]
          intro v mv
          obtain ⟨c, hc, rfl⟩ := List.mem_map.mp mv
          rw [List.eq_of_mem_replicate hc]
          decide
        show Q (.bl (!inV _ _)) _
        rw [e]
        exact k H1 sm
end
end K55

set_option Elab.async false
set_option linter.all false
set_option maxRecDepth 100000
set_option maxHeartbeats 1000000
namespace K55
open PySem L2
def spLaw (K : PySem.W.Frag) : Sp := fun vs H Q _ => ∃ (a : Addr) (ns : List Int), vs = [.ref a] ∧ SqL K H a (ns.map V.int) ∧ ∀ H', Q (.bl true) H'
theorem asc_join {k : Nat} {ws : List Str} (hk : k ≤ 127) (h : ∀ y ∈ ws, Asc y) : Asc (Txt.join ⟨#[k]⟩ ws) := fun c hc => by
  rw [cs_joinC] at hc
  have jm : ∀ {ws : List (List Nat)}, c ∈ jnL k ws → c = k ∨ ∃ w ∈ ws, c ∈ w := fun {ws} => by
    induction ws with
    | nil => intro h; cases h
    | cons w ws ih =>
      intro h
      by_cases e : ws = []
      · subst e
        rw [jnL_one] at h
        exact .inr ⟨w, List.mem_cons_self, h⟩
      · rw [jnL_cons e] at h
        rcases List.mem_append.mp h with h | h
        · exact .inr ⟨w, List.mem_cons_self, h⟩
        · rcases List.mem_cons.mp h with rfl | h
          · exact .inl rfl
          · rcases ih h with h | ⟨v, h1, h2⟩
            · exact .inl h
            · exact .inr ⟨v, List.mem_cons_of_mem _ h1, h2⟩
  rcases jm hc with rfl | ⟨w, hw, hcw⟩
  · exact hk
  · obtain ⟨y, hy, rfl⟩ := List.mem_map.mp hw
    exact h y hy c hcw
theorem join_szs (ws : List Str) : (Txt.join spS ws).length ≤ szs ws ∧ (ws.map (·.length)).sum + ws.length * 1 = szs ws := by
  have := join_len 32 ws
  have e : (Txt.join spS ws).length = (Txt.join ⟨#[32]⟩ ws).length := rfl
  unfold szs
  have : max ws.length 1 ≤ ws.length + 1 := by omega
  omega
theorem szs_wP {ps : List Prt} (h : ∀ p ∈ ps, PB p) : szs (ps.map wP) ≤ 8 * ps.length := by
  have := wp_sum h
  unfold szs
  rw [List.length_map]
  omega
theorem formT_asc {ps : List Prt} (h : ∀ p ∈ ps, PB p) : Asc (formT ps) := asc_join (by decide) fun y hy c hc => by
  obtain ⟨p, hp, rfl⟩ := List.mem_map.mp hy
  exact ((wP_sg (h p hp)).1 c hc).1
theorem fb_uniq {ws : List Str} {m n : Nat} (h1 : FirstBad ws m) (h2 : FirstBad ws n) : m = n := by
  rcases Nat.lt_trichotomy m n with h | h | h
  · have := h2.2 m h
    rw [h1.1] at this
    cases this
  · exact h
  · have := h1.2 n h
    rw [h2.1] at this
    cases this
theorem rb_uniq {ps : List Prt} {m n : Nat} (h1 : RchBad ps m) (h2 : RchBad ps n) : m = n := by
  obtain ⟨⟨p, hp, hp2⟩, h1⟩ := h1
  obtain ⟨⟨q, hq, hq2⟩, h2⟩ := h2
  rcases Nat.lt_trichotomy m n with h | h | h
  · have := h2 m h p hp
    omega
  · exact h
  · have := h1 n h q hq
    omega
theorem rd_uniq {x : Str} {r1 r2 : Option Nat} (h1 : Rd x r1) (h2 : Rd x r2) : r1 = r2 := by
  have fa : ∀ {n}, FirstBad (wdx x) n → AllOk (wdx x) → False := fun {n} a b => by
    have := b n
    rw [a.1] at this
    cases this
  have ra : ∀ {n}, RchBad (prs (wdx x)) n → (∀ (j : Nat) (q : Prt), (prs (wdx x))[j]? = some q → rch q ≤ sumL (prs (wdx x))) → False := fun {n} a b => by
    obtain ⟨⟨p, hp, hp2⟩, _⟩ := a
    have := b n p hp
    omega
  cases r1 with
  | none =>
    cases r2 with
    | none => rfl
    | some n =>
      rcases h2 with h2 | ⟨_, h2⟩
      · exact (fa h2 h1.1).elim
      · exact (ra h2 h1.2).elim
  | some m =>
    cases r2 with
    | none =>
      rcases h1 with h1 | ⟨_, h1⟩
      · exact (fa h1 h2.1).elim
      · exact (ra h1 h2.2).elim
    | some n =>
      rcases h1 with h1 | ⟨a1, h1⟩
      · rcases h2 with h2 | ⟨a2, h2⟩
        · rw [fb_uniq h1 h2]
        · exact (fa h1 a2).elim
      · rcases h2 with h2 | ⟨a2, h2⟩
        · exact (fa h2 a1).elim
        · rw [rb_uniq h1 h2]
theorem prs_len (y : Str) : (prs (wdx y)).length ≤ y.length + 1 := by
  unfold prs wdx
  rw [List.length_map]
  split
  · exact Nat.zero_le _
  · have h := split_len y 32
    have e : (wds y).length = (Txt.split y ⟨#[32]⟩).length := rfl
    omega
/-- words that are joined: of signs below 128, and not many -/
def WOk (ws : List Str) (n : Nat) : Prop := (∀ y ∈ ws, Asc y) ∧ szs ws ≤ n
theorem WOk.text {ws : List Str} {n : Nat} (h : WOk ws n) (hn : n ≤ 10000) : Asc (Txt.join spS ws) ∧ (Txt.join spS ws).length ≤ 10000 ∧ (ws.map (·.length)).sum + ws.length * 1 ≤ 16777216 := by
  have := join_szs ws
  have := h.2
  exact ⟨asc_join (by decide) h.1, by omega, by omega⟩
section
variable {P : Program} {w : World} {K : PySem.W.Frag} {mg : Str → Option Value} {base : Heap}
theorem ok_law {fa : Addr} {fd : FuncData} (F : Fun K "law" "law" s_law fa fd) (T : Bu mg) (c__law_pen : Cal P w K mg base 1 "_law_pen" P_law_pen (spPen K)) (c__law_any_form : Cal P w K mg base 3 "_law_any_form" P_law_any_form spAF) (c__law_form_text : Cal P w K mg base 1 "_law_form_text" P_law_form_text spFT) (c_form_text : Cal P w K mg base 2 "form_text" P_form_text spFT) (c__law_same : Cal P w K mg base 3 "_law_same" P_law_same spSame2) (c_read_form : Cal P w K mg base 5 "read_form" P_read_form spForm) (c__law_bent_words : Cal P w K mg base 2 "_law_bent_words" P_law_bent_words spBW) (c__law_told : Cal P w K mg base 6 "_law_told" P_law_told spTold) (c__law_due : Cal P w K mg base 3 "_law_due" P_law_due spDue) (c__law_sign_spoilt : Cal P w K mg base 2 "_law_sign_spoilt" P_law_sign_spoilt spSpoilt) (c__law_take : Cal P w K mg base 1 "_law_take" P_law_take spTake) (c__law_letter : Cal P w K mg base 2 "_law_letter" P_law_letter spLetter) :
    FnOk P w K mg base CX0 7 fa fd P_law (spLaw K) := by
  refine F.ok sc_law (fun vs H Q E h => ?_) (fun cdv A outer s H vs Q E hr h => ?_)
  · obtain ⟨a, ns, rfl, _⟩ := h
    rfl
  · obtain ⟨a, ns, rfl, hS0, k⟩ := h
    have hS : sizeLine = 16777216 := szl
    have e1 : Str.ofString " " = spS := by decide +kernel
    refine ⟨_, (@pss_cons _ _ _ _ _ (@ps_set _ _ (1) _ _ _ _ sc_law.nd rfl (Or.inr rfl) (@pe_cal _ _ _ _ _ _ _ _ _ _ c__law_pen (hr.mono (by decide)) (by rfl) (@pa_cons _ _ _ _ _ (@pv _ 0 _ _ (by rfl) (by first | exact Or.inl rfl | exact Or.inr (Or.inl rfl) | exact Or.inr (Or.inr rfl)) (by decide) (by decide)) pa_nil (by rfl)) (by decide) (by rfl) (by rfl)) (by rfl) (by first | exact .inl rfl | exact .inr rfl)) (@pss_cons _ _ _ _ _ (@ps_for _ _ _ _ _ _ _ _ PassesOwn.never rfl (@pi_range1 _ _ _ _ _ _ rfl T.n_range (@pa_cons _ _ _ _ _ pe_int pa_nil (by rfl)) (by rfl)) (@pg_name _ _ (2) _ sc_law.nd rfl (Or.inl rfl) (by first | exact .inl rfl | exact .inr rfl)) (@pss_cons _ _ _ _ _ (@ps_set _ _ (3) _ _ _ _ sc_law.nd rfl (Or.inl rfl) (@pe_cal _ _ _ _ _ _ _ _ _ _ c__law_any_form (hr.mono (by decide)) (by rfl) (@pa_cons _ _ _ _ _ (@pv _ 1 _ _ (by rfl) (by first | exact Or.inl rfl | exact Or.inr (Or.inl rfl) | exact Or.inr (Or.inr rfl)) (by decide) (by decide)) pa_nil (by rfl)) (by decide) (by rfl) (by rfl)) (by rfl) (by first | exact .inl rfl | exact .inr rfl)) (@pss_cons _ _ _ _ _ (@ps_set _ _ (4) _ _ _ _ sc_law.nd rfl (Or.inl rfl) (@pe_cal _ _ _ _ _ _ _ _ _ _ c__law_form_text (hr.mono (by decide)) (by rfl) (@pa_cons _ _ _ _ _ (@pv _ 3 _ _ (by rfl) (by first | exact Or.inl rfl | exact Or.inr (Or.inl rfl) | exact Or.inr (Or.inr rfl)) (by decide) (by decide)) pa_nil (by rfl)) (by decide) (by rfl) (by rfl)) (by rfl) (by first | exact .inl rfl | exact .inr rfl)) (@pss_cons _ _ _ _ _ (@ps_if _ _ _ _ _ _ _ _ (@PW.pt _ _ _ (@pw_or _ _ _ _ _ _ _ (@pt_not _ _ _ _ (@pt_val _ _ _ (@pe_cal _ _ _ _ _ _ _ _ _ _ c__law_same (hr.mono (by decide)) (by rfl) (@pa_cons _ _ _ _ _ (@pe_cal _ _ _ _ _ _ _ _ _ _ c_form_text (hr.mono (by decide)) (by rfl) (@pa_cons _ _ _ _ _ (@pv _ 3 _ _ (by rfl) (by first | exact Or.inl rfl | exact Or.inr (Or.inl rfl) | exact Or.inr (Or.inr rfl)) (by decide) (by decide)) pa_nil (by rfl)) (by decide) (by rfl) (by rfl)) (@pa_cons _ _ _ _ _ (@pv _ 4 _ _ (by rfl) (by first | exact Or.inl rfl | exact Or.inr (Or.inl rfl) | exact Or.inr (Or.inr rfl)) (by decide) (by decide)) pa_nil (by rfl)) (by rfl)) (by decide) (by rfl) (by rfl)) (by intro _; rfl))) (@pw_or1 _ _ _ _ (@pt_not _ _ _ _ (@pt_val _ _ _ (@pe_cal _ _ _ _ _ _ _ _ _ _ c__law_same (hr.mono (by decide)) (by rfl) (@pa_cons _ _ _ _ _ (@pe_cal _ _ _ _ _ _ _ _ _ _ c_read_form (hr.mono (by decide)) (by rfl) (@pa_cons _ _ _ _ _ (@pv _ 4 _ _ (by rfl) (by first | exact Or.inl rfl | exact Or.inr (Or.inl rfl) | exact Or.inr (Or.inr rfl)) (by decide) (by decide)) pa_nil (by rfl)) (by decide) (by rfl) (by rfl)) (@pa_cons _ _ _ _ _ (@pv _ 3 _ _ (by rfl) (by first | exact Or.inl rfl | exact Or.inr (Or.inl rfl) | exact Or.inr (Or.inr rfl)) (by decide) (by decide)) pa_nil (by rfl)) (by rfl)) (by decide) (by rfl) (by rfl)) (by intro _; rfl)))))) (@pss_one _ _ _ (@ps_ret _ _ _ _ pe_bl)) pss_nil) (@pss_cons _ _ _ _ _ (@ps_set _ _ (5) _ _ _ _ sc_law.nd rfl (Or.inl rfl) (pe_split (@pv _ 4 _ _ (by rfl) (by first | exact Or.inl rfl | exact Or.inr (Or.inl rfl) | exact Or.inr (Or.inr rfl)) (by decide) (by decide)) pe_str) (by rfl) (by first | exact .inl rfl | exact .inr rfl)) (@pss_one _ _ _ (@ps_for _ _ _ _ _ _ _ _ PassesOwn.never rfl (@pi_range1 _ _ _ _ _ _ rfl T.n_range (@pa_cons _ _ _ _ _ pe_int pa_nil (by rfl)) (by rfl)) (@pg_name _ _ (6) _ sc_law.nd rfl (Or.inl rfl) (by first | exact .inl rfl | exact .inr rfl)) (@pss_cons _ _ _ _ _ (@ps_set _ _ (5) _ _ _ _ sc_law.nd rfl (Or.inl rfl) (@pe_cal _ _ _ _ _ _ _ _ _ _ c__law_bent_words (hr.mono (by decide)) (by rfl) (@pa_cons _ _ _ _ _ (@pv _ 1 _ _ (by rfl) (by first | exact Or.inl rfl | exact Or.inr (Or.inl rfl) | exact Or.inr (Or.inr rfl)) (by decide) (by decide)) (@pa_cons _ _ _ _ _ (@pv _ 5 _ _ (by rfl) (by first | exact Or.inl rfl | exact Or.inr (Or.inl rfl) | exact Or.inr (Or.inr rfl)) (by decide) (by decide)) pa_nil (by rfl)) (by rfl)) (by decide) (by rfl) (by rfl)) (by rfl) (by first | exact .inl rfl | exact .inr rfl)) (@pss_cons _ _ _ _ _ (@ps_if _ _ _ _ _ _ _ _ (@pt_cmpR _ _ _ _ _ _ _ _ (op_eqD hr.units) (@pv _ 5 _ _ (by rfl) (by first | exact Or.inl rfl | exact Or.inr (Or.inl rfl) | exact Or.inr (Or.inr rfl)) (by decide) (by decide)) (@pe_lst _ _ _ _ pa_nil) (nomark _)) (@pss_one _ _ _ (@ps_set _ _ (5) _ _ _ _ sc_law.nd rfl (Or.inl rfl) (@pe_lst _ _ _ _ (@pa_cons _ _ _ _ _ pe_str pa_nil (by rfl))) (by rfl) (by first | exact .inl rfl | exact .inr rfl))) pss_nil) (@pss_cons _ _ _ _ _ (@ps_if _ _ _ _ _ _ _ _ (@pt_not _ _ _ _ (@pt_val _ _ _ (@pe_cal _ _ _ _ _ _ _ _ _ _ c__law_same (hr.mono (by decide)) (by rfl) (@pa_cons _ _ _ _ _ (@pe_cal _ _ _ _ _ _ _ _ _ _ c__law_told (hr.mono (by decide)) (by rfl) (@pa_cons _ _ _ _ _ (@pe_join _ _ _ _ _ _ _ pe_str (@pv _ 5 _ _ (by rfl) (by first | exact Or.inl rfl | exact Or.inr (Or.inl rfl) | exact Or.inr (Or.inr rfl)) (by decide) (by decide)) (by rfl) (by rfl) (by rfl)) pa_nil (by rfl)) (by decide) (by rfl) (by rfl)) (@pa_cons _ _ _ _ _ (@pe_cal _ _ _ _ _ _ _ _ _ _ c__law_due (hr.mono (by decide)) (by rfl) (@pa_cons _ _ _ _ _ (@pe_join _ _ _ _ _ _ _ pe_str (@pv _ 5 _ _ (by rfl) (by first | exact Or.inl rfl | exact Or.inr (Or.inl rfl) | exact Or.inr (Or.inr rfl)) (by decide) (by decide)) (by rfl) (by rfl) (by rfl)) pa_nil (by rfl)) (by decide) (by rfl) (by rfl)) pa_nil (by rfl)) (by rfl)) (by decide) (by rfl) (by rfl)) (by intro _; rfl))) (@pss_one _ _ _ (@ps_ret _ _ _ _ pe_bl)) pss_nil) (@pss_cons _ _ _ _ _ (@ps_set _ _ (7) _ _ _ _ sc_law.nd rfl (Or.inl rfl) (@pe_cal _ _ _ _ _ _ _ _ _ _ c__law_sign_spoilt (hr.mono (by decide)) (by rfl) (@pa_cons _ _ _ _ _ (@pv _ 1 _ _ (by rfl) (by first | exact Or.inl rfl | exact Or.inr (Or.inl rfl) | exact Or.inr (Or.inr rfl)) (by decide) (by decide)) (@pa_cons _ _ _ _ _ (@pe_join _ _ _ _ _ _ _ pe_str (@pv _ 5 _ _ (by rfl) (by first | exact Or.inl rfl | exact Or.inr (Or.inl rfl) | exact Or.inr (Or.inr rfl)) (by decide) (by decide)) (by rfl) (by rfl) (by rfl)) pa_nil (by rfl)) (by rfl)) (by decide) (by rfl) (by rfl)) (by rfl) (by first | exact .inl rfl | exact .inr rfl)) (@pss_cons _ _ _ _ _ (@ps_if _ _ _ _ _ _ _ _ (@pt_not _ _ _ _ (@pt_val _ _ _ (@pe_cal _ _ _ _ _ _ _ _ _ _ c__law_same (hr.mono (by decide)) (by rfl) (@pa_cons _ _ _ _ _ (@pe_cal _ _ _ _ _ _ _ _ _ _ c__law_told (hr.mono (by decide)) (by rfl) (@pa_cons _ _ _ _ _ (@pv _ 7 _ _ (by rfl) (by first | exact Or.inl rfl | exact Or.inr (Or.inl rfl) | exact Or.inr (Or.inr rfl)) (by decide) (by decide)) pa_nil (by rfl)) (by decide) (by rfl) (by rfl)) (@pa_cons _ _ _ _ _ (@pe_cal _ _ _ _ _ _ _ _ _ _ c__law_due (hr.mono (by decide)) (by rfl) (@pa_cons _ _ _ _ _ (@pv _ 7 _ _ (by rfl) (by first | exact Or.inl rfl | exact Or.inr (Or.inl rfl) | exact Or.inr (Or.inr rfl)) (by decide) (by decide)) pa_nil (by rfl)) (by decide) (by rfl) (by rfl)) pa_nil (by rfl)) (by rfl)) (by decide) (by rfl) (by rfl)) (by intro _; rfl))) (@pss_one _ _ _ (@ps_ret _ _ _ _ pe_bl)) pss_nil) (@pss_one _ _ _ (@ps_if _ _ _ _ _ _ _ _ (@pt_cmpR _ _ _ _ _ _ _ _ op_eq (@pe_cal _ _ _ _ _ _ _ _ _ _ c__law_take (hr.mono (by decide)) (by rfl) (@pa_cons _ _ _ _ _ (@pv _ 1 _ _ (by rfl) (by first | exact Or.inl rfl | exact Or.inr (Or.inl rfl) | exact Or.inr (Or.inr rfl)) (by decide) (by decide)) (@pa_cons _ _ _ _ _ pe_int pa_nil (by rfl)) (by rfl)) (by decide) (by rfl) (by rfl)) pe_int (nomark _)) (@pss_one _ _ _ (@ps_set _ _ (5) _ _ _ _ sc_law.nd rfl (Or.inl rfl) (pe_split (@pv _ 4 _ _ (by rfl) (by first | exact Or.inl rfl | exact Or.inr (Or.inl rfl) | exact Or.inr (Or.inr rfl)) (by decide) (by decide)) pe_str) (by rfl) (by first | exact .inl rfl | exact .inr rfl))) pss_nil))))))) (by intro _; rfl))))))) (by intro _; rfl)) (@pss_cons _ _ _ _ _ (@ps_setLc _ (5) _ _ _ _ _ _ _ ([("k", 6)]) _ _ _ (gName 6) _ _ (by rfl) sc_law.nd rfl rfl (@sw_true _ _ _ _ _ _ _ _ rfl rfl rfl (by decide +kernel)) (@pi_range1 _ _ _ _ _ _ rfl T.n_range (@pa_cons _ _ _ _ _ (@pe_op _ _ _ _ _ _ _ _ op_add pe_int (@pe_cal _ _ _ _ _ _ _ _ _ _ c__law_take (hr.mono (by decide)) (by rfl) (@pa_cons _ _ _ _ _ (@pv _ 1 _ _ (by rfl) (by first | exact Or.inl rfl | exact Or.inr (Or.inl rfl) | exact Or.inr (Or.inr rfl)) (by decide) (by decide)) (@pa_cons _ _ _ _ _ pe_int pa_nil (by rfl)) (by rfl)) (by decide) (by rfl) (by rfl))) pa_nil (by rfl)) (by rfl)) (@blkOk_by (N_law) (defScope s_law) _ ([("k", 6)]) (by decide +kernel)) (fun _ _ _ _ _ => pg_name (i := 6) sc_law.nd rfl (Or.inl rfl)) (fun _ _ _ _ _ => pts_nil) (fun _ _ _ _ _ => (@pe_cal _ _ _ _ _ _ _ _ _ _ c__law_letter (hr.mono (by decide)) (by rfl) (@pa_cons _ _ _ _ _ (@pv _ 1 _ _ (by rfl) (by first | exact Or.inl rfl | exact Or.inr (Or.inl rfl) | exact Or.inr (Or.inr rfl)) (by decide) (by decide)) (@pa_cons _ _ _ _ _ pe_int pa_nil (by rfl)) (by rfl)) (by decide) (by rfl) (by rfl))) (by intro _; rfl)) (@pss_cons _ _ _ _ _ (@ps_if _ _ _ _ _ _ _ _ (@pt_cmpR _ _ _ _ _ _ _ _ op_eq (@pe_cal _ _ _ _ _ _ _ _ _ _ c__law_take (hr.mono (by decide)) (by rfl) (@pa_cons _ _ _ _ _ (@pv _ 1 _ _ (by rfl) (by first | exact Or.inl rfl | exact Or.inr (Or.inl rfl) | exact Or.inr (Or.inr rfl)) (by decide) (by decide)) (@pa_cons _ _ _ _ _ pe_int pa_nil (by rfl)) (by rfl)) (by decide) (by rfl) (by rfl)) pe_int (nomark _)) (@pss_one _ _ _ (@ps_asg _ _ _ _ _ _ (@pe_ix _ _ _ _ _ _ _ ix_list (@pe_lst _ _ _ _ (@pa_consts _ _ ([V.str "", V.str "A", V.str "0:300", V.str "0:2"]) (by kernel_rfl))) (@pe_cal _ _ _ _ _ _ _ _ _ _ c__law_take (hr.mono (by decide)) (by rfl) (@pa_cons _ _ _ _ _ (@pv _ 1 _ _ (by rfl) (by first | exact Or.inl rfl | exact Or.inr (Or.inl rfl) | exact Or.inr (Or.inr rfl)) (by decide) (by decide)) (@pa_cons _ _ _ _ _ pe_int pa_nil (by rfl)) (by rfl)) (by decide) (by rfl) (by rfl)) (fun _ _ => rfl)) (@pg_sub _ _ _ _ _ _ _ (@pv _ 5 _ _ (by rfl) (by first | exact Or.inl rfl | exact Or.inr (Or.inl rfl) | exact Or.inr (Or.inr rfl)) (by decide) (by decide)) (@pe_cal _ _ _ _ _ _ _ _ _ _ c__law_take (hr.mono (by decide)) (by rfl) (@pa_cons _ _ _ _ _ (@pv _ 1 _ _ (by rfl) (by first | exact Or.inl rfl | exact Or.inr (Or.inl rfl) | exact Or.inr (Or.inr rfl)) (by decide) (by decide)) (@pa_cons _ _ _ _ _ (@pe_callB _ _ _ _ _ _ _ _ _ call_len_seq (by rfl) T.n_len (by decide +kernel) (@pa_cons _ _ _ _ _ (@pv _ 5 _ _ (by rfl) (by first | exact Or.inl rfl | exact Or.inr (Or.inl rfl) | exact Or.inr (Or.inr rfl)) (by decide) (by decide)) pa_nil (by rfl)) (by decide) (by decide) (by rfl) (by rfl)) pa_nil (by rfl)) (by rfl)) (by decide) (by rfl) (by rfl)) set_list (by intro _; rfl)) (by rfl) (by rfl) (by rfl))) pss_nil) (@pss_one _ _ _ (@ps_ret _ _ _ _ (@pe_cal _ _ _ _ _ _ _ _ _ _ c__law_same (hr.mono (by decide)) (by rfl) (@pa_cons _ _ _ _ _ (@pe_cal _ _ _ _ _ _ _ _ _ _ c__law_told (hr.mono (by decide)) (by rfl) (@pa_cons _ _ _ _ _ (@pe_join _ _ _ _ _ _ _ pe_str (@pv _ 5 _ _ (by rfl) (by first | exact Or.inl rfl | exact Or.inr (Or.inl rfl) | exact Or.inr (Or.inr rfl)) (by decide) (by decide)) (by rfl) (by rfl) (by rfl)) pa_nil (by rfl)) (by decide) (by rfl) (by rfl)) (@pa_cons _ _ _ _ _ (@pe_cal _ _ _ _ _ _ _ _ _ _ c__law_due (hr.mono (by decide)) (by rfl) (@pa_cons _ _ _ _ _ (@pe_join _ _ _ _ _ _ _ pe_str (@pv _ 5 _ _ (by rfl) (by first | exact Or.inl rfl | exact Or.inr (Or.inl rfl) | exact Or.inr (Or.inr rfl)) (by decide) (by decide)) (by rfl) (by rfl) (by rfl)) pa_nil (by rfl)) (by decide) (by rfl) (by rfl)) pa_nil (by rfl)) (by rfl)) (by decide) (by rfl) (by rfl)))))))), ?_⟩
    rw [e1]
    refine ⟨_, rfl, a, ns, rfl, hS0, fun p q H1 _ _ pn1 _ => ?_⟩
    refine ⟨4, rfl, by decide, by decide, for_range (lo := 0) (n := 4) (fun i σ H' => ∃ v2 v3 v4 v5 v6 v7 : Option V, σ = [some (.ref a), some (.ref p), v2, v3, v4, v5, v6, v7] ∧ Pen H' p q) ⟨_, _, _, _, _, _, rfl, pn1⟩ ?_ ?_⟩
    · rintro i _ H2 hi ⟨v2, v3, v4, v5, v6, v7, rfl, pn2⟩
      refine ⟨_, rfl, p, q, rfl, pn2, fun so us ps H3 hso hso3 pr3 ⟨hb, hs3, hr3, hl9⟩ pn3 o3 => ?_⟩
      obtain ⟨hrd, hprs⟩ := form_ok hb hs3 hr3
      refine ⟨_, rfl, so, us, ps, rfl, hso3, pr3, hb, by omega, fun H4 s4 => ?_⟩
      have ta := formT_asc hb
      have tl : (formT ps).length ≤ 100 := by
        have h1 := (join_szs (ps.map wP)).1
        have h2 := szs_wP hb
        have e : (formT ps).length = (Txt.join spS (ps.map wP)).length := rfl
        omega
      have hso4 := s4 _ _ hso3
      have pr4 := pr3.kept fun r o e _ => s4 _ _ e
      refine ⟨_, rfl, so, us, ps, rfl, hso4, pr4, hb, by omega, fun H5 s5 => ?_⟩
      refine ⟨_, rfl, .inl ⟨.str (formT ps), rfl, trivial, _, rfl, ?_⟩⟩
      refine ite2 (fun h => by cases h) (fun _ => ?_)
      refine ⟨_, rfl, formT ps, rfl, by omega, hrd, fun b us2 H6 hb0 eb prb s6 => ?_⟩
      rw [hprs] at prb
      have hso6 := s6 _ _ (s5 _ _ hso4)
      have pr6 := pr4.kept fun r o e _ => s6 _ _ (s5 _ _ e)
      refine ⟨_, rfl, .inr ⟨b, so, us2, us, ps, rfl, by omega, eb, hso6, prb, pr6, fun H7 s7 => ⟨_, rfl, ?_⟩⟩⟩
      refine ite2 (fun h => by cases h) (fun _ => ?_)
      try unfold tNext
      try dsimp only
      have pn7 := ((((pn3.same s4).same s5).same s6).same s7)
      generalize hft : formT ps = ft at ta tl hrd
      have hso7 := s7 _ _ hso6
      refine ⟨_, rfl, ⟨_, rfl⟩, ft, spS, rfl, rfl, by decide, by omega, fun W0 hW0 => ?_⟩
      have sW := Same.upd_new (o := .lst ((Txt.split ft spS).map V.str)) hW0
      have eW : (upd H7 W0 (.lst ((Txt.split ft spS).map V.str))) W0 = some (.lst ((Txt.split ft spS).map V.str)) := upd_same
      have pn8 := pn7.same sW
      generalize upd H7 W0 (.lst ((Txt.split ft spS).map V.str)) = H8 at sW eW pn8
      have ftok : WOk (Txt.split ft spS) 110 ∧ 1 ≤ (Txt.split ft spS).length := by
        have h := split_len ft 32
        have e : szs (Txt.split ft spS) = ft.length + 1 := h
        refine ⟨⟨wds_asc ta, by omega⟩, ?_⟩
        exact wds_pos ft
      try dsimp only
      refine ⟨4, rfl, by decide, by decide, for_range (lo := 0) (n := 4) (fun j σ H' => ∃ (lk : Addr) (ws : List Str) (v6 v7 : Option V), σ = [some (.ref a), some (.ref p), some (.int (0 + (i : Int))), some (.ref so), some (.str ft), some (.ref lk), v6, v7] ∧ Pen H' p q ∧ H' lk = some (.lst (ws.map V.str)) ∧ 1 ≤ ws.length ∧ WOk ws (110 + 10 * j)) ⟨_, _, _, _, rfl, pn8, eW, ftok.2, ftok.1⟩ ?_ ?_⟩
      · rintro j _ H9 hj ⟨lk, ws, v6, v7, rfl, pn9, elk, hl1, wok⟩
        have hwl : ws.length ≤ 10000 := by
          have := wok.2
          unfold szs at this
          omega
        refine ⟨_, rfl, _, rfl, p, q, lk, ws, rfl, pn9, elk, hl1, hwl, wok.1, fun r ws' HA hr er hasc hsz pnA oA => ?_⟩
        have nrp := (pn9.ne hr).1
        have wok' : WOk ws' (110 + 10 * j + 8) := ⟨hasc, by have := wok.2; omega⟩
        try dsimp only
        refine seq_after (fun σ' H' => ∃ (lk : Addr) (ws : List Str), σ' = [some (.ref a), some (.ref p), some (.int (0 + (i : Int))), some (.ref so), some (.str ft), some (.ref lk), some (.int (0 + (j : Int))), v7] ∧ Pen H' p q ∧ lk ≠ p ∧ H' lk = some (.lst (ws.map V.str)) ∧ 1 ≤ ws.length ∧ WOk ws (110 + 10 * (j + 1))) ?_ (fun cont => ?_)
        · rintro _ HB ⟨lk, ws, rfl, pnB, nlk, elk, hl1, wok⟩
          obtain ⟨ta, tl, tz⟩ := wok.text (by omega)
          have lt : (Txt.join spS ws).length ≤ 50000 := by omega
          try dsimp only
          refine seq_after (fun σ' H' => σ' = [some (.ref a), some (.ref p), some (.int (0 + (i : Int))), some (.ref so), some (.str ft), some (.ref lk), some (.int (0 + (j : Int))), v7] ∧ Same HB H') ?_ (fun cont => ?_)
          · rintro _ HC ⟨rfl, sC⟩
            have elC := sC _ _ elk
            have pnC := pnB.same sC
            refine ⟨_, rfl, ⟨_, rfl⟩, _, rfl, spS, lk, ws, rfl, rfl, .inl (SqL.of elC), tz, ?_⟩
            refine ⟨p, q, _, rfl, pnC, by omega, ta, fun y HD ya yl pnD oD => ?_⟩
            have yl5 : y.length ≤ 50000 := by omega
            have elD := oD _ _ elC nlk
            try dsimp only
            refine seq_after (fun σ' H' => σ' = [some (.ref a), some (.ref p), some (.int (0 + (i : Int))), some (.ref so), some (.str ft), some (.ref lk), some (.int (0 + (j : Int))), some (.str y)] ∧ Same HD H') ?_ (fun cont => ?_)
            · rintro _ HE ⟨rfl, sE⟩
              have pnE := pnD.same sE
              have elE := sE _ _ elD
              refine ⟨_, rfl, p, q, 2, rfl, by decide, by decide, pnE, fun z HF z0 z1 pnF oF => ⟨rfl, _, rfl, ?_⟩⟩
              refine ite2 (fun _ => ?_) (fun _ => ?_)
              · refine ⟨_, rfl, ⟨_, rfl⟩, ft, spS, rfl, rfl, by decide, by omega, fun W hW => ?_⟩
                exact ⟨W, Txt.split ft spS, _, _, rfl, pnF.upd_new hW, upd_same, ftok.2, ⟨ftok.1.1, by have := ftok.1.2; omega⟩⟩
              · exact ⟨lk, ws, _, _, rfl, pnF, oF _ _ elE nlk, hl1, wok⟩
            · obtain ⟨rd, hrd⟩ := rd_ex y
              refine ⟨_, rfl, y, rfl, yl5, fun n hn HE sE => ?_, fun hn b us HE hb eb prb sE => ?_⟩
              · refine ⟨_, rfl, y, rfl, yl5, ya, fun n2 hn2 HF sF => ?_, fun hn2 => (by have := rd_uniq hn hn2; cases this)⟩
                obtain rfl : n = n2 := by have := rd_uniq hn hn2; exact Option.some.inj this
                refine .inl ⟨.int (n : Int), rfl, trivial, _, rfl, ?_⟩
                exact ite2 (fun h => by cases h) (fun _ => cont _ _ ⟨rfl, sE.trans sF⟩)
              · refine ⟨_, rfl, y, rfl, yl5, ya, fun n2 hn2 => (by have := rd_uniq hn hn2; cases this), fun _ b2 us2 HF hb2 eb2 prb2 sF => ?_⟩
                refine .inr ⟨b, b2, us, us2, prs (wdx y), rfl, (by have := prs_len y; omega), sF _ _ eb, eb2, prb.kept fun r o e _ => sF _ _ e, prb2, fun HG sG => ⟨_, rfl, ?_⟩⟩
                exact ite2 (fun h => by cases h) (fun _ => cont _ _ ⟨rfl, (sE.trans sF).trans sG⟩)
          · obtain ⟨rd, hrd⟩ := rd_ex (Txt.join spS ws)
            refine ⟨⟨_, rfl⟩, _, rfl, spS, lk, ws, rfl, rfl, .inl (SqL.of elk), tz, ?_⟩
            refine ⟨_, rfl, lt, fun n hn HE sE => ?_, fun hn b us HE hb eb prb sE => ?_⟩
            · refine ⟨⟨_, rfl⟩, _, rfl, spS, lk, ws, rfl, rfl, .inl (SqL.of (sE _ _ elk)), tz, ?_⟩
              refine ⟨_, rfl, lt, ta, fun n2 hn2 HF sF => ?_, fun hn2 => (by have := rd_uniq hn hn2; cases this)⟩
              obtain rfl : n = n2 := by have := rd_uniq hn hn2; exact Option.some.inj this
              refine .inl ⟨.int (n : Int), rfl, trivial, _, rfl, ?_⟩
              exact ite2 (fun h => by cases h) (fun _ => cont _ _ ⟨rfl, sE.trans sF⟩)
            · refine ⟨⟨_, rfl⟩, _, rfl, spS, lk, ws, rfl, rfl, .inl (SqL.of (sE _ _ elk)), tz, ?_⟩
              refine ⟨_, rfl, lt, ta, fun n2 hn2 => (by have := rd_uniq hn hn2; cases this), fun _ b2 us2 HF hb2 eb2 prb2 sF => ?_⟩
              refine .inr ⟨b, b2, us, us2, prs (wdx (Txt.join spS ws)), rfl, (by have := prs_len (Txt.join spS ws); omega), sF _ _ eb, eb2, prb.kept fun r o e _ => sF _ _ e, prb2, fun HG sG => ⟨_, rfl, ?_⟩⟩
              exact ite2 (fun h => by cases h) (fun _ => cont _ _ ⟨rfl, (sE.trans sF).trans sG⟩)
        · refine ⟨_, rfl, by rw [hS]; show 0 ≤ 16777216; decide, fun e he => ?_⟩
          have se := Same.upd_new (o := .lst ([] : List V)) he
          refine ⟨.list (ws'.map PyData.str), .list (([] : List Str).map PyData.str), .lst (SqL.of (se _ _ er)) (dpAll_strs _), .lst (SqL.of upd_same) .nil, shapedL_strsA ws' hasc, shapedL_strsA [] (fun y hy => absurd hy (by simp)), _, rfl, ?_⟩
          rw [eqv_strs]
          generalize upd HA e (.lst ([] : List V)) = HB at se
          refine ite2 (fun h => ?_) (fun h => ?_)
          · refine ⟨by rw [hS]; show 1 ≤ 16777216; decide, fun c hc => ?_⟩
            have pnB := pnA.same se
            have sc := Same.upd_new (o := .lst [V.str (Str.ofString "")]) hc
            refine cont _ _ ⟨c, [Str.ofString ""], rfl, pnB.same sc, (pnB.ne hc).1, upd_same, Nat.le_refl _, ⟨fun y hy => ?_, ?_⟩⟩
            · rw [List.mem_singleton.mp hy]
              exact fun d hd => by cases hd
            · show 0 + 0 + 1 ≤ _
              omega
          · refine cont _ _ ⟨r, ws', rfl, pnA.same se, nrp, se _ _ er, ?_, ⟨hasc, by have := wok'.2; omega⟩⟩
            cases ws' with
            | nil => exact absurd (decide_eq_true rfl) h
            | cons a l => rw [List.length_cons]; omega
      · rintro _ H9 ⟨lk, ws, v6, v7, rfl, pn9, elk, hl1, wok⟩
        exact ⟨_, _, _, _, _, _, rfl, pn9⟩
    · rintro _ H2 ⟨v2, v3, v4, v5, v6, v7, rfl, pn2⟩
      refine ⟨_, rfl, p, q, 3, rfl, by decide, by decide, pn2, fun z H3 z0 z1 pn3 o3 => ⟨_, _, rfl, rfl, ?_⟩⟩
      refine ⟨_, rfl, by omega, by omega, fun D hD => ?_⟩
      have nD := (pn3.ne hD).1
      have nDq := (pn3.ne hD).2
      have sD := Same.upd_new (o := .lst ([] : List V)) hD
      refine lc_range (lo := 0) (n := (299 + z).toNat) (fun j H' => Pen H' p q ∧ ∃ ls : List Str, H' D = some (.lst (ls.map V.str)) ∧ ls.length = j ∧ ∀ y ∈ ls, Asc y ∧ y.length ≤ 5) ⟨pn3.same sD, [], upd_same, rfl, fun y hy => (by cases hy)⟩ ?_ ?_
      · rintro j H5 hj ⟨pn5, ls, hD5, hlen, hls⟩
        refine ⟨rfl, _, rfl, p, q, 3, rfl, by decide, by decide, pn5, fun c H6 c1 c2 pn6 oo => ?_⟩
        have hD6 := oo _ _ hD5 nD
        refine ⟨_, hD6, by rw [List.length_map, hlen]; omega, ?_⟩
        refine ⟨pn6.upd_ne nD nDq, ls ++ [⟨#[c]⟩], by rw [upd_same, List.map_append]; rfl, by rw [List.length_append, hlen]; rfl, fun y hy => ?_⟩
        rcases List.mem_append.mp hy with hy | hy
        · exact hls y hy
        · rw [List.mem_singleton.mp hy]
          refine ⟨fun d hd => ?_, Nat.le_trans (Nat.le_refl 1) (by decide)⟩
          obtain rfl : d = c := List.mem_singleton.mp hd
          omega
      rintro H5 ⟨pn5, ks, hD5, hlen, hls⟩
      have hkl : 299 ≤ ks.length ∧ ks.length ≤ 301 := by omega
      try dsimp only
      refine seq_after (fun σ' H' => ∃ ks : List Str, σ' = [some (.ref a), some (.ref p), v2, v3, v4, some (.ref D), v6, v7] ∧ H' D = some (.lst (ks.map V.str)) ∧ ks.length ≤ 301 ∧ ∀ y ∈ ks, Asc y ∧ y.length ≤ 5) ?_ (fun cont => ?_)
      · rintro _ H7 ⟨ks, rfl, eL7, hk1, hk2⟩
        have wok : WOk ks 2000 := by
          refine ⟨fun y hy => (hk2 y hy).1, ?_⟩
          have : ∀ l : List Str, (∀ y ∈ l, y.length ≤ 5) → szs l ≤ 6 * l.length := fun l => by
            induction l with
            | nil => intro _; exact Nat.le_refl 0
            | cons y l ih =>
              intro h
              have h1 := ih fun z hz => h z (List.mem_cons_of_mem _ hz)
              have h2 := h y List.mem_cons_self
              have h3 := szs_app [y] l
              rw [List.singleton_append, szs_one] at h3
              rw [List.length_cons]
              omega
          have := this ks fun y hy => (hk2 y hy).2
          omega
        obtain ⟨ta, tl, tz⟩ := wok.text (by decide)
        have lt : (Txt.join spS ks).length ≤ 50000 := by omega
        obtain ⟨rd, hrd⟩ := rd_ex (Txt.join spS ks)
        refine ⟨⟨_, rfl⟩, _, rfl, spS, D, ks, rfl, rfl, .inl (SqL.of eL7), tz, ?_⟩
        refine ⟨_, rfl, lt, fun n hn HE sE => ?_, fun hn b us HE hb eb prb sE => ?_⟩
        · refine ⟨⟨_, rfl⟩, _, rfl, spS, D, ks, rfl, rfl, .inl (SqL.of (sE _ _ eL7)), tz, ?_⟩
          refine ⟨_, rfl, lt, ta, fun n2 hn2 HF sF => ?_, fun hn2 => (by have := rd_uniq hn hn2; cases this)⟩
          obtain rfl : n = n2 := by have := rd_uniq hn hn2; exact Option.some.inj this
          exact .inl ⟨.int (n : Int), rfl, trivial, k _⟩
        · refine ⟨⟨_, rfl⟩, _, rfl, spS, D, ks, rfl, rfl, .inl (SqL.of (sE _ _ eL7)), tz, ?_⟩
          refine ⟨_, rfl, lt, ta, fun n2 hn2 => (by have := rd_uniq hn hn2; cases this), fun _ b2 us2 HF hb2 eb2 prb2 sF => ?_⟩
          exact .inr ⟨b, b2, us, us2, prs (wdx (Txt.join spS ks)), rfl, (by have := prs_len (Txt.join spS ks); omega), sF _ _ eb, eb2, prb.kept fun r o e _ => sF _ _ e, prb2, fun HG sG => k _⟩
      · refine ⟨_, rfl, p, q, 2, rfl, by decide, by decide, pn5, fun t H7 t0 t1 pn7 o7 => ⟨rfl, _, rfl, ?_⟩⟩
        have eL7 := o7 _ _ hD5 nD
        refine ite2 (fun _ => ?_) (fun _ => ?_)
        · refine ⟨by rw [hS]; show 4 ≤ 16777216; decide, fun W hW => ?_⟩
          have sW := Same.upd_new (o := .lst [V.str (Str.ofString ""), V.str (Str.ofString "A"), V.str (Str.ofString "0:300"), V.str (Str.ofString "0:2")]) hW
          have eW : (upd H7 W (.lst [V.str (Str.ofString ""), V.str (Str.ofString "A"), V.str (Str.ofString "0:300"), V.str (Str.ofString "0:2")])) W = some (.lst [V.str (Str.ofString ""), V.str (Str.ofString "A"), V.str (Str.ofString "0:300"), V.str (Str.ofString "0:2")]) := upd_same
          have nW := (pn7.ne hW).1
          refine ⟨_, rfl, p, q, 4, rfl, by decide, by decide, pn7.same sW, fun g H8 g0 g1 pn8 o8 => ?_⟩
          obtain ⟨y, hy, ya, yl⟩ : ∃ y : Str, atI [V.str (Str.ofString ""), V.str (Str.ofString "A"), V.str (Str.ofString "0:300"), V.str (Str.ofString "0:2")] g = some (.str y) ∧ Asc y ∧ y.length ≤ 5 := by
            have h : g = 0 ∨ g = 1 ∨ g = 2 ∨ g = 3 := by omega
            rcases h with rfl | rfl | rfl | rfl
            · exact ⟨Str.ofString "", rfl, (by show ∀ c ∈ cs _, c ≤ 127; decide +kernel), by decide +kernel⟩
            · exact ⟨Str.ofString "A", rfl, (by show ∀ c ∈ cs _, c ≤ 127; decide +kernel), by decide +kernel⟩
            · exact ⟨Str.ofString "0:300", rfl, (by show ∀ c ∈ cs _, c ≤ 127; decide +kernel), by decide +kernel⟩
            · exact ⟨Str.ofString "0:2", rfl, (by show ∀ c ∈ cs _, c ≤ 127; decide +kernel), by decide +kernel⟩
          have eL8 := o8 _ _ (sW _ _ eL7) nD
          refine ⟨W, _, g, _, rfl, rfl, SqL.of (o8 _ _ eW nW), hy, ?_⟩
          refine ⟨_, rfl, _, rfl, _, rfl, D, _, rfl, .inl (SqL.of eL8), p, q, _, rfl, by rw [List.length_map]; omega, by rw [List.length_map]; omega, pn8, fun u H9 u0 u1 pn9 o9 => ?_⟩
          rw [List.length_map] at u1
          refine ⟨D, _, u, u.toNat, rfl, rfl, o9 _ _ eL8 nD, ixN_of u0 (by rw [List.length_map]; omega), ?_⟩
          refine cont _ _ ⟨ks.set u.toNat y, rfl, ?_, by rw [List.length_set]; exact hkl.2, fun z hz => ?_⟩
          · rw [upd_same, List.map_set]
          · rcases List.mem_or_eq_of_mem_set hz with hz | rfl
            · exact hls z hz
            · exact ⟨ya, yl⟩
        · exact cont _ _ ⟨ks, rfl, eL7, hkl.2, hls⟩
end
end K55

set_option Elab.async false
set_option linter.all false
set_option maxRecDepth 100000
set_option maxHeartbeats 4000000
namespace L2
open PySem
theorem funN_mk {K : PySem.W.Frag} {h : Heap} {mg : Str → Option Value} {x : Str} {st : Stmt} {ps : List Str} {f : Addr} {oc : Value} {od an : Option Addr} {osl : Array (Option Value)} {kV doc pm cdv ct : Value} (X : K.In h) (G : h.Ns mainGlobals mg)
    (hb : ∀ (kV doc pm : Value) (an : Option Addr) (cdv ct : Value) (us : List Value), us.length = ps.length → bindArgs (PySem.W.fnOf x x (defArgs st) (defBody st) (defScope st) .none kV doc pm an cdv ct) ⟨us, []⟩ = pure (ps.zip us))
    (a : PySem.W.nsIn K mainGlobals x = some (some (.ref f))) (l : K.lookup f = some ⟨oc, od, .func (PySem.W.fnOf x x (defArgs st) (defBody st) (defScope st) .none kV doc pm an cdv ct), osl⟩)
    (c : PySem.W.codeIn K cdv x = true) (k : PySem.W.keepIn K (.ref f) = true) : FunN K mg x st ps := by
  have F := fun_mk (st := st) l c k
  exact ⟨f, _, F, PySem.W.mg_of X G a, F.binds hb⟩
theorem fun1_mk {K : PySem.W.Frag} {h : Heap} {mg : Str → Option Value} {x : Str} {st : Stmt} {f fa : Addr} {oc : Value} {od an : Option Addr} {osl : Array (Option Value)} {kV doc pm cdv ct : Value} (X : K.In h) (G : h.Ns mainGlobals mg) (hfa : mg x = some (.ref fa))
    (a : PySem.W.nsIn K mainGlobals x = some (some (.ref f))) (l : K.lookup f = some ⟨oc, od, .func (PySem.W.fnOf x x (defArgs st) (defBody st) (defScope st) .none kV doc pm an cdv ct), osl⟩)
    (c : PySem.W.codeIn K cdv x = true) (k : PySem.W.keepIn K (.ref f) = true) : ∃ (kV doc pm : Value) (an : Option Addr) (cdv ct : Value), Fun K x x st fa (PySem.W.fnOf x x (defArgs st) (defBody st) (defScope st) .none kV doc pm an cdv ct) := by
  have e := hfa.symm.trans (PySem.W.mg_of X G a)
  cases e
  exact ⟨_, _, _, _, _, _, fun_mk (st := st) l c k⟩
theorem str_mk {K : PySem.W.Frag} {h : Heap} {mg : Str → Option Value} {x y : Str} {t : Tok} (X : K.In h) (G : h.Ns mainGlobals mg) (a : PySem.W.nsIn K mainGlobals x = some (some (.str y t))) : ∃ t, mg x = some (.str y t) := ⟨t, PySem.W.mg_of X G a⟩
theorem int_mk {K : PySem.W.Frag} {h : Heap} {mg : Str → Option Value} {x : Str} {n : Int} {t : Tok} (X : K.In h) (G : h.Ns mainGlobals mg) (a : PySem.W.nsIn K mainGlobals x = some (some (.int n t))) : ∃ t, mg x = some (.int n t) := ⟨t, PySem.W.mg_of X G a⟩
end L2
namespace L2
open PySem PySem.W
theorem exi_mk {K : Frag} {h : Heap} {mg : Str → Option Value} {st : Stmt} {ps : List Str} (X : K.In h) (G : h.Ns mainGlobals mg) {a_PinError a_TooMany a_NoTurned a_NoRow a_GoesRound a_Missed a_NoText : Addr} {f : Addr} {oc kV dc pm cd ct : Value} {od an : Option Addr} {sl : Array (Option Value)}
    (hb : ∀ (kV doc pm : Value) (an : Option Addr) (cdv ct : Value) (us : List Value), us.length = ps.length → bindArgs (fnOf "__init__" "NoText.__init__" (defArgs st) (defBody st) (defScope st) .none kV doc pm an cdv ct) ⟨us, []⟩ = pure (ps.zip us))
    (g_PinError : nsIn K mainGlobals "PinError" = some (some (.ref a_PinError)))
    (g_TooMany : nsIn K mainGlobals "TooMany" = some (some (.ref a_TooMany)))
    (g_NoTurned : nsIn K mainGlobals "NoTurned" = some (some (.ref a_NoTurned)))
    (g_NoRow : nsIn K mainGlobals "NoRow" = some (some (.ref a_NoRow)))
    (g_GoesRound : nsIn K mainGlobals "GoesRound" = some (some (.ref a_GoesRound)))
    (g_Missed : nsIn K mainGlobals "Missed" = some (some (.ref a_Missed)))
    (g_NoText : nsIn K mainGlobals "NoText" = some (some (.ref a_NoText)))
    (i0 : findIn K (.ref a_NoText) "__init__" = some (some (.ref f))) (i3 : K.lookup f = some ⟨oc, od, .func (fnOf "__init__" "NoText.__init__" (defArgs st) (defBody st) (defScope st) .none kV dc pm an cd ct), sl⟩) (i4 : codeIn K cd "NoText.__init__" = true) (i5 : keepIn K (.ref f) = true)
    (i1 : excInI K a_NoText bmVE "ValueError.__new__" f = true) (i2 : oc = .type "function")
    (j1 : findIn K (.ref a_NoText) "__setattr__" = some (some (.builtin "object.__setattr__"))) (j2 : (clsIn K a_NoText).any (fun cd => onlyExc cd.mro && cd.hasDict) = true) (j3 : takerIn K a_NoText "number" = some none) (j4 : findIn K (.ref a_NoText) "number" = some none)
    (b1 : specialIn K (.ref a_PinError) "__getattribute__" = some (some (.builtin "type.__getattribute__"))) (b2 : readsIn K a_PinError (.type "type") = true) (b3 : (match findCls K (.ref a_PinError) (.type "type") "__init__" with | some (.val (.builtin "ValueError.__init__")) => true | _ => false) = true)
    (e2 : findIn K (.ref a_NoText) "__getattribute__" = some (some (.builtin "BaseException.__getattribute__"))) (e3 : findIn K (.ref a_NoText) "__getattr__" = some none) (e4 : subIn K (.ref a_NoText) (.type "BaseException") = some true)
    (e5 : findIn K (.ref a_NoText) "__class__" = some (some (.builtin "object.__class__"))) (e6 : specialIn K (.builtin "object.__class__") "__get__" = some (some (.builtin "getset_descriptor.__get__"))) (e7 : takesIn K (.builtin "object.__class__") = some true)
    (e8 : mroIn K a_NoText (.type "object") = some true) (e9 : (clsIn K a_NoText).isSome = true) (e10 : kitCls K (.ref a_NoText) (.ref a_NoText) = some true) (e11 : exmOne K (.ref a_NoText) (.ref a_PinError) = some true) (e12 : kitAny K (.ref a_NoText) ([a_GoesRound, a_Missed, a_NoRow, a_NoTurned, a_TooMany].map Value.ref) = some false)
    (e13 : kitOne K (.ref a_NoText) (.ref a_NoText) = some true) (e14 : kitOne K (.ref a_NoText) (.type "ValueError") = some true) :
    ∃ d : L2.Ads, L2.ExG mg d ∧ FunX K mg "NoText" d.NoText "number" "NoText.__init__" st ps ∧ ExB K mg "PinError" d.PinError ∧ ExR1 K d.NoText "number" ∧ ExR K d.NoText d.PinError [d.GoesRound, d.Missed, d.NoRow, d.NoTurned, d.TooMany] := by
  have F := fun_mk (st := st) i3 i4 i5
  obtain ⟨cdx, hc, ho⟩ := any_some j2
  rw [Bool.and_eq_true] at ho
  refine ⟨⟨a_PinError, a_TooMany, a_NoTurned, a_NoRow, a_GoesRound, a_Missed, a_NoText⟩, ⟨mg_of X G g_PinError, mg_of X G g_TooMany, mg_of X G g_NoTurned, mg_of X G g_NoRow, mg_of X G g_GoesRound, mg_of X G g_Missed, mg_of X G g_NoText⟩, ⟨f, _, ⟨mg_of X G g_NoText, i1, by rw [i3, i2]; rfl⟩, F, F.binds hb, ⟨j1, ⟨cdx, hc, ho.1, ho.2⟩, j3⟩⟩, ⟨mg_of X G g_PinError, b1, b2, ?_⟩, ⟨⟨e2, e3, e4⟩, ⟨cdx, hc, ho.2⟩, j4⟩, ⟨⟨⟨e2, e3, e4⟩, e5, e6, e7, e8, e9, e10⟩, e11, e12, e13, e14⟩⟩
  split at b3
  · assumption
  · cases b3
end L2
namespace K55
open PySem L2
theorem fin {l : PySem.W.OpenLaw} {w : World} {K : PySem.W.Frag} {mg : Str → Option Value} {fa : Addr} {kV doc pm : Value} {an : Option Addr} {cdv ct : Value} (T : Bu mg) {d : L2.Ads} (GX : L2.ExG mg d) (XF : FunX K mg "NoText" d.NoText "number" "NoText.__init__" s_NoText___init__ P_NoText___init__) (XB : ExB K mg "PinError" d.PinError) (X1 : ExR1 K d.NoText "number") (XR : ExR K d.NoText d.PinError [d.GoesRound, d.Missed, d.NoRow, d.NoTurned, d.TooMany])
    (F_is_letter : FunN K mg "is_letter" s_is_letter P_is_letter)
    (F_is_one_letter : FunN K mg "is_one_letter" s_is_one_letter P_is_one_letter)
    (F_length_of : FunN K mg "length_of" s_length_of P_length_of)
    (F_reach_of : FunN K mg "reach_of" s_reach_of P_reach_of)
    (F_form_text : FunN K mg "form_text" s_form_text P_form_text)
    (F_part_word : FunN K mg "part_word" s_part_word P_part_word)
    (F_read_number : FunN K mg "read_number" s_read_number P_read_number)
    (F_read_form : FunN K mg "read_form" s_read_form P_read_form)
    (F_read_parts : FunN K mg "read_parts" s_read_parts P_read_parts)
    (F_read_part : FunN K mg "read_part" s_read_part P_read_part)
    (F__law_pen : FunN K mg "_law_pen" s_law_pen P_law_pen)
    (F__law_take : FunN K mg "_law_take" s_law_take P_law_take)
    (F__law_letter : FunN K mg "_law_letter" s_law_letter P_law_letter)
    (F__law_same : FunN K mg "_law_same" s_law_same P_law_same)
    (F__law_any_form : FunN K mg "_law_any_form" s_law_any_form P_law_any_form)
    (F__law_form_text : FunN K mg "_law_form_text" s_law_form_text P_law_form_text)
    (F__law_number : FunN K mg "_law_number" s_law_number P_law_number)
    (F__law_bent_words : FunN K mg "_law_bent_words" s_law_bent_words P_law_bent_words)
    (F__law_part : FunN K mg "_law_part" s_law_part P_law_part)
    (F__law_due : FunN K mg "_law_due" s_law_due P_law_due)
    (F__law_told : FunN K mg "_law_told" s_law_told P_law_told)
    (F__law_sign_spoilt : FunN K mg "_law_sign_spoilt" s_law_sign_spoilt P_law_sign_spoilt)
    (FL : Fun K "law" "law" s_law fa (PySem.W.fnOf "law" "law" (defArgs s_law) (defBody s_law) (defScope s_law) .none kV doc pm an cdv ct)) :
    ∃ fd : FuncData, (∀ (s : Shared) (u : Value), BindsTo s fd ⟨[u], []⟩ [("script", u)]) ∧ ∀ base : Heap, K.In base → base.Ns mainGlobals mg → FnOk l.prog w K mg base CX0 7 fa fd ["script"] (spLaw K) := by
  refine ⟨PySem.W.fnOf "law" "law" (defArgs s_law) (defBody s_law) (defScope s_law) .none kV doc pm an cdv ct, fun s u => .of_eq rfl, fun base _ _ => ?_⟩
  have take := ok_take (P := l.prog) (w := w) (base := base) F__law_take T
  have letter := ok_letter F__law_letter T take
  have pen := ok_pen (P := l.prog) (w := w) (base := base) F__law_pen T
  have isl := ok_isLet (P := l.prog) (w := w) (base := base) F_is_letter T
  have num := ok_num (P := l.prog) (w := w) (base := base) F_read_number T
  have ones := ok_oneS F_is_one_letter T isl
  have lnum := ok_lnum (P := l.prog) (w := w) (base := base) F__law_number T
  have len := ok_len (P := l.prog) (w := w) (base := base) F_length_of T
  have rch := ok_rch (P := l.prog) (w := w) (base := base) F_reach_of T
  have rpart := ok_rpart F_read_part T ones num
  have init := ok_initN (P := l.prog) (w := w) (base := base) XF XB
  have parts := ok_parts F_read_parts T rpart len
  have partsx := ok_partsX F_read_parts T init rpart len
  have form := ok_form F_read_form T parts len rch
  have formx := ok_formX F_read_form T init parts partsx len rch
  have same0 := ok_same0 (P := l.prog) (w := w) (base := base) F__law_same T
  have samet := ok_sameT F__law_same T same0
  have same2 := ok_same2 F__law_same T samet
  have told := ok_told F__law_told T GX XR X1 form formx
  have lpart := ok_lpart F__law_part T lnum
  have due := ok_due F__law_due T lpart
  have word := ok_word (P := l.prog) (w := w) (base := base) F_part_word T
  have ftext := ok_ftext F_form_text T word
  have lftext := ok_lftext (P := l.prog) (w := w) (base := base) F__law_form_text T
  have af := ok_af F__law_any_form T take letter
  have bw := ok_bw F__law_bent_words T take
  have spoilt := ok_spoilt F__law_sign_spoilt T take
  exact ok_law FL T pen af lftext ftext same2 form bw told due spoilt take letter
end K55
open PySem PySem.W PyProof.Rows
set_option maxRecDepth 100000 in
set_option maxHeartbeats 0 in
theorem PySem.Challenge.cw_touchpin_k55_forms_written_and_read_holds : PySem.Challenge.rw_touchpin_k55_forms_written_and_read.Holds := by
  w_on; o_law; k_head; (case hw => w_witness2)
  k_fill
  refine L2.walk_ofK (l := PySem.Challenge.rw_touchpin_k55_forms_written_and_read) (n := 63) (k := 7) (x := "script") (CX := L2.CX0) (sp := K55.spLaw) rfl (by decide) rfl ⟨rfl, rfl, by decide, by decide⟩ (fun w h Y => PySem.W.kIn_of Y) ?F ?S ?C
  case F =>
    intro w mg fa h KX G hmg
    have b_isinstance : mg "isinstance" = none := by
      refine' PySem.W.mg_none_of KX G ?z
      (case z => k_is)
    have b_str : mg "str" = none := by
      refine' PySem.W.mg_none_of KX G ?z
      (case z => k_is)
    have b_int : mg "int" = none := by
      refine' PySem.W.mg_none_of KX G ?z
      (case z => k_is)
    have b_bool : mg "bool" = none := by
      refine' PySem.W.mg_none_of KX G ?z
      (case z => k_is)
    have b_tuple : mg "tuple" = none := by
      refine' PySem.W.mg_none_of KX G ?z
      (case z => k_is)
    have b_list : mg "list" = none := by
      refine' PySem.W.mg_none_of KX G ?z
      (case z => k_is)
    have b_len : mg "len" = none := by
      refine' PySem.W.mg_none_of KX G ?z
      (case z => k_is)
    have b_range : mg "range" = none := by
      refine' PySem.W.mg_none_of KX G ?z
      (case z => k_is)
    have b_min : mg "min" = none := by
      refine' PySem.W.mg_none_of KX G ?z
      (case z => k_is)
    have b_sum : mg "sum" = none := by
      refine' PySem.W.mg_none_of KX G ?z
      (case z => k_is)
    have b_all : mg "all" = none := by
      refine' PySem.W.mg_none_of KX G ?z
      (case z => k_is)
    have b_enumerate : mg "enumerate" = none := by
      refine' PySem.W.mg_none_of KX G ?z
      (case z => k_is)
    have b_zip : mg "zip" = none := by
      refine' PySem.W.mg_none_of KX G ?z
      (case z => k_is)
    have b_ValueError : mg "ValueError" = none := by
      refine' PySem.W.mg_none_of KX G ?z
      (case z => k_is)
    have b_MOST_SIGNS : ∃ t, mg "MOST_SIGNS" = some (.int 300 t) := by
      refine' L2.int_mk KX G ?z
      (case z => k_is)
    have b_MOST_FIGURES : ∃ t, mg "MOST_FIGURES" = some (.int 3 t) := by
      refine' L2.int_mk KX G ?z
      (case z => k_is)
    have b_FIGURES : ∃ t, mg "FIGURES" = some (.str "0123456789" t) := by
      refine' L2.str_mk KX G ?z
      (case z => k_is)
    have F_is_letter : L2.FunN (L2.KOf KX) mg "is_letter" K55.s_is_letter K55.P_is_letter := by
      dsimp only [L2.KOf]
      refine' L2.funN_mk KX G (fun _ _ _ _ _ _ us hl => match us, hl with | [_], _ => rfl) ?a ?l ?c ?k
      (case a => k_is); (case l => k_is); (case c => k_is); (case k => k_is)
    have F_is_one_letter : L2.FunN (L2.KOf KX) mg "is_one_letter" K55.s_is_one_letter K55.P_is_one_letter := by
      dsimp only [L2.KOf]
      refine' L2.funN_mk KX G (fun _ _ _ _ _ _ us hl => match us, hl with | [_], _ => rfl) ?a ?l ?c ?k
      (case a => k_is); (case l => k_is); (case c => k_is); (case k => k_is)
    have F_length_of : L2.FunN (L2.KOf KX) mg "length_of" K55.s_length_of K55.P_length_of := by
      dsimp only [L2.KOf]
      refine' L2.funN_mk KX G (fun _ _ _ _ _ _ us hl => match us, hl with | [_], _ => rfl) ?a ?l ?c ?k
      (case a => k_is); (case l => k_is); (case c => k_is); (case k => k_is)
    have F_reach_of : L2.FunN (L2.KOf KX) mg "reach_of" K55.s_reach_of K55.P_reach_of := by
      dsimp only [L2.KOf]
      refine' L2.funN_mk KX G (fun _ _ _ _ _ _ us hl => match us, hl with | [_], _ => rfl) ?a ?l ?c ?k
      (case a => k_is); (case l => k_is); (case c => k_is); (case k => k_is)
    have F_form_text : L2.FunN (L2.KOf KX) mg "form_text" K55.s_form_text K55.P_form_text := by
      dsimp only [L2.KOf]
      refine' L2.funN_mk KX G (fun _ _ _ _ _ _ us hl => match us, hl with | [_], _ => rfl) ?a ?l ?c ?k
      (case a => k_is); (case l => k_is); (case c => k_is); (case k => k_is)
    have F_part_word : L2.FunN (L2.KOf KX) mg "part_word" K55.s_part_word K55.P_part_word := by
      dsimp only [L2.KOf]
      refine' L2.funN_mk KX G (fun _ _ _ _ _ _ us hl => match us, hl with | [_], _ => rfl) ?a ?l ?c ?k
      (case a => k_is); (case l => k_is); (case c => k_is); (case k => k_is)
    have F_read_number : L2.FunN (L2.KOf KX) mg "read_number" K55.s_read_number K55.P_read_number := by
      dsimp only [L2.KOf]
      refine' L2.funN_mk KX G (fun _ _ _ _ _ _ us hl => match us, hl with | [_], _ => rfl) ?a ?l ?c ?k
      (case a => k_is); (case l => k_is); (case c => k_is); (case k => k_is)
    have F_read_form : L2.FunN (L2.KOf KX) mg "read_form" K55.s_read_form K55.P_read_form := by
      dsimp only [L2.KOf]
      refine' L2.funN_mk KX G (fun _ _ _ _ _ _ us hl => match us, hl with | [_], _ => rfl) ?a ?l ?c ?k
      (case a => k_is); (case l => k_is); (case c => k_is); (case k => k_is)
    have F_read_parts : L2.FunN (L2.KOf KX) mg "read_parts" K55.s_read_parts K55.P_read_parts := by
      dsimp only [L2.KOf]
      refine' L2.funN_mk KX G (fun _ _ _ _ _ _ us hl => match us, hl with | [_], _ => rfl) ?a ?l ?c ?k
      (case a => k_is); (case l => k_is); (case c => k_is); (case k => k_is)
    have F_read_part : L2.FunN (L2.KOf KX) mg "read_part" K55.s_read_part K55.P_read_part := by
      dsimp only [L2.KOf]
      refine' L2.funN_mk KX G (fun _ _ _ _ _ _ us hl => match us, hl with | [_], _ => rfl) ?a ?l ?c ?k
      (case a => k_is); (case l => k_is); (case c => k_is); (case k => k_is)
    have F__law_pen : L2.FunN (L2.KOf KX) mg "_law_pen" K55.s_law_pen K55.P_law_pen := by
      dsimp only [L2.KOf]
      refine' L2.funN_mk KX G (fun _ _ _ _ _ _ us hl => match us, hl with | [_], _ => rfl) ?a ?l ?c ?k
      (case a => k_is); (case l => k_is); (case c => k_is); (case k => k_is)
    have F__law_take : L2.FunN (L2.KOf KX) mg "_law_take" K55.s_law_take K55.P_law_take := by
      dsimp only [L2.KOf]
      refine' L2.funN_mk KX G (fun _ _ _ _ _ _ us hl => match us, hl with | [_, _], _ => rfl) ?a ?l ?c ?k
      (case a => k_is); (case l => k_is); (case c => k_is); (case k => k_is)
    have F__law_letter : L2.FunN (L2.KOf KX) mg "_law_letter" K55.s_law_letter K55.P_law_letter := by
      dsimp only [L2.KOf]
      refine' L2.funN_mk KX G (fun _ _ _ _ _ _ us hl => match us, hl with | [_, _], _ => rfl) ?a ?l ?c ?k
      (case a => k_is); (case l => k_is); (case c => k_is); (case k => k_is)
    have F__law_same : L2.FunN (L2.KOf KX) mg "_law_same" K55.s_law_same K55.P_law_same := by
      dsimp only [L2.KOf]
      refine' L2.funN_mk KX G (fun _ _ _ _ _ _ us hl => match us, hl with | [_, _], _ => rfl) ?a ?l ?c ?k
      (case a => k_is); (case l => k_is); (case c => k_is); (case k => k_is)
    have F__law_any_form : L2.FunN (L2.KOf KX) mg "_law_any_form" K55.s_law_any_form K55.P_law_any_form := by
      dsimp only [L2.KOf]
      refine' L2.funN_mk KX G (fun _ _ _ _ _ _ us hl => match us, hl with | [_], _ => rfl) ?a ?l ?c ?k
      (case a => k_is); (case l => k_is); (case c => k_is); (case k => k_is)
    have F__law_form_text : L2.FunN (L2.KOf KX) mg "_law_form_text" K55.s_law_form_text K55.P_law_form_text := by
      dsimp only [L2.KOf]
      refine' L2.funN_mk KX G (fun _ _ _ _ _ _ us hl => match us, hl with | [_], _ => rfl) ?a ?l ?c ?k
      (case a => k_is); (case l => k_is); (case c => k_is); (case k => k_is)
    have F__law_number : L2.FunN (L2.KOf KX) mg "_law_number" K55.s_law_number K55.P_law_number := by
      dsimp only [L2.KOf]
      refine' L2.funN_mk KX G (fun _ _ _ _ _ _ us hl => match us, hl with | [_], _ => rfl) ?a ?l ?c ?k
      (case a => k_is); (case l => k_is); (case c => k_is); (case k => k_is)
    have F__law_bent_words : L2.FunN (L2.KOf KX) mg "_law_bent_words" K55.s_law_bent_words K55.P_law_bent_words := by
      dsimp only [L2.KOf]
      refine' L2.funN_mk KX G (fun _ _ _ _ _ _ us hl => match us, hl with | [_, _], _ => rfl) ?a ?l ?c ?k
      (case a => k_is); (case l => k_is); (case c => k_is); (case k => k_is)
    have F__law_part : L2.FunN (L2.KOf KX) mg "_law_part" K55.s_law_part K55.P_law_part := by
      dsimp only [L2.KOf]
      refine' L2.funN_mk KX G (fun _ _ _ _ _ _ us hl => match us, hl with | [_], _ => rfl) ?a ?l ?c ?k
      (case a => k_is); (case l => k_is); (case c => k_is); (case k => k_is)
    have F__law_due : L2.FunN (L2.KOf KX) mg "_law_due" K55.s_law_due K55.P_law_due := by
      dsimp only [L2.KOf]
      refine' L2.funN_mk KX G (fun _ _ _ _ _ _ us hl => match us, hl with | [_], _ => rfl) ?a ?l ?c ?k
      (case a => k_is); (case l => k_is); (case c => k_is); (case k => k_is)
    have F__law_told : L2.FunN (L2.KOf KX) mg "_law_told" K55.s_law_told K55.P_law_told := by
      dsimp only [L2.KOf]
      refine' L2.funN_mk KX G (fun _ _ _ _ _ _ us hl => match us, hl with | [_], _ => rfl) ?a ?l ?c ?k
      (case a => k_is); (case l => k_is); (case c => k_is); (case k => k_is)
    have F__law_sign_spoilt : L2.FunN (L2.KOf KX) mg "_law_sign_spoilt" K55.s_law_sign_spoilt K55.P_law_sign_spoilt := by
      dsimp only [L2.KOf]
      refine' L2.funN_mk KX G (fun _ _ _ _ _ _ us hl => match us, hl with | [_, _], _ => rfl) ?a ?l ?c ?k
      (case a => k_is); (case l => k_is); (case c => k_is); (case k => k_is)
    have FL : ∃ (kV doc pm : Value) (an : Option Addr) (cdv ct : Value), L2.Fun (L2.KOf KX) "law" "law" K55.s_law fa (PySem.W.fnOf "law" "law" (L2.defArgs K55.s_law) (L2.defBody K55.s_law) (L2.defScope K55.s_law) .none kV doc pm an cdv ct) := by
      dsimp only [L2.KOf]
      refine' L2.fun1_mk KX G hmg ?a ?l ?c ?k
      (case a => k_is); (case l => k_is); (case c => k_is); (case k => k_is)
    obtain ⟨kV, doc, pm, an, cdv, ct, FL⟩ := FL
    have HX : ∃ d : L2.Ads, L2.ExG mg d ∧ L2.FunX (L2.KOf KX) mg "NoText" d.NoText "number" "NoText.__init__" K55.s_NoText___init__ K55.P_NoText___init__ ∧ L2.ExB (L2.KOf KX) mg "PinError" d.PinError ∧ L2.ExR1 (L2.KOf KX) d.NoText "number" ∧ L2.ExR (L2.KOf KX) d.NoText d.PinError [d.GoesRound, d.Missed, d.NoRow, d.NoTurned, d.TooMany] := by
      dsimp only [L2.KOf]
      refine' L2.exi_mk KX G (fun _ _ _ _ _ _ us hl => match us, hl with | [_, _], _ => rfl) ?g_PinError ?g_TooMany ?g_NoTurned ?g_NoRow ?g_GoesRound ?g_Missed ?g_NoText ?i0 ?i3 ?i4 ?i5 ?i1 ?i2 ?j1 ?j2 ?j3 ?j4 ?b1 ?b2 ?b3 ?e2 ?e3 ?e4 ?e5 ?e6 ?e7 ?e8 ?e9 ?e10 ?e11 ?e12 ?e13 ?e14
      (case g_PinError => k_is)
      (case g_TooMany => k_is)
      (case g_NoTurned => k_is)
      (case g_NoRow => k_is)
      (case g_GoesRound => k_is)
      (case g_Missed => k_is)
      (case g_NoText => k_is)
      (case i0 => first | k_is | k_exc | kit_is | kts_exm | kernel_rfl)
      (case i3 => first | k_is | k_exc | kit_is | kts_exm | kernel_rfl)
      (case i4 => first | k_is | k_exc | kit_is | kts_exm | kernel_rfl)
      (case i5 => first | k_is | k_exc | kit_is | kts_exm | kernel_rfl)
      (case i1 => first | k_is | k_exc | kit_is | kts_exm | kernel_rfl)
      (case i2 => first | k_is | k_exc | kit_is | kts_exm | kernel_rfl)
      (case j1 => first | k_is | k_exc | kit_is | kts_exm | kernel_rfl)
      (case j2 => first | k_is | k_exc | kit_is | kts_exm | kernel_rfl)
      (case j3 => first | k_is | k_exc | kit_is | kts_exm | kernel_rfl)
      (case j4 => first | k_is | k_exc | kit_is | kts_exm | kernel_rfl)
      (case b1 => first | k_is | k_exc | kit_is | kts_exm | kernel_rfl)
      (case b2 => first | k_is | k_exc | kit_is | kts_exm | kernel_rfl)
      (case b3 => first | k_is | k_exc | kit_is | kts_exm | kernel_rfl)
      (case e2 => first | k_is | k_exc | kit_is | kts_exm | kernel_rfl)
      (case e3 => first | k_is | k_exc | kit_is | kts_exm | kernel_rfl)
      (case e4 => first | k_is | k_exc | kit_is | kts_exm | kernel_rfl)
      (case e5 => first | k_is | k_exc | kit_is | kts_exm | kernel_rfl)
      (case e6 => first | k_is | k_exc | kit_is | kts_exm | kernel_rfl)
      (case e7 => first | k_is | k_exc | kit_is | kts_exm | kernel_rfl)
      (case e8 => first | k_is | k_exc | kit_is | kts_exm | kernel_rfl)
      (case e9 => first | k_is | k_exc | kit_is | kts_exm | kernel_rfl)
      (case e10 => first | k_is | k_exc | kit_is | kts_exm | kernel_rfl)
      (case e11 => first | k_is | k_exc | kit_is | kts_exm | kernel_rfl)
      (case e12 => first | k_is | k_exc | kit_is | kts_exm | kernel_rfl)
      (case e13 => first | k_is | k_exc | kit_is | kts_exm | kernel_rfl)
      (case e14 => first | k_is | k_exc | kit_is | kts_exm | kernel_rfl)
    obtain ⟨d, GX, XF, XB, X1, XR⟩ := HX
    exact K55.fin ⟨b_isinstance, b_str, b_int, b_bool, b_tuple, b_list, b_len, b_range, b_min, b_sum, b_all, b_enumerate, b_zip, b_ValueError, b_MOST_SIGNS, b_MOST_FIGURES, b_FIGURES⟩ GX XF XB X1 XR F_is_letter F_is_one_letter F_length_of F_reach_of F_form_text F_part_word F_read_number F_read_form F_read_parts F_read_part F__law_pen F__law_take F__law_letter F__law_same F__law_any_form F__law_form_text F__law_number F__law_bent_words F__law_part F__law_due F__law_told F__law_sign_spoilt FL
  case S => exact fun K H a ns hl _ hS => ⟨a, ns, rfl, hS, fun _ => rfl⟩
  case C => exact fun _ _ _ _ z => z
#print axioms PySem.Challenge.cw_touchpin_k55_forms_written_and_read_holds

